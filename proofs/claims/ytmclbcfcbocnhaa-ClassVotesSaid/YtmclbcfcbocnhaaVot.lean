/- The walk of ClassVotes. Condition: the slice reads as the list of numbers. -/
import Derived.Test.YtmclbcfcbocnhaaVmath
import Derived.Test.YtmclbcfcbocnhaaRot
set_option linter.unusedSimpArgs false
set_option linter.unusedVariables false
namespace Go.Proofs.Ytmclbcfcbocnhaa.Wk
open Go.RowKit
open Go.Proofs.Ytmclbcfcbocnhaa.Mt
open Go.Proofs.Ytmclbcfcbocnhaa.Rot
theorem Ri.up {w w' : World} {A : Option Addr} {n : Nat} {zs : List Int} (h : Ri w w.heap.size A n zs) (hb : Below w.heap.size w w') : Ri w' w'.heap.size A n zs := by
  have h2 := h.below hb (Nat.le_refl _)
  exact ⟨h2.1, h2.2.1, fun h => by obtain ⟨b, off, e, hb', hc⟩ := h2.2.2 h; exact ⟨b, off, e, Nat.lt_of_lt_of_le hb' hb.size, hc⟩⟩
theorem int_info : (Try.prog.info? 3).map (fun i => (i.zero, i.size, i.bytes)) = some (some (.int .i64 0), 1, 8) := by kernel_rfl
/-- a part of a slice that came in, as the source of an append -/
theorem src_cells {w w2 : World} {B : Nat} {A ao : Option Addr} {n s m : Nat} {zs : List Int} (h : Ri w B A n zs) (hb : Below B w w2) (hs : s + m ≤ n) (ha : ∀ b off, A = some ⟨b, off, none⟩ → 0 < m → ao = some ⟨b, off + s, none⟩) :
    ∀ ad, ao = some ad → ∀ j u, (((zs.drop s).take m).map (Value.int .i64))[j]? = some u → w2.cell? (ad.add j) = some u := by
  intro ad had j u hu
  have hj : j < m := by
    rcases Nat.lt_or_ge j m with h1 | h1
    · exact h1
    · rw [List.getElem?_eq_none (by simp; omega)] at hu; cases hu
  obtain ⟨b, off, e, hlt, hc⟩ := h.2.2 (by omega)
  have e2 := ha b off e (by omega)
  rw [e2] at had
  injection had with had
  subst had
  have h3 := (hb.cell (p := ⟨b, off + (s + j), none⟩) hlt).trans (hc (s + j) (by omega))
  have hz : s + j < zs.length := by rw [h.1]; omega
  rw [List.getElem?_map, List.getElem?_take, if_pos hj, List.getElem?_drop, List.getElem?_eq_getElem hz] at hu
  simp at hu
  subst hu
  have e4 : (⟨b, off + s, none⟩ : Addr).add j = ⟨b, off + (s + j), none⟩ := by
    unfold Addr.add
    by_cases hj0 : j = 0
    · subst hj0; simp
    · simp [hj0]; omega
  rw [e4, h3]
  simp [List.getD, List.getElem?_eq_getElem hz]
theorem tk_all {zs : List Int} {n t : Nat} (hl : zs.length = n) : (zs.drop t).take (n - t) = zs.drop t := List.take_of_length_le (by simp; omega)
theorem turn_map {zs : List Int} {n t : Nat} (hl : zs.length = n) : ((zs.drop t).take (n - t)).map (Value.int .i64) ++ ((zs.drop 0).take t).map (Value.int .i64) = (zs.drop t ++ zs.take t).map (Value.int .i64) := by
  rw [List.map_append, List.drop_zero, tk_all hl]
theorem turn_map2 {zs : List Int} {n : Nat} (t : Nat) (hl : zs.length = n) : ((zs.drop t).take (n - t)).map (Value.int .i64) ++ ((zs.drop 0).take t).map (Value.int .i64) = (zs.drop t ++ zs.take t).map (Value.int .i64) := turn_map hl
theorem ints_one (l : List Int) : ∀ u ∈ l.map (Value.int .i64), u.oneCell' = true := by
  intro u hu
  rw [List.mem_map] at hu
  obtain ⟨x, _, rfl⟩ := hu
  rfl
theorem Ri.owned {w : World} {base g n cap : Nat} {zs : List Int} (h : w.ownsRow base 3 1 (.slice (some ⟨g, 0, none⟩) n cap) n (zs.map (Value.int .i64))) (hl : n ≤ 9223372036854775807) : Ri w w.heap.size (some ⟨g, 0, none⟩) n zs := by
  have hlen : zs.length = n := by have := h.1; simpa using this
  refine ⟨hlen, hl, fun hn => ⟨g, 0, rfl, (h.lt g rfl).2, fun i hi => ?_⟩⟩
  rw [Nat.zero_add, h.cellAt i (by omega), List.getElem?_map, List.getElem?_eq_getElem (by omega)]
  simp [List.getD, List.getElem?_eq_getElem (show i < zs.length by omega)]
set_option maxHeartbeats 8000000 in
set_option maxRecDepth 100000 in
theorem votes_law (A : Option Addr) (n c : Nat) (zs : List Int) (t : Int) (w : World) (h : Ri w w.heap.size A n zs) (hnc : n ≤ c) (hnil : A = none → c = 0) (hsp : 0 < c → ∀ b o sp, A = some ⟨b, o, sp⟩ → sp = none) :
    Calls Try.prog 8 #[.slice A n c, .int .i64 t] w fun e w' => e = .returned (.bool true) ∧ Below w.heap.size w w' := by
  have hn := h.2.1
  have HL := Lib.hid h.1
  have HR := Lib.hid h
  clear h
  by_cases q1 : 100 < n
  · have q1' : (100 : Int) < (n : Int) := by omega
    go_enter Try.func8, Try.ntmps8
    go_wp2_with (first | (go_at_call 9; refine (awake_any _).mono ?_; rintro e w1 ⟨rfl, hb⟩))
    go_ret
    exact ⟨rfl, hb⟩
  have q1' : decide ((100 : Int) < (n : Int)) = false := decide_eq_false (by omega)
  by_cases q2 : t < 0
  · skip
    go_enter Try.func8, Try.ntmps8
    go_wp2_with (first | (go_at_call 9; refine (awake_any _).mono ?_; rintro e w1 ⟨rfl, hb⟩))
    go_ret
    exact ⟨rfl, hb⟩
  have q2' : decide (t < 0) = false := decide_eq_false q2
  by_cases q3 : (n : Int) < t
  · skip
    go_enter Try.func8, Try.ntmps8
    go_wp2_with (first | (go_at_call 9; refine (awake_any _).mono ?_; rintro e w1 ⟨rfl, hb⟩))
    go_ret
    exact ⟨rfl, hb⟩
  have q3' : decide ((n : Int) < t) = false := decide_eq_false q3
  obtain ⟨t, rfl⟩ : ∃ k : Nat, t = (k : Int) := ⟨t.toNat, by omega⟩
  have htn : t ≤ n := by omega
  have htI : (t : Int) ≤ (n : Int) := by omega
  have htI0 : (0 : Int) ≤ (t : Int) := by omega
  obtain ⟨f1, f2, f3⟩ := maj_facts zs
  rw [HL.out] at f2 f3
  obtain ⟨b, hb0⟩ : ∃ b, majS zs = b := ⟨_, rfl⟩
  rw [hb0] at f1 f2 f3
  have HB := Lib.hid hb0
  have HF2 := Lib.hid f2
  have HF3 := Lib.hid f3
  clear hb0 f2 f3
  have hbI : (b : Int) ≤ 9 := by omega
  have hb10 : b < 10 := by omega
  have q4 : decide ((b : Int) < 0) = false := decide_eq_false (by omega)
  have q5 : decide ((9 : Int) < (b : Int)) = false := decide_eq_false (by omega)
  go_enter Try.func8, Try.ntmps8
  go_wp2_with fail
  refine (majority_any A n c zs _ HR.out).mono ?_
  rintro e w1 ⟨rfl, hbl⟩
  rw [HB.out]
  have HBL := Lib.hid hbl
  clear hbl
  go_wp2_with fail
  go_loopw [7, 30] (fun s i wr => ∃ k : Nat, k ≤ n ∧ i = .int .i64 k ∧ s = .bool (sm zs k) ∧ Hid (Below w.heap.size w wr) ∧ Hid (w1.heap.size < wr.heap.size) ∧ Hid (Ten wr w1.heap.size 41 (fun j => .int .i64 (cN zs k j)))) (fun _ i _ => n - (intOf i).toNat)
  case atStart => exact ⟨0, Nat.zero_le _, rfl, by rw [sm_zero], Lib.hid (HBL.out.alloc HBL.out.size _), Lib.hid (by simp), Lib.hid (Ten.new _ _ _ _ (by simp [cN_start]; rfl))⟩
  case round =>
    obtain ⟨k, hk, rfl, rfl, HW, HS, H⟩ := hrel
    by_cases hlt : k < n
    · have hltI : (k : Int) < (n : Int) := by omega
      obtain ⟨bz, oz, rfl, hbz, hc⟩ := (HR.out.below HW.out (Nat.le_refl _)).2.2 (by omega)
      have c1 := hc k hlt
      clear hc
      have hlen : k < zs.length := by rw [HL.out]; omega
      have lg := H.out.lt
      by_cases g1 : 1 ≤ zs.getD k 0 ∧ zs.getD k 0 ≤ 9
      · have HSM := Lib.hid (sm_yes g1)
        obtain ⟨d, hd⟩ : ∃ d : Nat, zs.getD k 0 = (d : Int) := ⟨(zs.getD k 0).toNat, by omega⟩
        have hd9 : 1 ≤ d ∧ d ≤ 9 := by omega
        have hd1 : (1 : Int) ≤ (d : Int) := by omega
        have hd2 : (d : Int) ≤ 9 := by omega
        have hd3 : d < 10 := by omega
        have c2 := H.out.cell hd3
        have c3 := H.out.frozen d
        have c4 := cN_le zs k d
        have c5 : (cN zs k d : Int) ≤ k := by omega
        rw [hd] at c1
        have HN := Lib.hid (count_hit H.out hlen hd9 hd)
        clear hd g1
        go_wp2_with fail
        go_roundw
        case rel => exact ⟨k + 1, by omega, by go_num, by rw [HSM.out], Lib.hid (HW.out.setCell HBL.out.size _), Lib.hid (by simpa using HS.out), HN⟩
        case measure => simp [intOf]; omega
      · have HSM := Lib.hid (sm_no g1)
        have HN := Lib.hid (count_miss H.out hlen g1)
        obtain ⟨z, hz⟩ : ∃ z, zs.getD k 0 = z := ⟨_, rfl⟩
        rw [hz] at c1 g1
        by_cases g2 : 1 ≤ z
        · have g3 : decide (z ≤ 9) = false := decide_eq_false (by omega)
          have g2' : decide (1 ≤ z) = true := decide_eq_true g2
          clear g1 g2 hz
          go_wp2_with fail
          go_roundw
          case rel => exact ⟨k + 1, by omega, by go_num, by rw [HSM.out], HW, HS, HN⟩
          case measure => simp [intOf]; omega
        · have g2' : decide (1 ≤ z) = false := decide_eq_false g2
          clear g1 g2 hz
          go_wp2_with fail
          go_roundw
          case rel => exact ⟨k + 1, by omega, by go_num, by rw [HSM.out], HW, HS, HN⟩
          case measure => simp [intOf]; omega
    · have hltI : ¬ (k : Int) < (n : Int) := by omega
      obtain rfl : k = n := by omega
      have HG : Hid (decide ((0 : Int) < (b : Int)) = sm zs k) := Lib.hid (by rw [Bool.eq_iff_iff]; have := HF2.out; simp only [decide_eq_true_eq]; constructor; intro h; exact this.1 (by omega); intro h; have := this.2 h; omega)
      obtain ⟨s, hs⟩ : ∃ s, sm zs k = s := ⟨_, rfl⟩
      rw [hs] at HG ⊢
      have gs := HG.out
      have gsN : decide (0 < b) = s := by rw [← HG.out]; simp
      have gss : (s == s) = true := by simp
      have gsn : (s != s) = false := by simp
      clear hs
      go_wp2_with fail
      clear gs gsN gss gsn q4 q5
      go_loopw [10] (fun i wv => ∃ j : Nat, 1 ≤ j ∧ j ≤ 10 ∧ i = .int .i64 j ∧ Hid (Below w.heap.size w wv) ∧ Hid (w1.heap.size < wv.heap.size) ∧ Hid (Ten wv w1.heap.size 41 (fun j => .int .i64 (cN zs k j)))) (fun i _ => 11 - (intOf i).toNat)
      case atStart => exact ⟨1, by omega, by omega, rfl, HW, HS, H⟩
      case round =>
        clear HW HS H
        obtain ⟨j, hj1, hj, rfl, HW, HS, H⟩ := hrel
        by_cases hlt : j < 10
        · have hltI : (j : Int) ≤ 9 := by omega
          have hj0 : (0 : Int) ≤ (j : Int) := by omega
          have hj10 : (j : Int) < 10 := by omega
          have hb0I : (0 : Int) ≤ (b : Int) := by omega
          have hb10I : (b : Int) < 10 := by omega
          obtain ⟨y1, y2⟩ := HF3.out j hj1 (by omega)
          have c1 := H.out.cell hlt
          have c2 := H.out.cell hb10
          obtain ⟨x, hx⟩ : ∃ x, cN zs k j = x := ⟨_, rfl⟩
          obtain ⟨y, hy⟩ : ∃ y, cN zs k b = y := ⟨_, rfl⟩
          simp only [hx, hy] at c1 c2
          rw [hx, hy] at y1 y2
          have z1 : decide ((y : Int) < (x : Int)) = false := decide_eq_false (by omega)
          have z1' : decide (y < x) = false := decide_eq_false (by omega)
          clear hx hy
          by_cases hjb : j < b
          · have z2 : decide ((j : Int) < (b : Int)) = true := decide_eq_true (by omega)
            have z2' : decide (j < b) = true := decide_eq_true hjb
            have hlt2 := y2 hjb
            have z3 : ((x : Int) == (y : Int)) = false := by simp; omega
            have z3' : (x == y) = false := by simp; omega
            clear y1 y2 hjb hlt2
            go_wp2_with fail
            go_quiet (fail)
            go_wp2_with fail
            go_roundw
            case rel => exact ⟨j + 1, by omega, by omega, by go_num, Lib.hid (below_drewN HW.out _), HS, H⟩
            case measure => simp [intOf]; omega
          · have z2 : decide ((j : Int) < (b : Int)) = false := decide_eq_false (by omega)
            have z2' : decide (j < b) = false := decide_eq_false hjb
            clear y1 y2 hjb
            go_wp2_with fail
            go_quiet (fail)
            go_wp2_with fail
            go_roundw
            case rel => exact ⟨j + 1, by omega, by omega, by go_num, Lib.hid (below_drewN HW.out _), HS, H⟩
            case measure => simp [intOf]; omega
        · have hltI : ¬ (j : Int) ≤ 9 := by omega
          go_wp2_with fail
          clear HF2 HF3 hlt hltI
          obtain ⟨i0, hi0, hz0, hs0, hb0'⟩ := info_parts int_info
          have htc : (t : Int) ≤ (c : Int) := by omega
          rcases A with _ | ad0
          · have e1 : 0 = c := (hnil rfl).symm
            subst e1
            have e2 : 0 = k := by omega
            subst e2
            have e3 : 0 = t := by omega
            subst e3
            have OWN : Hid ((wr.drew.alloc (.cells #[] 3)).ownsRow w.heap.size 3 1 (.slice (some ⟨wr.heap.size, 0, none⟩) 0 0) 0 []) := Lib.hid (World.ownsRow_lit (e := 3) wr.drew #[] 0 HW.out.size (by unfold maxLen; omega) rfl)
            have HWA := Lib.hid ((HW.out.drew).alloc HW.out.size (.cells #[] 3))
            have SRC := Lib.hid (src_cells (s := 0) (m := 0 - 0) (ao := (none : Option Addr)) HR.out HWA.out (by omega) (fun b off e h => by omega))
            have LEN : Hid ((((zs.drop 0).take (0 - 0)).map (Value.int .i64)).length = 0 * 1) := Lib.hid (by have := HL.out; first | (simp; done) | (simp; omega))
            have LEN2 : Hid ((((zs.drop 0).take 0).map (Value.int .i64)).length = 0 * 1) := Lib.hid (by have := HL.out; first | (simp; done) | (simp; omega))
            have B1 : Hid (0 + 0 ≤ maxLen) := Lib.hid (by unfold maxLen; omega)
            have B2 : Hid ((0 + 0) * 8 ≤ 140737488355328) := Lib.hid (by omega)
            have B3 : Hid (0 + 0 ≤ maxLen) := Lib.hid (by unfold maxLen; omega)
            have B4 : Hid ((0 + 0) * 8 ≤ 140737488355328) := Lib.hid (by omega)
            have N1 : Hid ((none : Option Addr) = none → 0 = 0 ∧ 0 = 0) := Lib.hid (fun h => by first | exact ⟨rfl, rfl⟩ | simp at h)
            have N2 : Hid ((none : Option Addr) = none → 0 = 0 ∧ 0 = 0) := Lib.hid (fun h => by first | exact ⟨rfl, rfl⟩ | simp at h)
            first | (go_region_law (first
                | (refine step_append_any rfl (.tmp 86) (.tmp 89) 38 rfl w.heap.size 3 i0 (.int .i64 0) 1 8 Try.underlying38 hi0 hz0 hs0 hb0' rfl (by omega) wr.heap.size 0 0 [] (by simp [Act.eval, Act.put]) OWN.out ((none : Option Addr)) (0) (0) (((zs.drop 0).take (0 - 0)).map (Value.int .i64)) (by simp [Act.eval, Act.put]) LEN.out N1.out SRC.out (ints_one _) B1.out B2.out HWA.out.size ?_; intro g1 cap1 w2 ho hg; simp only [Nat.zero_add, List.nil_append] at ho; have HO1 := Lib.hid ho; have HW2 := Lib.hid (HWA.out.grown hg HWA.out.size (fun q hq => by injection hq with hq; have := HW.out.size; omega)); have SRC2 := Lib.hid (src_cells (s := 0) (m := 0) (ao := (none : Option Addr)) HR.out HW2.out (by omega) (fun b off e h => by omega)); clear ho hg)
                | (refine step_append_any rfl (.tmp 90) (.tmp 93) 38 rfl w.heap.size 3 i0 (.int .i64 0) 1 8 Try.underlying38 hi0 hz0 hs0 hb0' rfl (by omega) g1 (0) cap1 _ (by simp [Act.eval, Act.put]) HO1.out ((none : Option Addr)) (0) (0) (((zs.drop 0).take 0).map (Value.int .i64)) (by simp [Act.eval, Act.put]) LEN2.out N2.out SRC2.out (ints_one _) B3.out B4.out HW2.out.size ?_; intro g2 cap2 w3 ho hg; have HO2 := Lib.hid ho; have HW3 := Lib.hid (HW2.out.grown hg HW2.out.size (fun q hq => by injection hq with hq; have := (HO1.out.lt g1 rfl).1; omega)); clear ho hg))) | fail
            all_goals (have hz := turn_map2 0 HL.out)
            all_goals (have ho2 := HO2.out; rw [hz, show 0 + 0 = 0 by omega] at ho2; have HRI := Lib.hid (Ri.owned ho2 (by omega)); clear ho2 hz)
            all_goals (have hkk : 0 + 0 = 0 := by omega)
            all_goals (try rw [hkk])
            all_goals clear hkk
            all_goals (have HBB : Hid (majS (zs.drop 0 ++ zs.take 0) = b) := Lib.hid (by rw [maj_turn]; exact HB.out))
            all_goals (have gb : ((b : Int) == (b : Int)) = true := by simp)
            all_goals go_wp2_with fail
            all_goals (refine (majority_any _ _ _ _ _ HRI.out).mono ?_)
            all_goals (rintro e w4 ⟨rfl, hb4⟩; rw [HBB.out]; have HW4 := Lib.hid (HW3.out.trans (hb4.mono HW3.out.size)); clear hb4)
            all_goals go_wp2_with fail
            all_goals (refine (awake_any _).mono ?_)
            all_goals (rintro e w5 ⟨rfl, hb5⟩; have HW5 := Lib.hid (HW4.out.trans (hb5.mono HW4.out.size)); clear hb5)
            all_goals go_wp2_with fail
            all_goals go_ret
            all_goals exact ⟨rfl, HW5.out⟩
          · by_cases hct : c = t
            · have e1 : t = k := by omega
              subst e1
              have e2 : t = c := by omega
              subst e2
              have OWN : Hid ((wr.drew.alloc (.cells #[] 3)).ownsRow w.heap.size 3 1 (.slice (some ⟨wr.heap.size, 0, none⟩) 0 0) 0 []) := Lib.hid (World.ownsRow_lit (e := 3) wr.drew #[] 0 HW.out.size (by unfold maxLen; omega) rfl)
              have HWA := Lib.hid ((HW.out.drew).alloc HW.out.size (.cells #[] 3))
              have SRC := Lib.hid (src_cells (s := t) (m := t - t) (ao := some ad0) HR.out HWA.out (by omega) (fun b off e h => by omega))
              have LEN : Hid ((((zs.drop t).take (t - t)).map (Value.int .i64)).length = 0 * 1) := Lib.hid (by have := HL.out; first | (simp; done) | (simp; omega))
              have LEN2 : Hid ((((zs.drop 0).take t).map (Value.int .i64)).length = t * 1) := Lib.hid (by have := HL.out; first | (simp; done) | (simp; omega))
              have B1 : Hid (0 + 0 ≤ maxLen) := Lib.hid (by unfold maxLen; omega)
              have B2 : Hid ((0 + 0) * 8 ≤ 140737488355328) := Lib.hid (by omega)
              have B3 : Hid (0 + t ≤ maxLen) := Lib.hid (by unfold maxLen; omega)
              have B4 : Hid ((0 + t) * 8 ≤ 140737488355328) := Lib.hid (by omega)
              have N1 : Hid (some ad0 = none → 0 = 0 ∧ 0 = 0) := Lib.hid (fun h => by first | exact ⟨rfl, rfl⟩ | simp at h)
              have N2 : Hid (some ad0 = none → t = 0 ∧ t = 0) := Lib.hid (fun h => by first | exact ⟨rfl, rfl⟩ | simp at h)
              first | (go_region_law (first
                  | (refine step_append_any rfl (.tmp 86) (.tmp 89) 38 rfl w.heap.size 3 i0 (.int .i64 0) 1 8 Try.underlying38 hi0 hz0 hs0 hb0' rfl (by omega) wr.heap.size 0 0 [] (by simp [Act.eval, Act.put]) OWN.out (some ad0) (0) (0) (((zs.drop t).take (t - t)).map (Value.int .i64)) (by simp [Act.eval, Act.put]) LEN.out N1.out SRC.out (ints_one _) B1.out B2.out HWA.out.size ?_; intro g1 cap1 w2 ho hg; simp only [Nat.zero_add, List.nil_append] at ho; have HO1 := Lib.hid ho; have HW2 := Lib.hid (HWA.out.grown hg HWA.out.size (fun q hq => by injection hq with hq; have := HW.out.size; omega)); have SRC2 := Lib.hid (src_cells (s := 0) (m := t) (ao := some ad0) HR.out HW2.out (by omega) (fun b off e h => by rw [e]; simp)); clear ho hg)
                  | (refine step_append_any rfl (.tmp 90) (.tmp 93) 38 rfl w.heap.size 3 i0 (.int .i64 0) 1 8 Try.underlying38 hi0 hz0 hs0 hb0' rfl (by omega) g1 (0) cap1 _ (by simp [Act.eval, Act.put]) HO1.out (some ad0) (t) (t) (((zs.drop 0).take t).map (Value.int .i64)) (by simp [Act.eval, Act.put]) LEN2.out N2.out SRC2.out (ints_one _) B3.out B4.out HW2.out.size ?_; intro g2 cap2 w3 ho hg; have HO2 := Lib.hid ho; have HW3 := Lib.hid (HW2.out.grown hg HW2.out.size (fun q hq => by injection hq with hq; have := (HO1.out.lt g1 rfl).1; omega)); clear ho hg))) | fail
              all_goals (have hz := turn_map2 t HL.out)
              all_goals (have ho2 := HO2.out; rw [hz, show 0 + t = t by omega] at ho2; have HRI := Lib.hid (Ri.owned ho2 (by omega)); clear ho2 hz)
              all_goals (have hkk : 0 + t = t := by omega)
              all_goals (try rw [hkk])
              all_goals clear hkk
              all_goals (have HBB : Hid (majS (zs.drop t ++ zs.take t) = b) := Lib.hid (by rw [maj_turn]; exact HB.out))
              all_goals (have gb : ((b : Int) == (b : Int)) = true := by simp)
              all_goals go_wp2_with fail
              all_goals (refine (majority_any _ _ _ _ _ HRI.out).mono ?_)
              all_goals (rintro e w4 ⟨rfl, hb4⟩; rw [HBB.out]; have HW4 := Lib.hid (HW3.out.trans (hb4.mono HW3.out.size)); clear hb4)
              all_goals go_wp2_with fail
              all_goals (refine (awake_any _).mono ?_)
              all_goals (rintro e w5 ⟨rfl, hb5⟩; have HW5 := Lib.hid (HW4.out.trans (hb5.mono HW4.out.size)); clear hb5)
              all_goals go_wp2_with fail
              all_goals go_ret
              all_goals exact ⟨rfl, HW5.out⟩
            · obtain ⟨bq, oq, sp⟩ := ad0
              have e0 : none = sp := (hsp (by omega) _ _ _ rfl).symm
              subst e0
              have OWN : Hid ((wr.drew.alloc (.cells #[] 3)).ownsRow w.heap.size 3 1 (.slice (some ⟨wr.heap.size, 0, none⟩) 0 0) 0 []) := Lib.hid (World.ownsRow_lit (e := 3) wr.drew #[] 0 HW.out.size (by unfold maxLen; omega) rfl)
              have HWA := Lib.hid ((HW.out.drew).alloc HW.out.size (.cells #[] 3))
              have SRC := Lib.hid (src_cells (s := t) (m := k - t) (ao := some (⟨bq, oq + t, none⟩ : Addr)) HR.out HWA.out (by omega) (fun b off e h => by injection e with e; injection e with e1 e2; subst e1 e2; rfl))
              have LEN : Hid ((((zs.drop t).take (k - t)).map (Value.int .i64)).length = (k - t) * 1) := Lib.hid (by have := HL.out; first | (simp; done) | (simp; omega))
              have LEN2 : Hid ((((zs.drop 0).take t).map (Value.int .i64)).length = t * 1) := Lib.hid (by have := HL.out; first | (simp; done) | (simp; omega))
              have B1 : Hid (0 + (k - t) ≤ maxLen) := Lib.hid (by unfold maxLen; omega)
              have B2 : Hid ((0 + (k - t)) * 8 ≤ 140737488355328) := Lib.hid (by omega)
              have B3 : Hid ((k - t) + t ≤ maxLen) := Lib.hid (by unfold maxLen; omega)
              have B4 : Hid (((k - t) + t) * 8 ≤ 140737488355328) := Lib.hid (by omega)
              have N1 : Hid (some (⟨bq, oq + t, none⟩ : Addr) = none → (k - t) = 0 ∧ (c - t) = 0) := Lib.hid (fun h => by first | exact ⟨rfl, rfl⟩ | simp at h)
              have N2 : Hid (some (⟨bq, oq, none⟩ : Addr) = none → t = 0 ∧ c = 0) := Lib.hid (fun h => by first | exact ⟨rfl, rfl⟩ | simp at h)
              first | (go_region_law (first
                  | (refine step_append_any rfl (.tmp 86) (.tmp 89) 38 rfl w.heap.size 3 i0 (.int .i64 0) 1 8 Try.underlying38 hi0 hz0 hs0 hb0' rfl (by omega) wr.heap.size 0 0 [] (by simp [Act.eval, Act.put]) OWN.out (some (⟨bq, oq + t, none⟩ : Addr)) ((k - t)) ((c - t)) (((zs.drop t).take (k - t)).map (Value.int .i64)) (by simp [Act.eval, Act.put]) LEN.out N1.out SRC.out (ints_one _) B1.out B2.out HWA.out.size ?_; intro g1 cap1 w2 ho hg; simp only [Nat.zero_add, List.nil_append] at ho; have HO1 := Lib.hid ho; have HW2 := Lib.hid (HWA.out.grown hg HWA.out.size (fun q hq => by injection hq with hq; have := HW.out.size; omega)); have SRC2 := Lib.hid (src_cells (s := 0) (m := t) (ao := some (⟨bq, oq, none⟩ : Addr)) HR.out HW2.out (by omega) (fun b off e h => by injection e with e; injection e with e1 e2; subst e1 e2; simp)); clear ho hg)
                  | (refine step_append_any rfl (.tmp 90) (.tmp 93) 38 rfl w.heap.size 3 i0 (.int .i64 0) 1 8 Try.underlying38 hi0 hz0 hs0 hb0' rfl (by omega) g1 ((k - t)) cap1 _ (by simp [Act.eval, Act.put]) HO1.out (some (⟨bq, oq, none⟩ : Addr)) (t) (c) (((zs.drop 0).take t).map (Value.int .i64)) (by simp [Act.eval, Act.put]) LEN2.out N2.out SRC2.out (ints_one _) B3.out B4.out HW2.out.size ?_; intro g2 cap2 w3 ho hg; have HO2 := Lib.hid ho; have HW3 := Lib.hid (HW2.out.grown hg HW2.out.size (fun q hq => by injection hq with hq; have := (HO1.out.lt g1 rfl).1; omega)); clear ho hg))) | fail
              all_goals (have hz := turn_map2 t HL.out)
              all_goals (have ho2 := HO2.out; rw [hz, show (k - t) + t = k by omega] at ho2; have HRI := Lib.hid (Ri.owned ho2 (by omega)); clear ho2 hz)
              all_goals (have hkk : (k - t) + t = k := by omega)
              all_goals (try rw [hkk])
              all_goals clear hkk
              all_goals (have HBB : Hid (majS (zs.drop t ++ zs.take t) = b) := Lib.hid (by rw [maj_turn]; exact HB.out))
              all_goals (have gb : ((b : Int) == (b : Int)) = true := by simp)
              all_goals go_wp2_with fail
              all_goals (refine (majority_any _ _ _ _ _ HRI.out).mono ?_)
              all_goals (rintro e w4 ⟨rfl, hb4⟩; rw [HBB.out]; have HW4 := Lib.hid (HW3.out.trans (hb4.mono HW3.out.size)); clear hb4)
              all_goals go_wp2_with fail
              all_goals (refine (awake_any _).mono ?_)
              all_goals (rintro e w5 ⟨rfl, hb5⟩; have HW5 := Lib.hid (HW4.out.trans (hb5.mono HW4.out.size)); clear hb5)
              all_goals go_wp2_with fail
              all_goals go_ret
              all_goals exact ⟨rfl, HW5.out⟩
end Go.Proofs.Ytmclbcfcbocnhaa.Wk
