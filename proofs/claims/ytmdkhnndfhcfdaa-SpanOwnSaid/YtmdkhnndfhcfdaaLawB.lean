/- The law of the order, walked. Conditions: the slice reads as intervals. -/
import Derived.Test.YtmdkhnndfhcfdaaAl
import Derived.Test.YtmdkhnndfhcfdaaRot
set_option linter.unusedSimpArgs false
set_option linter.unusedVariables false
namespace Go.Proofs.Ytmdkhnndfhcfdaa.Wk
open Go.RowKit
open Go.Proofs.Ytmdkhnndfhcfdaa.Mt
def rvk (l : List Iv) (k : Nat) : List Iv := (l.drop k).reverse
theorem rvk_next {l : List Iv} {j : Nat} (h : j < l.length) : rvk l j = rvk l (j + 1) ++ [vat l j] := by
  unfold rvk
  rw [drop_next h, List.reverse_cons]
theorem rvk_len (l : List Iv) (k : Nat) : (rvk l k).length = l.length - k := by simp [rvk]
theorem Rp.src {w : World} {B m : Nat} {A : Option Addr} {L : List Iv} (h : Rp w B A m L) : ∀ ad, A = some ad → ∀ j u, (fl L)[j]? = some u → w.cell? (ad.add j) = some u := by
  intro ad e j u hu
  subst e
  have hj : j < L.length * 2 := by
    rcases Nat.lt_or_ge j (fl L).length with h1 | h1
    · rw [fl_len] at h1; exact h1
    · rw [List.getElem?_eq_none h1] at hu; cases hu
  have hm := h.1
  obtain ⟨b, off, e, _⟩ := h.2.2.1 (by omega)
  injection e with e
  subst e
  exact h.news j u hu
theorem Rp.grownAside {w W : World} {A : Option Addr} {n : Nat} {L : List Iv} {row : Option Nat} (h : Rp w w.heap.size A n L) (hg : w.grownBy W row) (hne : 0 < n → ∀ b off sp, A = some ⟨b, off, sp⟩ → row ≠ some b) : Rp W W.heap.size A n L := by
  refine ⟨h.1, h.2.1, fun h0 => ?_, h.2.2.2⟩
  obtain ⟨b, off, e, hlt, hc⟩ := h.2.2.1 h0
  have hb : some b ≠ row := fun e2 => hne h0 b off none e e2.symm
  exact ⟨b, off, e, Nat.lt_of_lt_of_le hlt hg.size, fun i hi => ⟨hg.cell (a := ⟨b, _, none⟩) (hc i hi).1 hb, hg.cell (a := ⟨b, _, none⟩) (hc i hi).2 hb⟩⟩
theorem in_all {R L : List Iv} (h : ∀ v ∈ R, v ∈ L) (hl : ∀ i, In64 (vat L i).1 ∧ In64 (vat L i).2) : ∀ i, In64 (vat R i).1 ∧ In64 (vat R i).2 := by
  intro i
  rcases Nat.lt_or_ge i R.length with hi | hi
  · obtain ⟨j, _, e⟩ := mem_vat (h _ (vat_mem hi))
    rw [← e]; exact hl j
  · have : vat R i = (0, 0) := by simp [vat, hi]
    rw [this]; simp [In64]
set_option maxHeartbeats 4000000 in
set_option maxRecDepth 100000 in
theorem order_law (A : Option Addr) (n c : Nat) (l : List Iv) (w : World) (h : Rp w w.heap.size A n l) (hnc : A = none → n = 0 ∧ c = 0) : Calls Try.prog 6 #[.slice A n c] w fun e w' => e = .returned (.bool true) ∧ Below w.heap.size w w' := by
  have HR := Lib.hid h
  have HL := Lib.hid h.1
  have HNC := Lib.hid hnc
  have hn := h.2.1
  clear h hnc
  obtain ⟨i0, hi0, hz0, hs0, hb0'⟩ := info_parts iv_info
  by_cases hb60 : 60 < n
  · have hbI : (60 : Int) < (n : Int) := by omega
    go_enter Try.func6, Try.ntmps6
    go_wp2_with fail
    go_ret
    exact ⟨rfl, Below.refl _ _⟩
  · have hbI : decide ((60 : Int) < (n : Int)) = false := decide_eq_false (by omega)
    have HG0 : Hid (Gr w w (.slice none 0 0) (rvk l n)) := Lib.hid (by
      have e : rvk l n = [] := by unfold rvk; rw [← HL.out, List.drop_length]; rfl
      rw [e]
      exact ⟨Below.refl _ _, World.ownsRow_nil _ _ _ _⟩)
    have E0 : IntKind.i64.wrap ((n : Int) - 1) = (n : Int) - 1 := IntWalk.i64_in _ (by omega)
    go_enter Try.func6, Try.ntmps6
    go_wp2_with fail
    clear hbI E0
    go_loopw [3, 4] (fun v iv wr => ∃ k : Nat, k ≤ n ∧ iv = .int .i64 ((k : Int) - 1) ∧ Hid (Gr w wr v (rvk l k))) (fun _ iv _ => (intOf iv + 1).toNat)
    case atStart => exact ⟨n, Nat.le_refl _, rfl, HG0⟩
    case round =>
      obtain ⟨k, hk, rfl, HG⟩ := hrel
      rcases k with _ | j
      · have hlt : decide ((0 : Int) ≤ ((0 : Nat) : Int) - 1) = false := by decide
        have HLR : Hid ((rvk l 0).length = n) := Lib.hid (by rw [rvk_len, HL.out]; rfl)
        have HMR : Hid (∀ v, v ∈ rvk l 0 ++ l ↔ v ∈ l) := Lib.hid (fun v => by simp [rvk])
        obtain ⟨s, hs⟩ : ∃ s, rvk l 0 = s := ⟨_, rfl⟩
        rw [hs] at HG HLR HMR
        clear hs
        replace HR := Lib.hid (HR.out.up HG.out.1)
        go_wp2_with fail
        refine (normal13 A n c l _ HR.out (by omega)).mono ?_
        rintro e w1 ⟨A1, c1, R1, rfl, h1, h2, h3, h4, h5, h6, h7⟩
        have HR1 := Lib.hid h2
        have HN1 := Lib.hid h4
        have HS1 := Lib.hid h5
        have HL1 := Lib.hid h7
        have HLV := Lib.hid HG.out.2.lt
        have HR1K : Hid (∀ W row, w1.grownBy W row → (∀ b, row = some b → b < wr.heap.size) → Rp W W.heap.size A1 R1.length R1) := Lib.hid (fun W row hg hlv => h2.grownAside hg (fun h0 b off sp e e2 => by have := (h3 h0 b off sp e).1; have := hlv b e2; omega))
        replace HG := Lib.hid (HG.out.below h6)
        replace HR := Lib.hid (HR.out.up h6)
        clear h1 h2 h3 h4 h5 h6 h7
        have HOW := Lib.hid HG.out.2
        have hsz := HG.out.1.size
        have C4 : Hid (s.length + n ≤ maxLen) := Lib.hid (by have := HLR.out; unfold maxLen; omega)
        have C5 : Hid ((s.length + n) * 16 ≤ 140737488355328) := Lib.hid (by have := HLR.out; omega)
        have HFL : Hid ((fl l).length = n * 2) := Lib.hid (by rw [fl_len, HL.out])
        go_wp2_with (first | (go_loud (at_builtin; refine Rot.wpList_append_any _ _ 22 rfl (by rfl) w.heap.size 25 i0 (.agg #[.int .i64 0, .int .i64 0]) 2 16 Try.underlying22 hi0 hz0 hs0 hb0' rfl (by omega) _ _ (fl s) rfl HOW.out A n c (fl l) rfl HFL.out HNC.out HR.out.src (fl_one l) C4.out C5.out hsz ?_)) | fail)
        intro v' w9 hown hgrow
        have HG9 : Hid (Gr w w9 v' (s ++ l)) := Lib.hid ⟨HG.out.1.grown hgrow HG.out.1.size (fun k hk => (HOW.out.lt k hk).1), by rw [List.length_append, fl_app, HL.out]; exact hown⟩
        have HR1b : Hid (Rp w9 w9.heap.size A1 R1.length R1) := Lib.hid (HR1K.out w9 _ hgrow (fun b e => (HLV.out b e).2))
        obtain ⟨P0, cp0, rfl, hr0, hb0⟩ := HG9.out.rp (n + n) (by rw [List.length_append, HLR.out, HL.out]) (by omega) (in_all (fun v hv => (HMR.out v).1 hv) HR.out.2.2.2)
        have H0 := Lib.hid hr0
        replace HR1 := HR1b
        have HB := Lib.hid hb0
        clear hown hgrow hr0 hb0 HG9 HG HOW HR1b
        go_wp2_with fail
        refine (normal13 P0 (n + n) cp0 (s ++ l) _ H0.out (by omega)).mono ?_
        intro e w2 hh
        obtain ⟨A2, c2, rfl, hr, hb⟩ := hh.val R1 R1.length rfl HN1.out (fun t => (HS1.out t).trans (Hs.perm (fun v => (HMR.out v).symm) t))
        have HR2 := Lib.hid hr
        replace HR1 := Lib.hid (HR1.out.up hb)
        replace HB := Lib.hid (upB HB.out hb)
        clear hh hr hb H0
        go_wp2_with fail
        refine (same12 A2 A1 R1.length c2 c1 R1 _ HR2.out HR1.out).mono ?_
        rintro e w3 ⟨rfl, hb⟩
        replace HR1 := Lib.hid (HR1.out.up hb)
        replace HB := Lib.hid (upB HB.out hb)
        clear hb HR2
        go_wp2_with fail
        refine (normal13 A1 R1.length c1 R1 _ HR1.out (by have := HL1.out; omega)).mono ?_
        intro e w4 hh
        obtain ⟨A4, c4, rfl, hr, hb⟩ := hh.val R1 R1.length rfl HN1.out (fun t => Iff.rfl)
        have HR4 := Lib.hid hr
        replace HR1 := Lib.hid (HR1.out.up hb)
        replace HB := Lib.hid (upB HB.out hb)
        clear hh hr hb
        go_wp2_with fail
        refine (same12 A4 A1 R1.length c4 c1 R1 _ HR4.out HR1.out).mono ?_
        rintro e w5 ⟨rfl, hb⟩
        replace HR1 := Lib.hid (HR1.out.up hb)
        replace HB := Lib.hid (upB HB.out hb)
        clear hb HR4 HR
        obtain ⟨M, hM⟩ : ∃ M, R1.length = M := ⟨_, rfl⟩
        have HM := Lib.hid hM
        rw [hM] at HR1 HL1 ⊢
        have hMl : M ≤ 60 := by have := HL1.out; omega
        clear hM
        go_wp2_with fail
        go_loopw [6] (fun iv wr => ∃ k : Nat, k ≤ M ∧ iv = .int .i64 k ∧ Hid (Below w5.heap.size w5 wr)) (fun iv _ => M - (intOf iv).toNat)
        case atStart => exact ⟨0, Nat.zero_le _, rfl, Lib.hid (Below.refl _ _)⟩
        case round =>
          obtain ⟨k, hk, rfl, HW⟩ := hrel
          by_cases hlt : k < M
          · have hltI : (k : Int) < (M : Int) := by omega
            obtain ⟨bp, off, rfl, hbb, hcell⟩ := (HR1.out.up HW.out).2.2.1 (by omega)
            obtain ⟨d1, d2⟩ := hcell k hlt
            have ho := HN1.out.ok _ (vat_mem (l := R1) (i := k) (by rw [HM.out]; exact hlt))
            obtain ⟨⟨x, y⟩, hxy⟩ : ∃ v, vat R1 k = v := ⟨_, rfl⟩
            have HV := Lib.hid hxy
            rw [hxy] at d1 d2 ho
            unfold Ok at ho
            simp only at d1 d2 ho
            clear hxy
            have q1 : decide (x < 0) = false := decide_eq_false (by omega)
            have q2 : decide (y ≤ x) = false := decide_eq_false (by omega)
            have q3 : decide ((68719476736 : Int) < y) = false := decide_eq_false (by omega)
            clear ho
            rcases k with _ | j
            · have q4 : decide ((0 : Int) < ((0 : Nat) : Int)) = false := by decide
              clear hcell
              simp only [Nat.zero_mul, Nat.add_zero] at d1 d2
              have h0M : (0 : Int) < (M : Int) := by omega
              go_wp2_with fail
              go_quiet (fail)
              go_wp2_with fail
              go_roundw
              case rel => exact ⟨0 + 1, by omega, by go_num, Lib.hid (below_drewN HW.out nq)⟩
              case measure => simp [intOf]; omega
            · have q4 : decide ((0 : Int) < ((j + 1 : Nat) : Int)) = true := decide_eq_true (by omega)
              have q4' : (0 : Int) < (j : Int) + 1 := by omega
              have E1 : IntKind.i64.wrap ((j : Int) + 1 - 1) = (j : Int) := by rw [IntWalk.i64_in _ (by omega)]; omega
              have E2 : IntKind.i64.wrap (j : Int) = (j : Int) := IntWalk.i64_in _ (by omega)
              have hjI : (j : Int) < (M : Int) := by omega
              obtain ⟨d3, d4⟩ := hcell j (by omega)
              have hg := HN1.out.gap j (j + 1) (by omega) (by rw [HM.out]; exact hlt)
              obtain ⟨⟨z, u⟩, hzu⟩ : ∃ v, vat R1 j = v := ⟨_, rfl⟩
              rw [hzu] at d3 d4 hg
              rw [HV.out] at hg
              simp only at d3 d4 hg
              have q5 : decide (x ≤ u) = false := decide_eq_false (by omega)
              clear hzu hg hcell
              go_wp2_with fail
              go_quiet (fail)
              go_wp2_with fail
              go_roundw
              case rel => exact ⟨j + 1 + 1, by omega, by go_num, Lib.hid (below_drewN HW.out nq)⟩
              case measure => simp [intOf]; omega
          · have hltI : ¬ (k : Int) < (M : Int) := by omega
            go_wp2_with fail
            refine (alive15 _).mono ?_
            rintro e w99 ⟨rfl, hb⟩
            replace HB := Lib.hid (upB (upB HB.out HW.out) hb)
            clear hb
            go_wp2_with fail
            go_ret
            exact ⟨rfl, HB.out⟩
      · have hlt : decide ((0 : Int) ≤ ((j + 1 : Nat) : Int) - 1) = true := decide_eq_true (by omega)
        have hJ : (((j + 1 : Nat) : Int) - 1) = (j : Int) := by omega
        rw [hJ] at hlt ⊢
        have hj0 : (0 : Int) ≤ (j : Int) := by omega
        obtain ⟨bp, off, rfl, hbb, d1, d2⟩ := (HR.out.up HG.out.1).get (i := j) (by omega)
        obtain ⟨⟨x, y⟩, hxy⟩ : ∃ v, vat l j = v := ⟨_, rfl⟩
        have HRN : Hid (rvk l j = rvk l (j + 1) ++ [(x, y)]) := Lib.hid (by rw [rvk_next (by rw [HL.out]; omega), hxy])
        rw [hxy] at d1 d2
        simp only at d1 d2
        clear hxy
        have HSL : Hid ((rvk l (j + 1)).length ≤ 60) := Lib.hid (by rw [rvk_len, HL.out]; omega)
        obtain ⟨s, hs⟩ : ∃ s, rvk l (j + 1) = s := ⟨_, rfl⟩
        rw [hs] at HG HRN HSL
        clear hs
        have HOW := Lib.hid HG.out.2
        have hbs := HG.out.1.size
        have hjn : (j : Int) < (n : Int) := by omega
        have E3 : IntKind.i64.wrap ((j : Int) - 1) = (j : Int) - 1 := IntWalk.i64_in _ (by omega)
        have C4 : Hid (s.length + 1 ≤ maxLen) := Lib.hid (by have := HSL.out; unfold maxLen; omega)
        have C5 : Hid ((s.length + 1) * 16 ≤ 140737488355328) := Lib.hid (by have := HSL.out; omega)
        go_wp2_with (first | (go_loud (at_builtin; refine wpList_append_own _ rfl _ _ 22 rfl w.heap.size 25 i0 (.agg #[.int .i64 0, .int .i64 0]) 2 16 Try.underlying22 hi0 hz0 hs0 hb0' rfl (by omega) _ _ _ rfl (HOW.out.alloc _) ⟨_, 0, none⟩ 1 1 [.int .i64 x, .int .i64 y] rfl rfl (new_two _ _ _ _ _ (by simp)) (two_one x y) C4.out C5.out (by simp; omega) ?_)) | fail)
        intro v' w9 hown hgrow _
        have HG9 := Lib.hid (HG.out.app hown hgrow)
        clear hown hgrow HOW
        rw [← HRN.out] at HG9
        go_wp2_with fail
        go_roundw
        case rel => exact ⟨j, by omega, by first | rfl | go_num, HG9⟩
        case measure => first | (simp [intOf]; done) | (simp [intOf]; omega)
end Go.Proofs.Ytmdkhnndfhcfdaa.Wk
