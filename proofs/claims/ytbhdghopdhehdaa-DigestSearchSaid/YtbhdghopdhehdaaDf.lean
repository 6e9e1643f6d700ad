/- Which leaves differ: the layer and its reference. Conditions: both slices read as 64-bit numbers; no more than 4096 of them. -/
import Derived.Test.YtbhdghopdhehdaaDfm
import Derived.Test.YtbhdghopdhehdaaCp
set_option linter.unusedSimpArgs false
set_option linter.unusedVariables false
namespace Go.Proofs.Ytbhdghopdhehdaa.Wk
open Go.RowKit
open Go.Proofs.Ytbhdghopdhehdaa.Mt
theorem i64_w {a : Int} (h : -9223372036854775808 ≤ a ∧ a ≤ 9223372036854775807) : (Lit.int .i64 a).wf = true := by simpa [Lit.wf, IntKind.min, IntKind.max, IntKind.signed, IntKind.bits] using h
theorem wf_all {l : List Int} (h : ∀ x ∈ l, 0 ≤ x ∧ x < 4096) : ∀ i, (Lit.int .i64 (iat l i)).wf = true := by
  intro i
  refine i64_w ?_
  unfold iat
  by_cases hi : i < l.length
  · rw [List.getD_eq_getElem?_getD, List.getElem?_eq_getElem hi]; have := h _ (List.getElem_mem hi); simp only [Option.getD_some]; omega
  · rw [List.getD_eq_getElem?_getD, List.getElem?_eq_none (by omega)]; simp
theorem Ol.tr {w wr : World} {v : Value} {n T : Nat} {l : List Int} (h : Ol w wr v n l (T + 1)) : ∃ g cap, v = .slice (some ⟨g, 0, none⟩) (T + 1) cap ∧ T + 1 ≤ cap ∧ Tr wr (some ⟨g, 0, none⟩) n l T := by
  obtain ⟨vals, h1, h2, h3, h4⟩ := h
  rcases h1.2 with ⟨_, h0⟩ | ⟨g, cap, cur, hv, hb, hg, hc, _⟩
  · omega
  · subst hv
    have hlt : g < wr.heap.size := Bx.lt (cs := cur) (t := 31) hg
    refine ⟨g, cap, rfl, hc, g, 0, rfl, hlt, fun q hq => ?_⟩
    obtain ⟨Aq, cq, e1, e2, _⟩ := h4 q (by omega)
    refine ⟨Aq, cq, ?_, e2⟩
    rw [Nat.zero_add]
    exact own_cell h1 e1
theorem make_ints (w : World) (n : Nat) (h : n ≤ 1048576) : (Instr.makeSlice 45 (.int .i64 (n : Int)) (.int .i64 (n : Int))).run Try.prog w = .ok (.slice (some ⟨w.heap.size, 0, none⟩) n n) (w.alloc (.cells (vk .i64 (fil n 0)).toArray 3)) := by
  obtain ⟨i, hi, hz, hs, hb⟩ := info_parts int_info
  rw [run_make w 45 3 i _ Try.underlying45 hi hz .i64 .i64 n n (by omega) (Int.le_refl _) (by rw [hb]; omega) (by omega)]
  have e : madeCells (Value.int .i64 0).cells ((n : Int).toNat * i.size) = (vk .i64 (fil n 0)).toArray := by
    rw [hs, fil_zero]
    apply Array.ext
    · simp [madeCells, vk]
    · intro j h1 h2
      simp [madeCells, vk, Value.cells, Nat.mod_one]
  rw [e]; simp
/-- what both say: the leaves found and the number of nodes -/
def DfR (w : World) (a b : List Int) (e : Ending) (w' : World) : Prop := ∃ A' c', e = .returned (.tuple #[.slice A' (dfS a b).1.length c', .int .i64 ((dfS a b).2 : Nat)]) ∧ Rk .i64 w' w'.heap.size A' (dfS a b).1.length (dfS a b).1 ∧ Below w.heap.size w w'
theorem df_far {a b : List Int} (h : ¬ a.length = b.length) : dfS a b = (rng (max a.length b.length), 0) := by rw [dfS, if_pos h]
theorem df_nil {a b : List Int} (h : a.length = b.length) (h0 : a.length = 0) : dfS a b = ([], 0) := by rw [dfS, if_neg (by simpa using h), if_pos h0]
theorem df_dv {a b : List Int} (h : a.length = b.length) (h0 : ¬ a.length = 0) : dfS a b = dv a b (ht a.length) 0 ([], 0) := by rw [dfS, if_neg (by simpa using h), if_neg h0]
set_option maxHeartbeats 1000000 in
set_option maxRecDepth 100000 in
theorem differ26 (A B : Option Addr) (n m c c' : Nat) (a b : List Int) (w : World) (h1 : Rk .u64 w w.heap.size A n a) (h2 : Rk .u64 w w.heap.size B m b) (hn4 : n ≤ 4096) (hm4 : m ≤ 4096) :
    Calls Try.prog 26 #[.slice A n c, .slice B m c'] w (DfR w a b) := by
  have HW := Lib.hid (wf_all (df_in (a := a) (b := b) (by rw [h1.1]; exact hn4) (by rw [h2.1]; exact hm4)))
  have HLA := Lib.hid h1.1
  have HLB := Lib.hid h2.1
  have HA := Lib.hid h1
  have HB := Lib.hid h2
  have hn := h1.2.1
  have hm := h2.2.1
  clear h1 h2
  by_cases hnm : n = m
  · subst hnm
    have e1 : ((n : Int) != (n : Int)) = false := by simp
    by_cases h0 : n = 0
    · subst h0
      have HE : Hid (dfS a b = ([], 0)) := Lib.hid (df_nil (by rw [HLA.out, HLB.out]) HLA.out)
      clear e1
      go_enter Try.func26, Try.ntmps26
      go_wp2_with fail
      go_ret2
      exact ⟨none, 0, by rw [HE.out]; rfl, by rw [HE.out]; exact rk_none _ _ _ rfl, Below.refl _ _⟩
    · have h0I : ((n : Int) == 0) = false := by simp; omega
      have HE : Hid (dfS a b = dv a b (ht n) 0 ([], 0)) := Lib.hid (by rw [df_dv (by rw [HLA.out, HLB.out]) (by rw [HLA.out]; exact h0), HLA.out])
      have h1 : 1 ≤ n := by omega
      have h12 := ht_12 hn4
      obtain ⟨K, hK⟩ : ∃ K, ht n = K := ⟨_, rfl⟩
      rw [hK] at h12 HE
      have HAB : Hid (abn n K = 1) := Lib.hid (by rw [← hK]; exact abn_one h1 (Nat.le_refl _) (Nat.le_refl _))
      have HKK := Lib.hid hK
      have HPW := Lib.hid (pow_13 h12)
      clear hK h0
      go_enter Try.func26, Try.ntmps26
      go_wp2_with fail
      refine (grow34 A n c a _ HA.out h1 hn4).mono ?_
      rintro e w1 ⟨v1, rfl, ho1⟩
      rw [HKK.out] at ho1
      have HO1 := Lib.hid ho1
      have HB1 := Lib.hid (HB.out.up ho1.bel)
      have HBW := Lib.hid ho1.bel
      clear ho1
      go_wp2_with fail
      refine (grow34 B n c' b _ HB1.out h1 hn4).mono ?_
      rintro e w2 ⟨v2, rfl, ho2⟩
      rw [HKK.out] at ho2
      have HBW2 := Lib.hid (upB HBW.out ho2.bel)
      have HO12 := Lib.hid (HO1.out.below ho2.bel)
      obtain ⟨ga, ca, rfl, hca, hta⟩ := HO12.out.tr
      obtain ⟨gb, cb, rfl, hcb, htb⟩ := ho2.tr
      have HTA := Lib.hid hta
      have HTB := Lib.hid htb
      clear ho2 hta htb HO12 HO1 HBW
      go_wp2_with fail
      refine (compare35 w2 a b n HLA.out HLB.out hn4 ga 0 gb 0 K ca cb w2.heap.size HTA.out HTB.out (Nat.le_refl _) (K + 1) K 0 [] 0 (.slice none 0 0) _ (K : Int) 0 0 (by omega) (Nat.le_refl _) rfl rfl rfl (by rw [HAB.out]; omega) ((Ow.nil (Nat.le_refl _)).al _) (by simp [Value.ownBlock]) (Bx.new w2 60 _) (by have := HPW.out; simp only [List.length_nil]; omega) (by have := HPW.out; omega)).mono ?_
      rintro e w3 ⟨rfl, v3, ho3, _, hx3⟩
      rw [← HE.out] at ho3 hx3
      have HBW3 := Lib.hid (HBW2.out.trans (ho3.2.1.mono HBW2.out.size))
      obtain ⟨A3, c3, rfl, hr3⟩ := Rk.owned ho3.2.2 (by have := dv_len a b K 0 ([], 0); rw [← HE.out] at this; have := HPW.out; simp only [List.length_nil] at *; omega) HW.out
      have HR3 := Lib.hid hr3
      obtain ⟨x0, x1, x2, x3⟩ := hx3.cells4
      have lx := hx3.lt
      clear ho3 hr3 hx3
      go_wp2_with fail
      go_quiet (fail)
      go_wp2_with fail
      go_ret2
      exact ⟨A3, c3, rfl, HR3.out.up (below_drewN (Below.refl _ _) nq), below_drewN HBW3.out nq⟩
  · rcases Nat.lt_or_gt_of_ne hnm with hlm | hlm
    · have e1 : ((n : Int) != (m : Int)) = true := by simp; omega
      have HE : Hid (dfS a b = (rng m, 0)) := Lib.hid (by rw [df_far (by rw [HLA.out, HLB.out]; exact hnm), HLA.out, HLB.out]; congr; omega)
      have g1 : (n : Int) < (m : Int) := by omega
      have g2 : decide ((m : Int) < (n : Int)) = false := decide_eq_false (by omega)
      have g3 : ¬ (m : Int) < (n : Int) := by omega
      have g4 : max (n : Int) (m : Int) = (m : Int) := by omega
      have g5 : ¬ (m : Int) ≤ (n : Int) := by omega
      have g6 : (n : Int) ≤ (m : Int) := by omega
      clear hnm
      have hmk := fun w' => make_ints w' m (by omega)
      go_enter Try.func26, Try.ntmps26
      go_wp2_with fail
      clear hmk
      go_loopw [7, 22] (fun _ i wr => ∃ k : Nat, k ≤ m ∧ i = .int .i64 k ∧ Hid (Below w.heap.size w wr) ∧ Hid (Bx wr w.heap.size 3 (vk .i64 (fil m k)).toArray)) (fun _ i _ => m - (intOf i).toNat)
      case atStart => exact ⟨0, Nat.zero_le _, rfl, Lib.hid (b1 w _), Lib.hid (Bx.new w 3 _)⟩
      case round =>
        obtain ⟨k, hk, rfl, HBL, HC⟩ := hrel
        by_cases hlt : k < m
        · have hltI : (k : Int) < (m : Int) := by omega
          have hcl := HC.out.kcell (i := k) (by rw [fil_len]; exact hlt)
          have hfr := HC.out.free k
          have hl2 := HC.out.lt
          go_wp2_with fail
          go_roundw
          case rel => exact ⟨k + 1, by omega, by go_num, Lib.hid (HBL.out.setCell (p := ⟨w.heap.size, k, none⟩) (Nat.le_refl _) _), Lib.hid (by rw [← fil_set hlt]; exact HC.out.kput k _)⟩
          case measure => simp [intOf]; omega
        · obtain rfl : k = m := by omega
          have HC2 := HC.out
          rw [fil_all] at HC2
          have HC3 := Lib.hid (Rk.block HC2 (by rw [rng_len]; omega) (by have := HW.out; rw [HE.out] at this; exact this))
          clear HC2
          go_wp2_with fail
          go_ret2
          exact ⟨some ⟨w.heap.size, 0, none⟩, k, by rw [HE.out, rng_len]; rfl, by rw [HE.out]; exact HC3.out, HBL.out⟩
    · have e1 : ((n : Int) != (m : Int)) = true := by simp; omega
      have HE : Hid (dfS a b = (rng n, 0)) := Lib.hid (by rw [df_far (by rw [HLA.out, HLB.out]; exact hnm), HLA.out, HLB.out]; congr; omega)
      have g1 : (m : Int) < (n : Int) := by omega
      have g2 : decide ((n : Int) < (m : Int)) = false := decide_eq_false (by omega)
      have g3 : ¬ (n : Int) < (m : Int) := by omega
      have g4 : max (n : Int) (m : Int) = (n : Int) := by omega
      have g5 : ¬ (n : Int) ≤ (m : Int) := by omega
      have g6 : (m : Int) ≤ (n : Int) := by omega
      clear hnm
      have hmk := fun w' => make_ints w' n (by omega)
      go_enter Try.func26, Try.ntmps26
      go_wp2_with fail
      clear hmk
      go_loopw [7, 22] (fun _ i wr => ∃ k : Nat, k ≤ n ∧ i = .int .i64 k ∧ Hid (Below w.heap.size w wr) ∧ Hid (Bx wr w.heap.size 3 (vk .i64 (fil n k)).toArray)) (fun _ i _ => n - (intOf i).toNat)
      case atStart => exact ⟨0, Nat.zero_le _, rfl, Lib.hid (b1 w _), Lib.hid (Bx.new w 3 _)⟩
      case round =>
        obtain ⟨k, hk, rfl, HBL, HC⟩ := hrel
        by_cases hlt : k < n
        · have hltI : (k : Int) < (n : Int) := by omega
          have hcl := HC.out.kcell (i := k) (by rw [fil_len]; exact hlt)
          have hfr := HC.out.free k
          have hl2 := HC.out.lt
          go_wp2_with fail
          go_roundw
          case rel => exact ⟨k + 1, by omega, by go_num, Lib.hid (HBL.out.setCell (p := ⟨w.heap.size, k, none⟩) (Nat.le_refl _) _), Lib.hid (by rw [← fil_set hlt]; exact HC.out.kput k _)⟩
          case measure => simp [intOf]; omega
        · obtain rfl : k = n := by omega
          have HC2 := HC.out
          rw [fil_all] at HC2
          have HC3 := Lib.hid (Rk.block HC2 (by rw [rng_len]; omega) (by have := HW.out; rw [HE.out] at this; exact this))
          clear HC2
          go_wp2_with fail
          go_ret2
          exact ⟨some ⟨w.heap.size, 0, none⟩, k, by rw [HE.out, rng_len]; rfl, by rw [HE.out]; exact HC3.out, HBL.out⟩
set_option maxHeartbeats 1000000 in
set_option maxRecDepth 100000 in
theorem differ27 (A B : Option Addr) (n m c c' : Nat) (a b : List Int) (w : World) (h1 : Rk .u64 w w.heap.size A n a) (h2 : Rk .u64 w w.heap.size B m b) (hn4 : n ≤ 4096) (hm4 : m ≤ 4096) :
    Calls Try.prog 27 #[.slice A n c, .slice B m c'] w (DfR w a b) := by
  have HW := Lib.hid (wf_all (df_in (a := a) (b := b) (by rw [h1.1]; exact hn4) (by rw [h2.1]; exact hm4)))
  have HLA := Lib.hid h1.1
  have HLB := Lib.hid h2.1
  have HA := Lib.hid h1
  have HB := Lib.hid h2
  have hn := h1.2.1
  have hm := h2.2.1
  clear h1 h2
  obtain ⟨i0, hi0, hz0, hs0, hb0'⟩ := info_parts int_info
  by_cases hnm : n = m
  · subst hnm
    have e1 : ((n : Int) != (n : Int)) = false := by simp
    by_cases h0 : n = 0
    · subst h0
      have HE : Hid (dfS a b = ([], 0)) := Lib.hid (df_nil (by rw [HLA.out, HLB.out]) HLA.out)
      clear e1
      go_enter Try.func27, Try.ntmps27
      go_wp2_with fail
      go_ret2
      exact ⟨none, 0, by rw [HE.out]; rfl, by rw [HE.out]; exact rk_none _ _ _ rfl, Below.refl _ _⟩
    · have h0I : ((n : Int) == 0) = false := by simp; omega
      have HE : Hid (dfS a b = dv a b (ht n) 0 ([], 0)) := Lib.hid (by rw [df_dv (by rw [HLA.out, HLB.out]) (by rw [HLA.out]; exact h0), HLA.out])
      have h1 : 1 ≤ n := by omega
      have h12 := ht_12 hn4
      obtain ⟨K, hK⟩ : ∃ K, ht n = K := ⟨_, rfl⟩
      rw [hK] at h12 HE
      have HAB : Hid (abn n K = 1) := Lib.hid (by rw [← hK]; exact abn_one h1 (Nat.le_refl _) (Nat.le_refl _))
      have HKK := Lib.hid hK
      have HPW := Lib.hid (pow_13 h12)
      clear hK h0
      go_enter Try.func27, Try.ntmps27
      go_wp2_with fail
      refine (levels37 A n c a _ HA.out h1 hn4).mono ?_
      rintro e w1 ⟨v1, rfl, ho1⟩
      rw [HKK.out] at ho1
      have HO1 := Lib.hid ho1
      have HB1 := Lib.hid (HB.out.up ho1.bel)
      have HBW := Lib.hid ho1.bel
      clear ho1
      go_wp2_with fail
      refine (levels37 B n c' b _ HB1.out h1 hn4).mono ?_
      rintro e w2 ⟨v2, rfl, ho2⟩
      rw [HKK.out] at ho2
      have HBW2 := Lib.hid (upB HBW.out ho2.bel)
      have HO12 := Lib.hid (HO1.out.below ho2.bel)
      obtain ⟨ga, ca, rfl, hca, hta⟩ := HO12.out.tr
      obtain ⟨gb, cb, rfl, hcb, htb⟩ := ho2.tr
      have HTA := Lib.hid hta
      have HTB := Lib.hid htb
      clear ho2 hta htb HO12 HO1 HBW
      go_wp2_with fail
      refine (below36 w2 a b n HLA.out hn4 (some ⟨ga, 0, none⟩) (some ⟨gb, 0, none⟩) K 0 [] 0 (.slice none 0 0) _ ca cb 0 0 rfl rfl HTA.out HTB.out (by rw [HAB.out]; omega) hca hcb (Ow.nil (Nat.le_refl _)) (by have := HPW.out; simp only [List.length_nil]; omega) (by have := HPW.out; omega)).mono ?_
      rintro e w3 ⟨v3, rfl, ho3, _⟩
      rw [← HE.out] at ho3 ⊢
      have HBW3 := Lib.hid (HBW2.out.trans (ho3.2.1.mono HBW2.out.size))
      obtain ⟨A3, c3, rfl, hr3⟩ := Rk.owned ho3.2.2 (by have := dv_len a b K 0 ([], 0); rw [← HE.out] at this; have := HPW.out; simp only [List.length_nil] at *; omega) HW.out
      have HR3 := Lib.hid hr3
      clear ho3 hr3
      go_wp2_with fail
      go_quiet (fail)
      go_wp2_with fail
      go_ret2
      exact ⟨A3, c3, rfl, HR3.out.up (below_drewN (b1 _ _) nq), below_drewN (HBW3.out.alloc HBW3.out.size _) nq⟩
  · rcases Nat.lt_or_gt_of_ne hnm with hlm | hlm
    · have e1 : ((n : Int) != (m : Int)) = true := by simp; omega
      have HE : Hid (dfS a b = (rng m, 0)) := Lib.hid (by rw [df_far (by rw [HLA.out, HLB.out]; exact hnm), HLA.out, HLB.out]; congr; omega)
      have g1 : (n : Int) < (m : Int) := by omega
      have g2 : decide ((m : Int) < (n : Int)) = false := decide_eq_false (by omega)
      have g3 : ¬ (m : Int) < (n : Int) := by omega
      have g4 : max (n : Int) (m : Int) = (m : Int) := by omega
      have g5 : ¬ (m : Int) ≤ (n : Int) := by omega
      have g6 : (n : Int) ≤ (m : Int) := by omega
      clear hnm
      go_enter Try.func27, Try.ntmps27
      go_wp2_with fail
      go_loopw [6, 7] (fun v i wr => ∃ k : Nat, k ≤ m ∧ i = .int .i64 k ∧ Hid (Ow .i64 3 w.heap.size w wr v (rng k))) (fun _ i _ => m - (intOf i).toNat)
      case atStart => exact ⟨0, Nat.zero_le _, rfl, Lib.hid (Ow.nil (Nat.le_refl _))⟩
      case round =>
        obtain ⟨k, hk, rfl, HO⟩ := hrel
        by_cases hlt : k < m
        · have hltI : (k : Int) < (m : Int) := by omega
          have hoo := HO.out.2.2
          rw [rng_len] at hoo
          have HOO := Lib.hid hoo
          have hsz := HO.out.size
          clear hoo
          have C4 : Hid (k + 1 ≤ maxLen) := Lib.hid (by unfold maxLen; omega)
          have C5 : Hid ((k + 1) * 8 ≤ 140737488355328) := Lib.hid (by omega)
          go_wp2_with (at_builtin; refine wpList_append_own _ rfl _ _ 45 rfl w.heap.size 3 i0 (.int .i64 0) 1 8 Try.underlying45 hi0 hz0 hs0 hb0' rfl (by omega) _ _ _ rfl (HOO.out.alloc _) ⟨_, 0, none⟩ 1 1 [.int .i64 (k : Int)] rfl rfl (new_cell _ _ _ _ (by simp)) (one_int .i64 (k : Int)) C4.out C5.out (by simp; omega) ?_)
          intro v' w9 hown hgrow _
          have HO9 : Hid (Ow .i64 3 w.heap.size w w9 v' (rng (k + 1))) := Lib.hid (by rw [rng_next]; exact HO.out.app (rng_len k) hown hgrow)
          clear hown hgrow HOO HO
          go_wp2_with fail
          go_roundw
          case rel => exact ⟨k + 1, by omega, by go_num, HO9⟩
          case measure => simp [intOf]; omega
        · obtain rfl : k = m := by omega
          obtain ⟨A3, c3, rfl, hr3⟩ := Rk.owned HO.out.2.2 (by rw [rng_len]; omega) (by have := HW.out; rw [HE.out] at this; exact this)
          have HR3 := Lib.hid hr3
          have HBW := Lib.hid HO.out.2.1
          clear hr3 HO
          go_wp2_with fail
          go_ret2
          exact ⟨A3, c3, by rw [HE.out]; rfl, by rw [HE.out]; exact HR3.out, HBW.out⟩
    · have e1 : ((n : Int) != (m : Int)) = true := by simp; omega
      have HE : Hid (dfS a b = (rng n, 0)) := Lib.hid (by rw [df_far (by rw [HLA.out, HLB.out]; exact hnm), HLA.out, HLB.out]; congr; omega)
      have g1 : (m : Int) < (n : Int) := by omega
      have g2 : decide ((n : Int) < (m : Int)) = false := decide_eq_false (by omega)
      have g3 : ¬ (n : Int) < (m : Int) := by omega
      have g4 : max (n : Int) (m : Int) = (n : Int) := by omega
      have g5 : ¬ (n : Int) ≤ (m : Int) := by omega
      have g6 : (m : Int) ≤ (n : Int) := by omega
      clear hnm
      go_enter Try.func27, Try.ntmps27
      go_wp2_with fail
      go_loopw [6, 7] (fun v i wr => ∃ k : Nat, k ≤ n ∧ i = .int .i64 k ∧ Hid (Ow .i64 3 w.heap.size w wr v (rng k))) (fun _ i _ => n - (intOf i).toNat)
      case atStart => exact ⟨0, Nat.zero_le _, rfl, Lib.hid (Ow.nil (Nat.le_refl _))⟩
      case round =>
        obtain ⟨k, hk, rfl, HO⟩ := hrel
        by_cases hlt : k < n
        · have hltI : (k : Int) < (n : Int) := by omega
          have hoo := HO.out.2.2
          rw [rng_len] at hoo
          have HOO := Lib.hid hoo
          have hsz := HO.out.size
          clear hoo
          have C4 : Hid (k + 1 ≤ maxLen) := Lib.hid (by unfold maxLen; omega)
          have C5 : Hid ((k + 1) * 8 ≤ 140737488355328) := Lib.hid (by omega)
          go_wp2_with (at_builtin; refine wpList_append_own _ rfl _ _ 45 rfl w.heap.size 3 i0 (.int .i64 0) 1 8 Try.underlying45 hi0 hz0 hs0 hb0' rfl (by omega) _ _ _ rfl (HOO.out.alloc _) ⟨_, 0, none⟩ 1 1 [.int .i64 (k : Int)] rfl rfl (new_cell _ _ _ _ (by simp)) (one_int .i64 (k : Int)) C4.out C5.out (by simp; omega) ?_)
          intro v' w9 hown hgrow _
          have HO9 : Hid (Ow .i64 3 w.heap.size w w9 v' (rng (k + 1))) := Lib.hid (by rw [rng_next]; exact HO.out.app (rng_len k) hown hgrow)
          clear hown hgrow HOO HO
          go_wp2_with fail
          go_roundw
          case rel => exact ⟨k + 1, by omega, by go_num, HO9⟩
          case measure => simp [intOf]; omega
        · obtain rfl : k = n := by omega
          obtain ⟨A3, c3, rfl, hr3⟩ := Rk.owned HO.out.2.2 (by rw [rng_len]; omega) (by have := HW.out; rw [HE.out] at this; exact this)
          have HR3 := Lib.hid hr3
          have HBW := Lib.hid HO.out.2.1
          clear hr3 HO
          go_wp2_with fail
          go_ret2
          exact ⟨A3, c3, by rw [HE.out]; rfl, by rw [HE.out]; exact HR3.out, HBW.out⟩
end Go.Proofs.Ytbhdghopdhehdaa.Wk
