/- Distances: the same both ways, and how big. No condition. -/
import Derived.Test.YtldglchpaookiaaDoorB3
set_option linter.unusedSimpArgs false
set_option linter.unusedVariables false
namespace Go.Proofs.YtldglchpaookiaaDoor.Wk
open Go Go.RowKit Go.Proofs.YtldglchpaookiaaDoor.Av
theorem pm_comm (a b : Int) (k : Nat) : pm a b k = pm b a k := by unfold pm; rw [Bool.or_comm]
theorem lk_comm {a b : Int} (h1 : 0 ≤ a ∧ a ≤ 255) (h2 : 0 ≤ b ∧ b ≤ 255) : lk a b = lk b a := by
  rw [← lk_eq h2, ← lk_eq h1]
  unfold lkR
  congr 1
  funext k
  exact pm_comm a b k
theorem bI_in (s : ByteArray) (k : Nat) : 0 ≤ bI s k ∧ bI s k ≤ 255 := by
  have := UInt8.toNat_lt (bt s k)
  unfold bI; omega
theorem chg_comm {u v : Int} (h1 : 0 ≤ u ∧ u ≤ 255) (h2 : 0 ≤ v ∧ v ≤ 255) : chg u v = chg v u := by
  unfold chg
  rw [lk_comm h1 h2, Bool.beq_comm]
theorem chg_0 {u v : Int} (h : chg u v = 0) : u = v := by
  unfold chg at h
  cases hb : (u == v) with
  | true => simpa using hb
  | false => rw [hb] at h; cases hl : lk u v <;> rw [hl] at h <;> simp at h
theorem dd_sym (x y : ByteArray) : ∀ (i j : Nat), dd x y i j = dd y x j i
  | 0, 0 => by simp only [dd]
  | 0, j + 1 => by simp only [dd]; omega
  | i + 1, 0 => by simp only [dd]; omega
  | i + 1, j + 1 => by
    have h1 := dd_sym x y i j
    have h2 := dd_sym x y (i + 1) j
    have h3 := dd_sym x y i (j + 1)
    have h4 := chg_comm (bI_in x i) (bI_in y j)
    simp only [dd]
    omega
theorem dd_hi (x y : ByteArray) : ∀ (i j : Nat), dd x y i j ≤ 3 * max (i : Int) (j : Int)
  | 0, j => by simp only [dd]; omega
  | i + 1, 0 => by simp only [dd]; omega
  | i + 1, j + 1 => by
    have h1 := dd_hi x y i j
    have h4 := chg_in (bI x i) (bI y j)
    simp only [dd]
    omega
theorem dd_zero (x y : ByteArray) : ∀ (i j : Nat), dd x y i j = 0 → i = j ∧ ∀ q, q < i → bI x q = bI y q
  | 0, j, h => by simp only [dd] at h; exact ⟨by omega, fun q hq => by omega⟩
  | i + 1, 0, h => by simp only [dd] at h; omega
  | i + 1, j + 1, h => by
    have h2 := (dd_in x y (i + 1) j).2.1
    have h3 := (dd_in x y i (j + 1)).2.1
    have h1 := (dd_in x y i j).2.1
    have h4 := chg_in (bI x i) (bI y j)
    simp only [dd] at h
    have e0 : dd x y i j = 0 := by omega
    have e1 := chg_0 (show chg (bI x i) (bI y j) = 0 by omega)
    obtain ⟨e2, e3⟩ := dd_zero x y i j e0
    refine ⟨by omega, fun q hq => ?_⟩
    by_cases he : q = i
    · rw [he, e1, e2]
    · exact e3 q (by omega)
theorem ba_ext {x y : ByteArray} (hs : x.size = y.size) (h : ∀ q, q < x.size → bt x q = bt y q) : x = y := by
  have hl : x.data.toList = y.data.toList := by
    apply List.ext_getElem?
    intro q
    by_cases hq : q < x.size
    · have h1 : q < x.data.toList.length := by simpa using hq
      have h2 : q < y.data.toList.length := by rw [hs] at hq; simpa using hq
      have h3 := h q hq
      unfold bt at h3
      rw [List.getElem?_eq_getElem h1, List.getElem?_eq_getElem h2]
      simp only [List.getD_eq_getElem?_getD, List.getElem?_eq_getElem h1, List.getElem?_eq_getElem h2, Option.getD_some] at h3
      rw [h3]
    · rw [List.getElem?_eq_none (by simpa using hq), List.getElem?_eq_none (by rw [hs] at hq; simpa using hq)]
  rw [ByteArray.ext_iff]
  exact Array.toList_inj.1 hl
theorem dst_0 (a b : ByteArray) : ((dst a b == 0) == sEq (hd a) (hd b)) = true := by
  cases hs : sEq (hd a) (hd b) with
  | true =>
    have he := sEq_eq hs
    have : dst a b = 0 := by unfold dst; rw [he]; exact dd_same _ _
    rw [this]; rfl
  | false =>
    have : dst a b ≠ 0 := fun h => by
      obtain ⟨h1, h2⟩ := dd_zero _ _ _ _ (show dd (hd a) (hd b) (hd a).size (hd b).size = 0 from h)
      have he : hd a = hd b := ba_ext h1 (fun q hq => UInt8.toNat_inj.1 (by have := h2 q hq; unfold bI at this; omega))
      rw [he, show sEq (hd b) (hd b) = true from decide_eq_true rfl] at hs
      cases hs
    have h2 : (dst a b == 0) = false := by simpa using this
    rw [h2]; rfl
theorem dst_sym (a b : ByteArray) : dst b a = dst a b := by unfold dst; exact dd_sym _ _ _ _
theorem dst_lo (a b : ByteArray) : 3 * ((hd a).size : Int) - 3 * ((hd b).size : Int) ≤ dst a b ∧ 3 * ((hd b).size : Int) - 3 * ((hd a).size : Int) ≤ dst a b := (dd_in (hd a) (hd b) (hd a).size (hd b).size).1
theorem dst_hi (a b : ByteArray) : dst a b ≤ 96 := by
  have h1 := dd_hi (hd a) (hd b) (hd a).size (hd b).size
  have h2 := hd_sz a
  have h3 := hd_sz b
  unfold dst
  omega
theorem smE (a b : ByteArray) : (sm a b == decide (dst a b ≤ 2)) = true := beq_self_eq_true (sm a b)
theorem dsDs (a b : ByteArray) (ha : a.size ≤ 60) (hb : b.size ≤ 60) : Ctr Tryd.prog 16 [.fl (.string b), .fl (.string a)] (.d (.fl (.int .i64 (dst a b)))) := by rw [← dst_sym]; exact dsD b a hb ha

set_option maxHeartbeats 4000000 in
set_option maxRecDepth 100000 in
theorem hdW (s : ByteArray) (hs : s.size ≤ 60) : Ctr Tryd.prog 26 [.fl (.string s)] (.d (.fl (.string (hd s)))) := by
  refine ctr (n := 9) (rs := #[.tmp 2]) (L := [(0, .d (.fl (.string s)))]) Tryd.func26 rfl rfl rfl rfl rfl (fun w0 U0 => ?_)
  refine a_rseq ?_
  refine rg_put (d := 2) (v := .d (.fl (.string (⟨#[]⟩)))) rfl (og rfl (op_assign rfl rfl rfl)) ?_
  refine rg_done rfl ?_
  refine a_seq ?_
  refine a_rseq ?_
  refine rg_put (d := 3) (v := .d (.fl (.string s))) rfl (og rfl (op_move rfl rfl rfl)) ?_
  refine rg_put (d := 4) (v := .d (.fl (.int .i64 (s.size : Int)))) rfl (og rfl (op_len_str rfl Tryd.underlying9 rfl rfl)) ?_
  refine rg_put (d := 5) (v := .d (.fl (.bool ((decide (32 < (s.size : Int))))))) rfl (og rfl (op_bin rfl rfl rfl (b_gtr _ _ _ _) rfl)) ?_
  refine rg_done rfl ?_
  refine a_cond rfl (fun h1 => ?_) (fun h1 => ?_)
  · skip
    have h2 := t_dec h1
    refine a_rseq ?_
    refine rg_put (d := 6) (v := .d (.fl (.string s))) rfl (og rfl (op_move rfl rfl rfl)) ?_
    refine rg_put (d := 7) (v := .d (.fl (.string (s.extract 0 32)))) rfl (og rfl (op_strslice rfl Tryd.underlying9 rfl (.no _) (.so (n := 32) _ rfl (by omega)) (by omega) (by omega) rfl)) ?_
    refine rg_put (d := 2) (v := .d (.fl (.string (s.extract 0 32)))) rfl (og rfl (op_assign rfl rfl rfl)) ?_
    refine rg_done rfl ?_
    refine a_ret ?_
    show ∃ ds, ResL _ _ _ ds ∧ RV.of ds = _
    refine ⟨[.fl (.string (s.extract 0 32))], (.cons (.tmp rfl (.d _)) .nil), ?_⟩
    have hu : hd s = s.extract 0 32 := by unfold hd; rw [if_pos (by omega)]
    rw [hu]; rfl
  · skip
    have h3 := f_dec h1
    refine a_skip ?_
    show A _ _ _ _ _ _ _
    refine a_rseq ?_
    refine rg_put (d := 8) (v := .d (.fl (.string s))) rfl (og rfl (op_move rfl rfl rfl)) ?_
    refine rg_put (d := 2) (v := .d (.fl (.string s))) rfl (og rfl (op_assign rfl rfl rfl)) ?_
    refine rg_done rfl ?_
    refine a_ret ?_
    show ∃ ds, ResL _ _ _ ds ∧ RV.of ds = _
    refine ⟨[.fl (.string s)], (.cons (.tmp rfl (.d _)) .nil), ?_⟩
    have hu : hd s = s := by unfold hd; rw [if_neg (by omega)]
    rw [hu]; rfl
end Go.Proofs.YtldglchpaookiaaDoor.Wk
