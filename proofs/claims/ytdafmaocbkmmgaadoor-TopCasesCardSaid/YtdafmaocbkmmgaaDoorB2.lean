/- Business days. No condition. -/
import Derived.Test.YtdafmaocbkmmgaaDoorB1
set_option linter.unusedSimpArgs false
set_option linter.unusedVariables false
namespace Go.Proofs.YtdafmaocbkmmgaaDoor.Wk
open Go Go.RowKit Go.Proofs.YtdafmaocbkmmgaaDoor.Av
def hol (cal : List Int) (d : Int) : Bool := cal.any fun c => c == d
def biz (cal : List Int) (d : Int) : Bool := decide (d % 7 < 5) && !(hol cal d)
def lat (cal : List Int) : Nat → Int → Int → Int × Int
  | 0, d, n => if n ≤ 0 then (d, 0) else (0, 12)
  | f + 1, d, n => if n ≤ 0 then (d, 0) else lat cal f (d + 1) (if biz cal (d + 1) = true then n - 1 else n)
def latS (cal : List Int) (day n : Int) : Int × Int := if (!isD day) = true then (0, 12) else if (decide (n < 0) || decide (4096 < n)) = true then (0, 1) else lat cal (795363 - day).toNat day n
theorem lat_done {cal : List Int} {f : Nat} {d n : Int} (h : n ≤ 0) : lat cal f d n = (d, 0) := by cases f <;> simp [lat, h]
theorem lat_out {cal : List Int} {f : Nat} {d n : Int} (h : 0 < n) (hf : f = 0) : lat cal f d n = (0, 12) := by subst hf; simp [lat]; omega
theorem lat_go {cal : List Int} {f k : Nat} {d n : Int} (hk : k < f) (hn : 0 < n) : lat cal (f - k) d n = lat cal (f - (k + 1)) (d + 1) (if biz cal (d + 1) = true then n - 1 else n) := by
  rw [show f - k = (f - (k + 1)) + 1 by omega]
  show (if n ≤ 0 then _ else _) = _
  rw [if_neg (by omega)]
theorem lat_more {cal : List Int} (g : Nat) : ∀ (f : Nat) (d n : Int) {r : Int}, lat cal f d n = (r, 0) → lat cal (f + g) d n = (r, 0)
  | 0, d, n, r, h => by
    unfold lat at h
    split at h
    · rename_i h0; rw [lat_done h0]; exact h
    · cases h
  | f + 1, d, n, r, h => by
    unfold lat at h
    split at h
    · rename_i h0; rw [lat_done h0]; exact h
    · rename_i h0
      rw [show f + 1 + g = (f + g) + 1 by omega]
      show (if n ≤ 0 then _ else _) = _
      rw [if_neg h0]
      exact lat_more g f _ _ h
theorem hol_yes {cal : List Int} {d : Int} {k : Nat} (hk : k < cal.length) (h : (ix cal k == d) = true) : hol cal d = true := List.any_eq_true.2 ⟨_, ix_mem hk, h⟩
theorem ix_eqI {α : Type} [Inhabited α] {l : List α} {i : Nat} (h : i < l.length) : l[i] = ix l i := by
  have := ix_get h
  rw [List.getElem?_eq_getElem h] at this
  exact Option.some.inj this
theorem hol_no {cal : List Int} {d : Int} (h : ∀ q, q < cal.length → (ix cal q == d) = false) : hol cal d = false := by
  unfold hol; rw [List.any_eq_false]
  intro x hx
  obtain ⟨j, hj, he⟩ := List.mem_iff_getElem.1 hx
  rw [ix_eqI hj] at he
  rw [← he, h j hj]; simp
def fr (cal : List Int) (day : Int) : Nat → List Int
  | 0 => []
  | k + 1 => if decide (day < ix cal k) = true then (if (fr cal day k).contains (ix cal k) = true then fr cal day k else fr cal day k ++ [ix cal k]) else fr cal day k
theorem fr_succ (cal : List Int) (day : Int) (k : Nat) : fr cal day (k + 1) = if decide (day < ix cal k) = true then (if (fr cal day k).contains (ix cal k) = true then fr cal day k else fr cal day k ++ [ix cal k]) else fr cal day k := rfl
def mkE (l : List Int) : List (Value × DV) := l.map fun x => (Value.int .i64 x, DV.fl (.bool true))
theorem mkE_push (l : List Int) (c : Int) : mkE l ++ [(Value.int .i64 c, DV.fl (.bool true))] = mkE (l ++ [c]) := by simp [mkE]
theorem mkE_find {l : List Int} {p : Int} : mfind (.int .i64) (.int .i64 p) (mkE l) = some (if l.contains p = true then some (.fl (.bool true)) else none) := by
  have := mfind_map .i64 (fun x : Int => x) (fun _ => DV.fl (.bool true)) p l
  unfold mkE
  rw [this]
  congr 1
  cases h : l.find? fun x => p == x with
  | none =>
    have h1 : l.contains p = false := by
      rw [List.find?_eq_none] at h
      rw [← Bool.not_eq_true, List.contains_iff_mem]
      intro hm
      have := h p hm
      simp at this
    rw [h1]; rfl
  | some a =>
    have h1 : l.contains p = true := by
      rw [List.contains_iff_mem]
      have h2 := List.find?_some h
      have h3 := List.mem_of_find?_eq_some h
      have : p = a := by simpa using h2
      rw [this]; exact h3
    rw [h1]; rfl
theorem mkE_t {l : List Int} {p : Int} (h : l.contains p = true) : mfind (.int .i64) (.int .i64 p) (mkE l) = some (some (.fl (.bool true))) := by rw [mkE_find, if_pos h]
theorem mkE_f {l : List Int} {p : Int} (h : l.contains p = false) : mfind (.int .i64) (.int .i64 p) (mkE l) = some none := by rw [mkE_find, if_neg (by rw [h]; simp)]
theorem fr_mem {cal : List Int} {day d : Int} (hd : day < d) : ∀ k, k ≤ cal.length → (fr cal day k).contains d = (cal.take k).any fun c => c == d
  | 0, _ => by simp [fr]
  | k + 1, hk => by
    have ih := fr_mem (cal := cal) hd k (by omega)
    rw [fr_succ, take_ix (by omega), List.any_append, ← ih]
    by_cases h1 : day < ix cal k
    · rw [if_pos (decide_eq_true h1)]
      cases h2 : (fr cal day k).contains (ix cal k) with
      | true =>
        rw [if_pos rfl]
        by_cases h3 : ix cal k = d
        · rw [h3] at h2; rw [h2]; simp
        · simp [h3]
      | false =>
        rw [if_neg (by simp)]
        simp only [List.contains_eq_mem, List.mem_append, List.mem_singleton, List.any_cons, List.any_nil, Bool.or_false]
        by_cases h3 : ix cal k = d
        · subst h3; simp
        · have h4 : (ix cal k == d) = false := by simpa using h3
          rw [h4, Bool.or_false]
          have h5 : ¬ d = ix cal k := fun e => h3 e.symm
          simp [h5]
    · rw [if_neg (by simpa using h1)]
      have : (ix cal k == d) = false := by rw [beq_eq_false_iff_ne]; intro e; subst e; exact h1 hd
      simp [this]
theorem fr_hol {cal : List Int} {day d : Int} {j : Nat} (hd : day < d) (hj : j ≤ cal.length) (hj2 : ¬ j < cal.length) : (fr cal day j).contains d = hol cal d := by
  rw [fr_mem hd j hj, List.take_of_length_le (by omega)]; rfl
def bz (cal : List Int) (day : Int) : Nat → Int
  | 0 => 0
  | k + 1 => bz cal day k + if biz cal (day + (k : Int) + 1) = true then 1 else 0
theorem bz_succ (cal : List Int) (day : Int) (k : Nat) : bz cal day (k + 1) = bz cal day k + if biz cal (day + (k : Int) + 1) = true then 1 else 0 := rfl
theorem bz_le (cal : List Int) (day : Int) : ∀ k, 0 ≤ bz cal day k ∧ bz cal day k ≤ (k : Int)
  | 0 => by simp [bz]
  | k + 1 => by
    have := bz_le cal day k
    rw [bz_succ]
    split <;> (constructor <;> omega)

set_option maxHeartbeats 4000000 in
set_option maxRecDepth 100000 in
theorem wd45 (d : Int) (h : isD d = true) : Ctr Tryd.prog 33 [.fl (.int .i64 d)] (.d (.fl (.int .i64 (d % 7)))) := by
  have hd := isD_t h
  refine ctr (n := 8) (rs := #[.tmp 2]) (L := [(0, .d (.fl (.int .i64 d)))]) Tryd.func33 rfl rfl rfl rfl rfl (fun w0 U0 => ?_)
  refine a_rseq ?_
  refine rg_put (d := 2) (v := .d (.fl (.int .i64 0))) rfl (og rfl (op_assign rfl rfl rfl)) ?_
  refine rg_done rfl ?_
  refine a_seq ?_
  refine a_rseq ?_
  refine rg_put (d := 3) (v := .d (.fl (.int .i64 d))) rfl (og rfl (op_move rfl rfl rfl)) ?_
  refine rg_put (d := 4) (v := .d (.fl (.bool (isD d)))) rfl (og rfl (op_call rfl Tryd.func32 nm32 rfl (.cons rfl (.d _) .nil) (isD44 d) rfl)) ?_
  refine rg_put (d := 5) (v := .d (.fl (.bool ((!(isD d)))))) rfl (og rfl (op_un rfl rfl (u_not _) rfl)) ?_
  refine rg_done rfl ?_
  refine a_condF rfl (not_f h) ?_
  refine a_skip ?_
  show A _ _ _ _ _ _ _
  refine a_rseq ?_
  refine rg_put (d := 6) (v := .d (.fl (.int .i64 d))) rfl (og rfl (op_move rfl rfl rfl)) ?_
  refine rg_put (d := 7) (v := .d (.fl (.int .i64 (d % 7)))) rfl (og rfl (op_bin rfl rfl rfl (fun x y w => b_rem _ _ _ x y w (by omega) (by omega)) rfl)) ?_
  refine rg_put (d := 2) (v := .d (.fl (.int .i64 (d % 7)))) rfl (og rfl (op_assign rfl rfl rfl)) ?_
  refine rg_done rfl ?_
  refine a_ret ?_
  show ∃ ds, ResL _ _ _ ds ∧ RV.of ds = _
  refine ⟨[.fl (.int .i64 (d % 7))], (.cons (.tmp rfl (.d _)) .nil), ?_⟩
  rfl

set_option maxHeartbeats 4000000 in
set_option maxRecDepth 100000 in
theorem later37 (cal : List Int) (day n : Int) (hl0 : cal.length < 9223372036854775807) : Ctr Tryd.prog 27 [.sl 1 (List.map (rI .i64) cal), .fl (.int .i64 day), .fl (.int .i64 n)] (.tu [.fl (.int .i64 (latS cal day n).1), .fl (.int .i64 (latS cal day n).2)]) := by
  refine ctr (n := 52) (rs := #[.tmp 6, .tmp 7]) (L := [(0, .d (.sl 1 (List.map (rI .i64) cal))), (1, .d (.fl (.int .i64 day))), (2, .d (.fl (.int .i64 n)))]) Tryd.func27 rfl rfl rfl rfl rfl (fun w0 U0 => ?_)
  refine a_rseq ?_
  refine rg_put (d := 6) (v := .d (.fl (.int .i64 0))) rfl (og rfl (op_assign rfl rfl rfl)) ?_
  refine rg_put (d := 7) (v := .d (.fl (.int .i64 0))) rfl (og rfl (op_assign rfl rfl rfl)) ?_
  refine rg_done rfl ?_
  refine a_seq ?_
  refine a_rseq ?_
  refine rg_put (d := 11) (v := .d (.fl (.int .i64 day))) rfl (og rfl (op_move rfl rfl rfl)) ?_
  refine rg_put (d := 12) (v := .d (.fl (.bool (isD day)))) rfl (og rfl (op_call rfl Tryd.func32 nm32 rfl (.cons rfl (.d _) .nil) (isD44 day) rfl)) ?_
  refine rg_put (d := 13) (v := .d (.fl (.bool ((!(isD day)))))) rfl (og rfl (op_un rfl rfl (u_not _) rfl)) ?_
  refine rg_done rfl ?_
  refine a_cond rfl (fun h1 => ?_) (fun h1 => ?_)
  · skip
    have h2 := t_not h1
    have := isD_f h2
    refine a_rseq ?_
    refine rg_put (d := 6) (v := .d (.fl (.int .i64 0))) rfl (og rfl (op_assign rfl rfl rfl)) ?_
    refine rg_put (d := 7) (v := .d (.fl (.int .i64 12))) rfl (og rfl (op_assign rfl rfl rfl)) ?_
    refine rg_done rfl ?_
    refine a_ret ?_
    show ∃ ds, ResL _ _ _ ds ∧ RV.of ds = _
    refine ⟨[.fl (.int .i64 0), .fl (.int .i64 12)], (.cons (.tmp rfl (.d _)) (.cons (.tmp rfl (.d _)) .nil)), ?_⟩
    have hu : latS cal day n = (0, 12) := by
      unfold latS; simp only [h1, h2]; rfl
    rw [hu]; rfl
  · skip
    have h3 := f_not h1
    have := isD_t h3
    refine a_skip ?_
    show A _ _ _ _ _ _ _
    refine a_seq ?_
    refine a_rseq ?_
    refine rg_put (d := 14) (v := .d (.fl (.int .i64 n))) rfl (og rfl (op_move rfl rfl rfl)) ?_
    refine rg_put (d := 15) (v := .d (.fl (.bool ((decide (n < 0)))))) rfl (og rfl (op_bin rfl rfl rfl (b_lss _ _ _ _) rfl)) ?_
    refine rg_put (d := 16) (v := .d (.fl (.bool ((decide (n < 0)))))) rfl (og rfl (op_move rfl rfl rfl)) ?_
    rcases fot ((decide (n < 0))) with h4 | h4
    · skip
      have h5 := f_dec h4
      refine rg_put (d := 17) (v := .d (.fl (.int .i64 n))) rfl (oy rfl rfl rfl h4 (op_move rfl rfl rfl)) ?_
      refine rg_put (d := 18) (v := .d (.fl (.bool ((decide (4096 < n)))))) rfl (oy rfl rfl rfl h4 (op_bin rfl rfl rfl (b_gtr _ _ _ _) rfl)) ?_
      refine rg_put (d := 19) (v := .d (.fl (.bool ((decide (4096 < n)))))) rfl (og rfl (op_pick rfl rfl (by rw [h4]; rfl) rfl)) ?_
      refine rg_done rfl ?_
      refine a_cond rfl (fun h6 => ?_) (fun h6 => ?_)
      · skip
        have h7 := t_dec h6
        refine a_rseq ?_
        refine rg_put (d := 6) (v := .d (.fl (.int .i64 0))) rfl (og rfl (op_assign rfl rfl rfl)) ?_
        refine rg_put (d := 7) (v := .d (.fl (.int .i64 1))) rfl (og rfl (op_assign rfl rfl rfl)) ?_
        refine rg_done rfl ?_
        refine a_ret ?_
        show ∃ ds, ResL _ _ _ ds ∧ RV.of ds = _
        refine ⟨[.fl (.int .i64 0), .fl (.int .i64 1)], (.cons (.tmp rfl (.d _)) (.cons (.tmp rfl (.d _)) .nil)), ?_⟩
        have hu : latS cal day n = (0, 1) := by
          unfold latS; simp only [h1, h3, h4, h6]; rfl
        rw [hu]; rfl
      · skip
        have h8 := f_dec h6
        refine a_skip ?_
        show A _ _ _ _ _ _ _
        refine a_rseq ?_
        refine rg_nam (d := 20) (v := .ow 101) (m := 101) (nw := [(101, .mp [])]) rfl (og rfl (op_makeMap 101 rfl rfl)) rfl ?_
        refine rg_put (d := 8) (v := .ow 101) rfl (og rfl (op_assign rfl rfl rfl)) ?_
        refine rg_done rfl ?_
        refine a_seq ?_
        refine a_rseq ?_
        refine rg_put (d := 21) (v := .d (.sl 1 (List.map (rI .i64) cal))) rfl (og rfl (op_move rfl rfl rfl)) ?_
        refine rg_put (d := 22) (v := .d (.fl (.int .i64 (cal.length : Int)))) rfl (og rfl (s_len rfl Tryd.underlying22 rfl rfl)) ?_
        refine rg_put (d := 23) (v := .d (.fl (.int .i64 0))) rfl (og rfl (op_move rfl rfl rfl)) ?_
        refine rg_done rfl ?_
        refine a_block ?_
        refine a_loop (ι := Nat) (fun j => SS [(0, .d (.sl 1 (List.map (rI .i64) cal))), (1, .d (.fl (.int .i64 day))), (2, .d (.fl (.int .i64 n))), (6, .d (.fl (.int .i64 0))), (7, .d (.fl (.int .i64 0))), (8, .ow 101), (13, .d (.fl (.bool ((!(isD day)))))), (19, .d (.fl (.bool ((decide (4096 < n)))))), (21, .d (.sl 1 (List.map (rI .i64) cal))), (22, .d (.fl (.int .i64 (cal.length : Int)))), (23, .d (.fl (.int .i64 (j : Int))))] [(101, .mp ((mkE (fr cal day j))))]) (fun j => j ≤ cal.length) (fun j => cal.length - j) 0 (by omega) (imp_forget rfl ⟨rfl, rfl, rfl, rfl, rfl, rfl, rfl, rfl, rfl, rfl, (by first | rfl | exact ci (by omega) | exact ci (by simp) | exact cd (by simp) | simp), trivial⟩ ⟨(by first | rfl | simp), trivial⟩) (fun j hok => ?_)
        have hj := hok
        refine a_rseq ?_
        refine rg_put (d := 24) (v := .d (.fl (.bool ((decide ((j : Int) < (cal.length : Int))))))) rfl (og rfl (op_bin rfl rfl rfl (b_lss _ _ _ _) rfl)) ?_
        refine rg_done rfl ?_
        refine a_seq ?_
        refine a_cond rfl (fun h9 => ?_) (fun h9 => ?_)
        · skip
          have h10 := t_dec h9
          refine a_skip ?_
          show A _ _ _ _ _ _ _
          refine a_seq ?_
          refine a_block ?_
          refine a_rseq ?_
          refine rg_put (d := 25) (v := .el ((rI .i64 (ix cal j)))) rfl (og rfl (s_index rfl Tryd.underlying22 ti3 rfl rfl (by omega) (row_at (by omega)) rfl)) ?_
          refine rg_put (d := 26) (v := .d (.fl (.int .i64 (ix cal j)))) rfl (og rfl (op_load_el rfl Tryd.underlying3 rfl rfl rfl rfl)) ?_
          refine rg_put (d := 10) (v := .d (.fl (.int .i64 (ix cal j)))) rfl (og rfl (op_assign rfl rfl rfl)) ?_
          refine rg_done rfl ?_
          refine a_rseq ?_
          refine rg_put (d := 27) (v := .d (.fl (.int .i64 (ix cal j)))) rfl (og rfl (op_move rfl rfl rfl)) ?_
          refine rg_put (d := 28) (v := .d (.fl (.int .i64 day))) rfl (og rfl (op_move rfl rfl rfl)) ?_
          refine rg_put (d := 29) (v := .d (.fl (.bool ((decide (day < (ix cal j))))))) rfl (og rfl (op_bin rfl rfl rfl (b_gtr _ _ _ _) rfl)) ?_
          refine rg_done rfl ?_
          refine a_cond rfl (fun h11 => ?_) (fun h11 => ?_)
          · skip
            have h12 := t_dec h11
            refine a_region ?_
            refine rg_put (d := 30) (v := .ow 101) rfl (og rfl (op_move rfl rfl rfl)) ?_
            refine rg_put (d := 31) (v := .d (.fl (.int .i64 (ix cal j)))) rfl (og rfl (op_move rfl rfl rfl)) ?_
            rcases fot (((fr cal day j).contains (ix cal j))) with h13 | h13
            · skip
              refine rg_sto (nw := [(101, .mp ((mkE (fr cal day j)) ++ [((.int .i64 (ix cal j)), .fl (.bool true))]))]) rfl (og rfl (op_mapPush rfl rfl Tryd.underlying66 Tryd.underlying3 rfl rfl rfl rfl (mkE_f h13) rfl)) ?_
              refine rg_done rfl ?_
              show A _ _ _ _ _ _ _
              refine a_region ?_
              refine rg_put (d := 32) (v := .d (.fl (.int .i64 (((j : Int) + 1))))) rfl (og rfl (op_bin rfl rfl rfl (fun x y w => b_add64 _ _ _ x y w (by omega)) rfl)) ?_
              refine rg_put (d := 23) (v := .d (.fl (.int .i64 (((j : Int) + 1))))) rfl (og rfl (op_move rfl rfl rfl)) ?_
              refine rg_done rfl ?_
              have hfr : ((mkE (fr cal day j)) ++ [((.int .i64 (ix cal j)), .fl (.bool true))]) = mkE (fr cal day (j + 1)) := by
                rw [fr_succ]; simp only [h11, h13]; first | rfl | exact mkE_push _ _
              show ∃ i, _ ∧ _ ∧ Imp _ _ _ _ _
              refine ⟨j + 1, (by omega), by omega, imp_forget rfl ⟨rfl, rfl, rfl, rfl, rfl, rfl, rfl, rfl, rfl, rfl, (by first | rfl | exact ci (by omega) | exact ci (by simp) | exact cd (by simp) | simp), trivial⟩ ⟨(congrArg Ob.mp hfr), trivial⟩⟩
            · skip
              refine rg_sto (nw := [(101, .mp ((mkE (fr cal day j))))]) rfl (og rfl (op_mapSame rfl rfl Tryd.underlying66 Tryd.underlying3 rfl rfl rfl rfl (mkE_t h13) rfl)) ?_
              refine rg_done rfl ?_
              show A _ _ _ _ _ _ _
              refine a_region ?_
              refine rg_put (d := 32) (v := .d (.fl (.int .i64 (((j : Int) + 1))))) rfl (og rfl (op_bin rfl rfl rfl (fun x y w => b_add64 _ _ _ x y w (by omega)) rfl)) ?_
              refine rg_put (d := 23) (v := .d (.fl (.int .i64 (((j : Int) + 1))))) rfl (og rfl (op_move rfl rfl rfl)) ?_
              refine rg_done rfl ?_
              have hfr : (mkE (fr cal day j)) = mkE (fr cal day (j + 1)) := by
                rw [fr_succ]; simp only [h11, h13]; first | rfl | exact mkE_push _ _
              show ∃ i, _ ∧ _ ∧ Imp _ _ _ _ _
              refine ⟨j + 1, (by omega), by omega, imp_forget rfl ⟨rfl, rfl, rfl, rfl, rfl, rfl, rfl, rfl, rfl, rfl, (by first | rfl | exact ci (by omega) | exact ci (by simp) | exact cd (by simp) | simp), trivial⟩ ⟨(congrArg Ob.mp hfr), trivial⟩⟩
          · skip
            have h14 := f_dec h11
            refine a_skip ?_
            show A _ _ _ _ _ _ _
            refine a_region ?_
            refine rg_put (d := 32) (v := .d (.fl (.int .i64 (((j : Int) + 1))))) rfl (og rfl (op_bin rfl rfl rfl (fun x y w => b_add64 _ _ _ x y w (by omega)) rfl)) ?_
            refine rg_put (d := 23) (v := .d (.fl (.int .i64 (((j : Int) + 1))))) rfl (og rfl (op_move rfl rfl rfl)) ?_
            refine rg_done rfl ?_
            have hfr : (mkE (fr cal day j)) = mkE (fr cal day (j + 1)) := by
              rw [fr_succ]; simp only [h11]; first | rfl | exact mkE_push _ _
            show ∃ i, _ ∧ _ ∧ Imp _ _ _ _ _
            refine ⟨j + 1, (by omega), by omega, imp_forget rfl ⟨rfl, rfl, rfl, rfl, rfl, rfl, rfl, rfl, rfl, rfl, (by first | rfl | exact ci (by omega) | exact ci (by simp) | exact cd (by simp) | simp), trivial⟩ ⟨(congrArg Ob.mp hfr), trivial⟩⟩
        · skip
          have h15 := f_dec h9
          refine a_exit ?_
          show A _ _ _ _ _ _ _
          refine a_seq ?_
          refine a_block ?_
          refine a_loop (ι := Nat) (fun k => SS [(0, .d (.sl 1 (List.map (rI .i64) cal))), (8, .ow 101), (13, .d (.fl (.bool ((!(isD day)))))), (19, .d (.fl (.bool ((decide (4096 < n)))))), (21, .d (.sl 1 (List.map (rI .i64) cal))), (22, .d (.fl (.int .i64 (cal.length : Int)))), (23, .d (.fl (.int .i64 (j : Int)))), (24, .d (.fl (.bool ((decide ((j : Int) < (cal.length : Int))))))), (1, .d (.fl (.int .i64 ((day + (k : Int)))))), (2, .d (.fl (.int .i64 (n - bz cal day k))))] [(101, .mp ((mkE (fr cal day j))))]) (fun k => k ≤ (795363 - day).toNat ∧ 0 ≤ n - bz cal day k ∧ lat cal (795363 - day).toNat day n = lat cal ((795363 - day).toNat - k) (day + (k : Int)) (n - bz cal day k)) (fun k => (795363 - day).toNat - k) 0 (⟨by omega, by show 0 ≤ n - 0; omega, by show _ = lat cal _ (day + 0) (n - 0); rw [Int.add_zero, Int.sub_zero, Nat.sub_zero]⟩) (imp_forget rfl ⟨rfl, rfl, rfl, rfl, rfl, rfl, rfl, rfl, (ci (by omega)), (ci (by show n = n - 0; omega)), trivial⟩ ⟨(by first | rfl | simp), trivial⟩) (fun k hok => ?_)
          obtain ⟨hk, hn0, hl⟩ := hok
          have hbl := bz_le cal day k
          refine a_seq ?_
          refine a_rseq ?_
          refine rg_put (d := 33) (v := .d (.fl (.int .i64 (n - bz cal day k)))) rfl (og rfl (op_move rfl rfl rfl)) ?_
          refine rg_put (d := 34) (v := .d (.fl (.bool ((decide (0 < (n - bz cal day k))))))) rfl (og rfl (op_bin rfl rfl rfl (b_gtr _ _ _ _) rfl)) ?_
          refine rg_done rfl ?_
          refine a_cond rfl (fun h16 => ?_) (fun h16 => ?_)
          · skip
            have h17 := t_dec h16
            refine a_skip ?_
            show A _ _ _ _ _ _ _
            refine a_block ?_
            refine a_rseq ?_
            refine rg_put (d := 35) (v := .d (.fl (.int .i64 ((day + (k : Int)))))) rfl (og rfl (op_move rfl rfl rfl)) ?_
            refine rg_put (d := 36) (v := .d (.fl (.int .i64 (((day + (k : Int)) + 1))))) rfl (og rfl (op_bin rfl rfl rfl (fun x y w => b_add64 _ _ _ x y w (by omega)) rfl)) ?_
            refine rg_put (d := 1) (v := .d (.fl (.int .i64 (((day + (k : Int)) + 1))))) rfl (og rfl (op_assign rfl rfl rfl)) ?_
            refine rg_done rfl ?_
            refine a_seq ?_
            refine a_rseq ?_
            refine rg_put (d := 37) (v := .d (.fl (.int .i64 (((day + (k : Int)) + 1))))) rfl (og rfl (op_move rfl rfl rfl)) ?_
            refine rg_put (d := 38) (v := .d (.fl (.bool ((isD (((day + (k : Int)) + 1))))))) rfl (og rfl (op_call rfl Tryd.func32 nm32 rfl (.cons rfl (.d _) .nil) (isD44 (((day + (k : Int)) + 1))) rfl)) ?_
            refine rg_put (d := 39) (v := .d (.fl (.bool ((!((isD (((day + (k : Int)) + 1))))))))) rfl (og rfl (op_un rfl rfl (u_not _) rfl)) ?_
            refine rg_done rfl ?_
            refine a_cond rfl (fun h18 => ?_) (fun h18 => ?_)
            · skip
              have h19 := t_not h18
              have := isD_f h19
              refine a_rseq ?_
              refine rg_put (d := 6) (v := .d (.fl (.int .i64 0))) rfl (og rfl (op_assign rfl rfl rfl)) ?_
              refine rg_put (d := 7) (v := .d (.fl (.int .i64 12))) rfl (og rfl (op_assign rfl rfl rfl)) ?_
              refine rg_done rfl ?_
              refine a_ret ?_
              show ∃ ds, ResL _ _ _ ds ∧ RV.of ds = _
              refine ⟨[.fl (.int .i64 0), .fl (.int .i64 12)], (.cons (.tmp rfl (.d _)) (.cons (.tmp rfl (.d _)) .nil)), ?_⟩
              have hu : latS cal day n = (0, 12) := by
                unfold latS; simp only [h1, h3, h4, h6, h9, h16, h18, h19]
                show lat cal _ day n = _
                rw [hl, lat_out (by omega) (by omega)]
              rw [hu]; rfl
            · skip
              have h20 := f_not h18
              have := isD_t h20
              refine a_skip ?_
              show A _ _ _ _ _ _ _
              refine a_rseq ?_
              refine rg_put (d := 40) (v := .d (.fl (.int .i64 (((day + (k : Int)) + 1))))) rfl (og rfl (op_move rfl rfl rfl)) ?_
              refine rg_put (d := 41) (v := .d (.fl (.int .i64 ((((day + (k : Int)) + 1) % 7))))) rfl (og rfl (op_call rfl Tryd.func33 nm33 rfl (.cons rfl (.d _) .nil) (wd45 (((day + (k : Int)) + 1)) h20) rfl)) ?_
              refine rg_put (d := 42) (v := .d (.fl (.bool ((decide ((((day + (k : Int)) + 1) % 7) < 5)))))) rfl (og rfl (op_bin rfl rfl rfl (b_lss _ _ _ _) rfl)) ?_
              refine rg_put (d := 43) (v := .d (.fl (.bool ((decide ((((day + (k : Int)) + 1) % 7) < 5)))))) rfl (og rfl (op_move rfl rfl rfl)) ?_
              rcases fot ((decide ((((day + (k : Int)) + 1) % 7) < 5))) with h21 | h21
              · skip
                have h22 := f_dec h21
                refine rg_put (d := 44) (v := .d (.fl undef)) rfl (on rfl rfl rfl h21) ?_
                refine rg_put (d := 45) (v := .d (.fl undef)) rfl (on rfl rfl rfl h21) ?_
                refine rg_put (d := 46) (v := .d (.fl undef)) rfl (on rfl rfl rfl h21) ?_
                refine rg_put (d := 47) (v := .d (.fl undef)) rfl (on rfl rfl rfl h21) ?_
                refine rg_put (d := 48) (v := .d (.fl (.bool false))) rfl (og rfl (op_pick rfl rfl (by rw [h21]; rfl) rfl)) ?_
                refine rg_done rfl ?_
                refine a_condF rfl rfl ?_
                refine a_skip ?_
                have hin := isD_t h20
                have hbz : biz cal (day + (k : Int) + 1) = false := by unfold biz; simp only [h21]; rfl
                have hbs : bz cal day (k + 1) = bz cal day k + 0 := by rw [bz_succ, hbz]; rfl
                have hst := hl.trans (lat_go (by omega) (by omega))
                rw [hbz] at hst
                have hst : lat cal (795363 - day).toNat day n = lat cal ((795363 - day).toNat - (k + 1)) (day + ((k + 1 : Nat) : Int)) (n - bz cal day (k + 1)) := by
                  rw [hst, hbs, show day + ((k + 1 : Nat) : Int) = day + (k : Int) + 1 by omega]
                  congr 1; show n - bz cal day k = _; omega
                show ∃ i, _ ∧ _ ∧ Imp _ _ _ _ _
                refine ⟨k + 1, ⟨by omega, by omega, hst⟩, by omega, imp_forget rfl ⟨rfl, rfl, rfl, rfl, rfl, rfl, rfl, rfl, (by first | rfl | exact ci (by omega) | exact ci (by simp) | exact cd (by simp) | simp), (by first | rfl | exact ci (by omega) | exact ci (by simp) | exact cd (by simp) | simp), trivial⟩ ⟨(by first | rfl | simp), trivial⟩⟩
              · skip
                have h23 := t_dec h21
                refine rg_put (d := 44) (v := .ow 101) rfl (oy rfl rfl rfl h21 (op_move rfl rfl rfl)) ?_
                refine rg_put (d := 45) (v := .d (.fl (.int .i64 (((day + (k : Int)) + 1))))) rfl (oy rfl rfl rfl h21 (op_move rfl rfl rfl)) ?_
                rcases fot (((fr cal day j).contains (((day + (k : Int)) + 1)))) with h24 | h24
                · skip
                  refine rg_put (d := 46) (v := .d (.fl (.bool false))) rfl (oy rfl rfl rfl h21 (op_lookup1 rfl Tryd.underlying66 Tryd.underlying3 rfl ti4 rfl rfl (.ow rfl) rfl (r := none) (mkE_f h24) rfl rfl)) ?_
                  refine rg_put (d := 47) (v := .d (.fl (.bool (!false)))) rfl (oy rfl rfl rfl h21 (op_un rfl rfl (u_not _) rfl)) ?_
                  refine rg_put (d := 48) (v := .d (.fl (.bool (!false)))) rfl (og rfl (op_pick rfl rfl (by rw [h21]; rfl) rfl)) ?_
                  refine rg_done rfl ?_
                  refine a_condK rfl (not_t' rfl) ?_
                  refine a_region ?_
                  refine rg_put (d := 49) (v := .d (.fl (.int .i64 (n - bz cal day k)))) rfl (og rfl (op_move rfl rfl rfl)) ?_
                  refine rg_put (d := 50) (v := .d (.fl (.int .i64 (((n - bz cal day k) - 1))))) rfl (og rfl (op_bin rfl rfl rfl (fun x y w => b_sub64 _ _ _ x y w (by omega)) rfl)) ?_
                  refine rg_put (d := 2) (v := .d (.fl (.int .i64 (((n - bz cal day k) - 1))))) rfl (og rfl (op_assign rfl rfl rfl)) ?_
                  refine rg_done rfl ?_
                  have hin := isD_t h20
                  have hh : hol cal (day + (k : Int) + 1) = false := (fr_hol (by omega) hj (by omega)).symm.trans h24
                  have hbz : biz cal (day + (k : Int) + 1) = true := by unfold biz; simp only [h21, hh]; rfl
                  have hbs : bz cal day (k + 1) = bz cal day k + 1 := by rw [bz_succ, hbz]; rfl
                  have hst := hl.trans (lat_go (by omega) (by omega))
                  rw [hbz] at hst
                  have hst : lat cal (795363 - day).toNat day n = lat cal ((795363 - day).toNat - (k + 1)) (day + ((k + 1 : Nat) : Int)) (n - bz cal day (k + 1)) := by
                    rw [hst, hbs, show day + ((k + 1 : Nat) : Int) = day + (k : Int) + 1 by omega]
                    congr 1; show (n - bz cal day k) - 1 = _; omega
                  show ∃ i, _ ∧ _ ∧ Imp _ _ _ _ _
                  refine ⟨k + 1, ⟨by omega, by omega, hst⟩, by omega, imp_forget rfl ⟨rfl, rfl, rfl, rfl, rfl, rfl, rfl, rfl, (by first | rfl | exact ci (by omega) | exact ci (by simp) | exact cd (by simp) | simp), (by first | rfl | exact ci (by omega) | exact ci (by simp) | exact cd (by simp) | simp), trivial⟩ ⟨(by first | rfl | simp), trivial⟩⟩
                · skip
                  refine rg_put (d := 46) (v := .d (.fl (.bool true))) rfl (oy rfl rfl rfl h21 (op_lookup1 rfl Tryd.underlying66 Tryd.underlying3 rfl ti4 rfl rfl (.ow rfl) rfl (r := (some (.fl (.bool true)))) (mkE_t h24) rfl rfl)) ?_
                  refine rg_put (d := 47) (v := .d (.fl (.bool (!true)))) rfl (oy rfl rfl rfl h21 (op_un rfl rfl (u_not _) rfl)) ?_
                  refine rg_put (d := 48) (v := .d (.fl (.bool (!true)))) rfl (og rfl (op_pick rfl rfl (by rw [h21]; rfl) rfl)) ?_
                  refine rg_done rfl ?_
                  refine a_condF rfl (not_f rfl) ?_
                  refine a_skip ?_
                  have hin := isD_t h20
                  have hh : hol cal (day + (k : Int) + 1) = true := (fr_hol (by omega) hj (by omega)).symm.trans h24
                  have hbz : biz cal (day + (k : Int) + 1) = false := by unfold biz; simp only [h21, hh]; rfl
                  have hbs : bz cal day (k + 1) = bz cal day k + 0 := by rw [bz_succ, hbz]; rfl
                  have hst := hl.trans (lat_go (by omega) (by omega))
                  rw [hbz] at hst
                  have hst : lat cal (795363 - day).toNat day n = lat cal ((795363 - day).toNat - (k + 1)) (day + ((k + 1 : Nat) : Int)) (n - bz cal day (k + 1)) := by
                    rw [hst, hbs, show day + ((k + 1 : Nat) : Int) = day + (k : Int) + 1 by omega]
                    congr 1; show n - bz cal day k = _; omega
                  show ∃ i, _ ∧ _ ∧ Imp _ _ _ _ _
                  refine ⟨k + 1, ⟨by omega, by omega, hst⟩, by omega, imp_forget rfl ⟨rfl, rfl, rfl, rfl, rfl, rfl, rfl, rfl, (by first | rfl | exact ci (by omega) | exact ci (by simp) | exact cd (by simp) | simp), (by first | rfl | exact ci (by omega) | exact ci (by simp) | exact cd (by simp) | simp), trivial⟩ ⟨(by first | rfl | simp), trivial⟩⟩
          · skip
            have h25 := f_dec h16
            refine a_exit ?_
            show A _ _ _ _ _ _ _
            refine a_rseq ?_
            refine rg_put (d := 51) (v := .d (.fl (.int .i64 ((day + (k : Int)))))) rfl (og rfl (op_move rfl rfl rfl)) ?_
            refine rg_put (d := 6) (v := .d (.fl (.int .i64 ((day + (k : Int)))))) rfl (og rfl (op_assign rfl rfl rfl)) ?_
            refine rg_put (d := 7) (v := .d (.fl (.int .i64 0))) rfl (og rfl (op_assign rfl rfl rfl)) ?_
            refine rg_done rfl ?_
            refine a_ret ?_
            show ∃ ds, ResL _ _ _ ds ∧ RV.of ds = _
            refine ⟨[.fl (.int .i64 ((day + (k : Int)))), .fl (.int .i64 0)], (.cons (.tmp rfl (.d _)) (.cons (.tmp rfl (.d _)) .nil)), ?_⟩
            have hu : latS cal day n = ((day + (k : Int)), 0) := by
              unfold latS; simp only [h1, h3, h4, h6, h9, h16]
              show lat cal _ day n = _
              rw [hl, lat_done (by omega)]
            rw [hu]; rfl
    · skip
      have h26 := t_dec h4
      refine rg_put (d := 17) (v := .d (.fl undef)) rfl (on rfl rfl rfl h4) ?_
      refine rg_put (d := 18) (v := .d (.fl undef)) rfl (on rfl rfl rfl h4) ?_
      refine rg_put (d := 19) (v := .d (.fl (.bool true))) rfl (og rfl (op_pick rfl rfl (by rw [h4]; rfl) rfl)) ?_
      refine rg_done rfl ?_
      refine a_condK rfl rfl ?_
      refine a_rseq ?_
      refine rg_put (d := 6) (v := .d (.fl (.int .i64 0))) rfl (og rfl (op_assign rfl rfl rfl)) ?_
      refine rg_put (d := 7) (v := .d (.fl (.int .i64 1))) rfl (og rfl (op_assign rfl rfl rfl)) ?_
      refine rg_done rfl ?_
      refine a_ret ?_
      show ∃ ds, ResL _ _ _ ds ∧ RV.of ds = _
      refine ⟨[.fl (.int .i64 0), .fl (.int .i64 1)], (.cons (.tmp rfl (.d _)) (.cons (.tmp rfl (.d _)) .nil)), ?_⟩
      have hu : latS cal day n = (0, 1) := by
        unfold latS; simp only [h1, h3, h4]; rfl
      rw [hu]; rfl

end Go.Proofs.YtdafmaocbkmmgaaDoor.Wk
