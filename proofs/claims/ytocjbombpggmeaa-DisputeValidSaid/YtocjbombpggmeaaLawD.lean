/- Lists against each other; valid lists stay valid. Conditions: lists of at most two thousand. -/
import Derived.Test.YtocjbombpggmeaaAv24
import Derived.Test.YtocjbombpggmeaaLawC
set_option linter.unusedSimpArgs false
set_option linter.unusedVariables false
namespace Go.Proofs.Ytocjbombpggmeaa.Wk
open Go Go.RowKit Go.Proofs.Ytocjbombpggmeaa.Av
theorem fe_zero {f : Nat → Int} : ∀ n i, fe f i n = 0 ↔ ∀ j, j < n → f (i + j) = 0
  | 0, i => ⟨fun _ j h => by omega, fun _ => rfl⟩
  | n + 1, i => by
    have ih := fe_zero (f := f) n (i + 1)
    unfold fe
    constructor
    · intro h
      split at h
      · rename_i h0
        intro j hj
        cases j with
        | zero => exact h0
        | succ j => have := ih.1 h j (by omega); rwa [show i + 1 + j = i + (j + 1) by omega] at this
      · rename_i h0; exact absurd h h0
    · intro h
      rw [if_pos (by have := h 0 (by omega); simpa using this)]
      exact ih.2 (fun j hj => by have := h (j + 1) (by omega); rwa [show i + (j + 1) = i + 1 + j by omega] at this)
theorem ck0 {l : List Dp} : ck l = 0 ↔ l.length ≤ 1024 ∧ ∀ i, i < l.length → bad l i = 0 := by
  unfold ck
  split
  · rename_i h
    simp at h
    constructor
    · intro h'; cases h'
    · intro h'; omega
  · rename_i h
    simp at h
    rw [fe_zero]
    simp only [Nat.zero_add]
    exact ⟨fun h' => ⟨by omega, h'⟩, fun h' => h'.2⟩
theorem bad0 {l : List Dp} {i : Nat} : bad l i = 0 ↔ isR (ix l i).key = true ∧ dup l i = false ∧ one (ix l i) = 0 := by
  unfold bad
  cases h1 : isR (ix l i).key <;> cases h2 : dup l i <;> simp
theorem one0 {x : Dp} : one x = 0 ↔ isT x.time = true ∧ isC x.cents = true ∧ (1 ≤ x.state ∧ x.state ≤ 4) ∧ x.proofs.length ≤ 16 ∧ ∀ j, j < x.proofs.length → pj x.proofs j = 0 := by
  unfold one
  cases h1 : isT x.time
  · simp
  · cases h2 : isC x.cents
    · simp
    · simp only [Bool.not_true, Bool.false_eq_true, if_false, true_and]
      split
      · rename_i h3
        simp at h3
        constructor
        · intro h; cases h
        · intro h; omega
      · rename_i h3
        simp at h3
        split
        · rename_i h4
          simp at h4
          constructor
          · intro h; cases h
          · intro h; omega
        · rename_i h4
          simp at h4
          rw [fe_zero]
          simp only [Nat.zero_add]
          exact ⟨fun h => ⟨by omega, by omega, h⟩, fun h => h.2.2⟩
theorem pj0 {p : List ByteArray} {j : Nat} : pj p j = 0 ↔ isR (ix p j) = true ∧ am (ix p j) (p.take j) = false := by
  unfold pj
  rw [List.drop_zero, Nat.sub_zero]
  cases h1 : isR (ix p j) <;> cases h2 : am (ix p j) (p.take j) <;> simp
theorem ixs_left {l r : List ByteArray} {i : Nat} (h : i < l.length) : ix (l ++ r) i = ix l i := by
  unfold ix; simp [List.getD, List.getElem?_append_left h]
theorem Ch.one {d : Dd} {x y : Dp} (h : Ch d x y) (hx : one x = 0) : Wk.one y = 0 := by
  obtain ⟨h1, h2, h3, h4, h5⟩ := one0.1 hx
  cases h with
  | proof g1 g2 g3 =>
    refine one0.2 ⟨h1, h2, h3, by simp [addP]; omega, fun j hj => ?_⟩
    show pj (x.proofs ++ [d.id]) j = 0
    rcases Nat.lt_or_ge j x.proofs.length with h | h
    · obtain ⟨k1, k2⟩ := pj0.1 (h5 j h)
      rw [pj0, ixs_left h, List.take_append_of_le_length (by omega)]
      exact ⟨k1, k2⟩
    · have e1 : j = x.proofs.length := by simp [addP] at hj; omega
      subst e1
      rw [pj0, show ix (x.proofs ++ [d.id]) x.proofs.length = d.id from by simp [ix], List.take_left]
      exact ⟨g2, g3⟩
  | state s g1 g2 => exact one0.2 ⟨h1, h2, by show 1 ≤ s ∧ s ≤ 4; omega, h4, h5⟩
theorem Ch.key {d : Dd} {x y : Dp} (h : Ch d x y) : y.key = x.key := by cases h <;> rfl
theorem dup_keys {l m : List Dp} (h : l.map Dp.key = m.map Dp.key) {i : Nat} (hi : i < l.length) : dup m i = dup l i := by
  have hl : l.length = m.length := by have := congrArg List.length h; simpa using this
  have hk : (ix l i).key = (ix m i).key := by
    have := congrArg (fun z => z[i]?) h
    simp only [List.getElem?_map, ix_get hi, ix_get (show i < m.length by omega)] at this
    simpa using this
  have e : ∀ L : List Dp, ∀ k : ByteArray, ((L.take i).any fun x => sEq x.key k) = ((L.map Dp.key).take i).any fun x => sEq x k := fun L k => by
    rw [← List.map_take, List.any_map]; rfl
  unfold dup
  rw [e, e, h, hk]
theorem keys_set {l : List Dp} {j : Nat} {y : Dp} (hj : j < l.length) (hy : y.key = (ix l j).key) : l.map Dp.key = (l.set j y).map Dp.key := by
  rw [List.map_set, hy]
  apply List.ext_getElem?
  intro i
  by_cases h : j = i
  · subst h
    rw [List.getElem?_set_self (by simpa using hj), List.getElem?_map, ix_get hj]; rfl
  · rw [List.getElem?_set_ne h]
theorem Dc.ck {l m : List Dp} {d : Dd} {n e : Int} (h : Dc l d m n e) (hc : ck l = 0) : Wk.ck m = 0 := by
  obtain ⟨h1, h2⟩ := ck0.1 hc
  cases h with
  | no e => exact hc
  | op hk g1 g2 g3 g4 g5 =>
    refine ck0.2 ⟨by simp; omega, fun i hi => ?_⟩
    rcases Nat.lt_or_ge i l.length with h | h
    · obtain ⟨a, b, c⟩ := bad0.1 (h2 i h)
      rw [bad0, ix_left h]
      refine ⟨a, ?_, c⟩
      unfold dup
      rw [List.take_append_of_le_length (by omega), ix_left h]
      exact b
    · have e1 : i = l.length := by simp at hi; omega
      subst e1
      have e2 : ix (l ++ [Dp.mk d.key d.t d.cents 1 []]) l.length = Dp.mk d.key d.t d.cents 1 [] := by simp [ix]
      rw [bad0, e2]
      refine ⟨g1, ?_, one0.2 ⟨g3, g2, by show (1 : Int) ≤ 1 ∧ (1 : Int) ≤ 4; omega, by simp, fun j hj => by simp at hj⟩⟩
      unfold dup
      rw [e2, List.take_left]
      have := idx_any (fun x : Dp => sEq x.key d.key) l
      rw [← this]
      exact decide_eq_false (by have : dfind l d.key < 0 := g4; unfold dfind at this; omega)
  | one j y hk hj hs he hy =>
    have hkeys := keys_set (y := y) hj hy.key
    refine ck0.2 ⟨by simpa using h1, fun i hi => ?_⟩
    rw [List.length_set] at hi
    obtain ⟨a, b, c⟩ := bad0.1 (h2 i hi)
    rw [bad0, dup_keys hkeys hi]
    by_cases hij : j = i
    · subst hij
      rw [ix_set hi, hy.key]
      exact ⟨a, b, hy.one c⟩
    · rw [ix_setne hij]; exact ⟨a, b, c⟩
  | ex hk =>
    rw [exl_all]
    have hx : ∀ x, (exo d.t x).key = x.key ∧ (Wk.one x = 0 → Wk.one (exo d.t x) = 0) := fun x => by
      rcases exo_or d.t x with h | ⟨_, h⟩
      · rw [h]; exact ⟨rfl, id⟩
      · rw [h]; exact ⟨rfl, fun h0 => (Ch.state (d := d) 2 (by omega) (by omega)).one h0⟩
    have hkeys : l.map Dp.key = (l.map (exo d.t)).map Dp.key := by
      rw [List.map_map]; exact List.map_congr_left (fun x _ => (hx x).1.symm)
    refine ck0.2 ⟨by simpa using h1, fun i hi => ?_⟩
    rw [List.length_map] at hi
    obtain ⟨a, b, c⟩ := bad0.1 (h2 i hi)
    rw [bad0, dup_keys hkeys hi, ix_map hi, (hx _).1]
    exact ⟨a, b, (hx _).2 c⟩
noncomputable def eqL (a b : List Dp) : Bool := @decide (a = b) (Classical.propDecidable _)
theorem eqL_f {a b : List Dp} (h : a ≠ b) : eqL a b = false := @decide_eq_false _ (Classical.propDecidable _) h
theorem eqL_t {a b : List Dp} (h : a = b) : eqL a b = true := @decide_eq_true _ (Classical.propDecidable _) h
theorem eqL_ne {a b : List Dp} (h : eqL a b = false) : a ≠ b := fun e => by rw [eqL_t e] at h; cases h
theorem eqL_len {a b : List Dp} (h : a.length ≠ b.length) : eqL a b = false := eqL_f (fun e => h (by rw [e]))
theorem eqL_at {a b : List Dp} {k : Nat} (h : ix a k ≠ ix b k) : eqL a b = false := eqL_f (fun e => h (by rw [e]))
theorem eq_ix {α : Type} [Inhabited α] {a b : List α} (hl : a.length = b.length) (h : ∀ q, q < a.length → ix a q = ix b q) : a = b := by
  apply List.ext_getElem?
  intro i
  rcases Nat.lt_or_ge i a.length with hi | hi
  · rw [ix_get hi, ix_get (by omega), h i hi]
  · rw [List.getElem?_eq_none hi, List.getElem?_eq_none (by omega)]
theorem eqL_yes {a b : List Dp} (hl : a.length = b.length) (h : ∀ q, q < a.length → ix a q = ix b q) : eqL a b = true := eqL_t (eq_ix hl h)
theorem dp_eq {x y : Dp} (h1 : x.key = y.key) (h2 : x.time = y.time) (h3 : x.cents = y.cents) (h4 : x.state = y.state) (h5 : x.proofs = y.proofs) : x = y := by
  cases x; cases y; simp_all

set_option maxHeartbeats 4000000 in
set_option maxRecDepth 100000 in
theorem same14 (a b : List Dp) (ha : a.length ≤ 2000) (hb : b.length ≤ 2000) (hpa : ∀ q, q < a.length → (ix a q).proofs.length ≤ 2000) (hpb : ∀ q, q < b.length → (ix b q).proofs.length ≤ 2000) : Ctr Try.prog 14 [.sl 5 (List.map eDp a), .sl 5 (List.map eDp b)] (.d (.fl (.bool (eqL a b)))) := by
  refine ctr (n := 81) (rs := #[.tmp 4]) (L := [(0, .d (.sl 5 (List.map eDp a))), (1, .d (.sl 5 (List.map eDp b)))]) Try.func14 rfl rfl rfl rfl rfl (fun w0 U0 => ?_)
  refine a_rseq ?_
  refine rg_put (d := 4) (v := .d (.fl (.bool false))) rfl (og rfl (op_assign rfl rfl rfl)) ?_
  refine rg_done rfl ?_
  refine a_seq ?_
  refine a_rseq ?_
  refine rg_put (d := 9) (v := .d (.sl 5 (List.map eDp a))) rfl (og rfl (op_move rfl rfl rfl)) ?_
  refine rg_put (d := 10) (v := .d (.fl (.int .i64 (a.length : Int)))) rfl (og rfl (s_len rfl Try.underlying22 rfl rfl)) ?_
  refine rg_put (d := 11) (v := .d (.sl 5 (List.map eDp b))) rfl (og rfl (op_move rfl rfl rfl)) ?_
  refine rg_put (d := 12) (v := .d (.fl (.int .i64 (b.length : Int)))) rfl (og rfl (s_len rfl Try.underlying22 rfl rfl)) ?_
  refine rg_put (d := 13) (v := .d (.fl (.bool (((a.length : Int) != (b.length : Int)))))) rfl (og rfl (op_bin rfl rfl rfl (b_neq _ _ _ _) rfl)) ?_
  refine rg_done rfl ?_
  refine a_cond rfl (fun h1 => ?_) (fun h1 => ?_)
  · skip
    have h2 := t_bne h1
    refine a_rseq ?_
    refine rg_put (d := 4) (v := .d (.fl (.bool false))) rfl (og rfl (op_assign rfl rfl rfl)) ?_
    refine rg_done rfl ?_
    refine a_ret ?_
    show ∃ ds, ResL _ _ _ ds ∧ RV.of ds = _
    refine ⟨[.fl (.bool false)], (.cons (.tmp rfl (.d _)) .nil), ?_⟩
    exact congrArg (fun b => RV.d (.fl (.bool b))) (eqL_len (by omega)).symm
  · skip
    have h3 := f_bne h1
    refine a_skip ?_
    show A _ _ _ _ _ _ _
    refine a_seq ?_
    refine a_rseq ?_
    refine rg_put (d := 5) (v := .d (.fl (.int .i64 0))) rfl (og rfl (op_assign rfl rfl rfl)) ?_
    refine rg_done rfl ?_
    refine a_block ?_
    refine a_loop (ι := Nat) (fun k => SS [(0, .d (.sl 5 (List.map eDp a))), (1, .d (.sl 5 (List.map eDp b))), (13, .d (.fl (.bool (((a.length : Int) != (b.length : Int)))))), (5, .d (.fl (.int .i64 (k : Int))))] []) (fun k => k ≤ a.length ∧ ∀ q, q < k → ix a q = ix b q) (fun k => a.length - k) 0 (⟨by omega, fun q h => by omega⟩) (imp_forget rfl ⟨rfl, rfl, rfl, (by first | rfl | exact ci (by omega) | exact ci (by simp) | exact cd (by simp) | simp), trivial⟩ trivial) (fun k hok => ?_)
    obtain ⟨hk, hq⟩ := hok
    refine a_seq ?_
    refine a_rseq ?_
    refine rg_put (d := 14) (v := .d (.fl (.int .i64 (k : Int)))) rfl (og rfl (op_move rfl rfl rfl)) ?_
    refine rg_put (d := 15) (v := .d (.sl 5 (List.map eDp a))) rfl (og rfl (op_move rfl rfl rfl)) ?_
    refine rg_put (d := 16) (v := .d (.fl (.int .i64 (a.length : Int)))) rfl (og rfl (s_len rfl Try.underlying22 rfl rfl)) ?_
    refine rg_put (d := 17) (v := .d (.fl (.bool ((decide ((k : Int) < (a.length : Int))))))) rfl (og rfl (op_bin rfl rfl rfl (b_lss _ _ _ _) rfl)) ?_
    refine rg_done rfl ?_
    refine a_cond rfl (fun h4 => ?_) (fun h4 => ?_)
    · skip
      have h5 := t_dec h4
      refine a_skip ?_
      show A _ _ _ _ _ _ _
      refine a_seq ?_
      refine a_block ?_
      refine a_dseq (by kernel_rfl) ?_
      refine dr_put (d := 20) (v := .d (.sl 5 (List.map eDp a))) rfl (og rfl (op_move rfl rfl rfl)) ?_
      refine dr_put (d := 21) (v := .d (.fl (.int .i64 (k : Int)))) rfl (og rfl (op_move rfl rfl rfl)) ?_
      refine dr_put (d := 22) (v := .el ((eDp (ix a k)))) rfl (og rfl (s_index rfl Try.underlying22 ti40 rfl rfl (by omega) (row_at (by omega)) rfl)) ?_
      refine dr_put (d := 23) (v := .d (.ag (eDp (ix a k)))) rfl (og rfl (of_eff (s_load_els rfl Try.underlying40 rfl ti40 rfl rfl rfl) rfl)) ?_
      refine dr_put (d := 24) (v := .d (.sl 5 (List.map eDp b))) rfl (og rfl (op_move rfl rfl rfl)) ?_
      refine dr_put (d := 25) (v := .d (.fl (.int .i64 (k : Int)))) rfl (og rfl (op_move rfl rfl rfl)) ?_
      refine dr_put (d := 26) (v := .el ((eDp (ix b k)))) rfl (og rfl (s_index rfl Try.underlying22 ti40 rfl rfl (by omega) (row_at (by omega)) rfl)) ?_
      refine dr_put (d := 27) (v := .d (.ag (eDp (ix b k)))) rfl (og rfl (of_eff (s_load_els rfl Try.underlying40 rfl ti40 rfl rfl rfl) rfl)) ?_
      refine dr_nam (d := 6) (v := .pt 101 0) (m := 101) (nw := [(101, .bx 40 ([.fl (.string (⟨#[]⟩)), .fl (.int .i64 0), .fl (.int .i64 0), .fl (.int .i64 0), .fl (.slice none 0 0)]))]) rfl (og rfl (of_eff (s_alloc 101 rfl ti40 (by kernel_rfl) rfl) rfl)) ?_
      refine dr_nam (d := 7) (v := .pt 102 0) (m := 102) (nw := [(102, .bx 40 ([.fl (.string (⟨#[]⟩)), .fl (.int .i64 0), .fl (.int .i64 0), .fl (.int .i64 0), .fl (.slice none 0 0)]))]) rfl (og rfl (of_eff (s_alloc 102 rfl ti40 (by kernel_rfl) rfl) rfl)) ?_
      refine dr_sto (nw := [(101, .bx 40 ((eDp (ix a k))))]) rfl (og rfl (of_eff (s_store rfl rfl ti40 rfl rfl rfl rfl rfl rfl) rfl)) ?_
      refine dr_sto (nw := [(102, .bx 40 ((eDp (ix b k))))]) rfl (og rfl (of_eff (s_store rfl rfl ti40 rfl rfl rfl rfl rfl rfl) rfl)) ?_
      refine dr_done rfl (by kernel_rfl) (by kernel_rfl) ?_
      refine a_seq ?_
      refine a_rseq ?_
      refine rg_put (d := 28) (v := .pt 101 0) rfl (og rfl (of_eff (s_field_pt rfl Try.underlying40 rfl ti9 rfl rfl rfl) rfl)) ?_
      refine rg_put (d := 29) (v := .d (.fl (.string ((ix a k).key)))) rfl (og rfl (op_load_pt rfl Try.underlying9 rfl rfl rfl rfl rfl)) ?_
      refine rg_put (d := 30) (v := .pt 102 0) rfl (og rfl (of_eff (s_field_pt rfl Try.underlying40 rfl ti9 rfl rfl rfl) rfl)) ?_
      refine rg_put (d := 31) (v := .d (.fl (.string ((ix b k).key)))) rfl (og rfl (op_load_pt rfl Try.underlying9 rfl rfl rfl rfl rfl)) ?_
      refine rg_put (d := 32) (v := .d (.fl (.bool ((!(sEq ((ix a k).key) ((ix b k).key))))))) rfl (og rfl (op_bin rfl rfl rfl (b_sne _ _ _) rfl)) ?_
      refine rg_put (d := 33) (v := .d (.fl (.bool ((!(sEq ((ix a k).key) ((ix b k).key))))))) rfl (og rfl (op_move rfl rfl rfl)) ?_
      rcases fot ((!(sEq ((ix a k).key) ((ix b k).key)))) with h6 | h6
      · skip
        have h7 := f_not h6
        refine rg_put (d := 34) (v := .pt 101 1) rfl (oy rfl rfl rfl h6 (of_eff (s_field_pt rfl Try.underlying40 rfl ti3 rfl rfl rfl) rfl)) ?_
        refine rg_put (d := 35) (v := .d (.fl (.int .i64 ((ix a k).time)))) rfl (oy rfl rfl rfl h6 (op_load_pt rfl Try.underlying3 rfl rfl rfl rfl rfl)) ?_
        refine rg_put (d := 36) (v := .pt 102 1) rfl (oy rfl rfl rfl h6 (of_eff (s_field_pt rfl Try.underlying40 rfl ti3 rfl rfl rfl) rfl)) ?_
        refine rg_put (d := 37) (v := .d (.fl (.int .i64 ((ix b k).time)))) rfl (oy rfl rfl rfl h6 (op_load_pt rfl Try.underlying3 rfl rfl rfl rfl rfl)) ?_
        refine rg_put (d := 38) (v := .d (.fl (.bool (((ix a k).time != (ix b k).time))))) rfl (oy rfl rfl rfl h6 (op_bin rfl rfl rfl (b_neq _ _ _ _) rfl)) ?_
        refine rg_put (d := 39) (v := .d (.fl (.bool (((ix a k).time != (ix b k).time))))) rfl (og rfl (op_pick rfl rfl (by rw [h6]; rfl) rfl)) ?_
        refine rg_put (d := 40) (v := .d (.fl (.bool (((ix a k).time != (ix b k).time))))) rfl (og rfl (op_move rfl rfl rfl)) ?_
        rcases fot (((ix a k).time != (ix b k).time)) with h8 | h8
        · skip
          have h9 := f_bne h8
          refine rg_put (d := 41) (v := .pt 101 2) rfl (oy rfl rfl rfl h8 (of_eff (s_field_pt rfl Try.underlying40 rfl ti3 rfl rfl rfl) rfl)) ?_
          refine rg_put (d := 42) (v := .d (.fl (.int .i64 ((ix a k).cents)))) rfl (oy rfl rfl rfl h8 (op_load_pt rfl Try.underlying3 rfl rfl rfl rfl rfl)) ?_
          refine rg_put (d := 43) (v := .pt 102 2) rfl (oy rfl rfl rfl h8 (of_eff (s_field_pt rfl Try.underlying40 rfl ti3 rfl rfl rfl) rfl)) ?_
          refine rg_put (d := 44) (v := .d (.fl (.int .i64 ((ix b k).cents)))) rfl (oy rfl rfl rfl h8 (op_load_pt rfl Try.underlying3 rfl rfl rfl rfl rfl)) ?_
          refine rg_put (d := 45) (v := .d (.fl (.bool (((ix a k).cents != (ix b k).cents))))) rfl (oy rfl rfl rfl h8 (op_bin rfl rfl rfl (b_neq _ _ _ _) rfl)) ?_
          refine rg_put (d := 46) (v := .d (.fl (.bool (((ix a k).cents != (ix b k).cents))))) rfl (og rfl (op_pick rfl rfl (by rw [h8]; rfl) rfl)) ?_
          refine rg_put (d := 47) (v := .d (.fl (.bool (((ix a k).cents != (ix b k).cents))))) rfl (og rfl (op_move rfl rfl rfl)) ?_
          rcases fot (((ix a k).cents != (ix b k).cents)) with h10 | h10
          · skip
            have h11 := f_bne h10
            refine rg_put (d := 48) (v := .pt 101 3) rfl (oy rfl rfl rfl h10 (of_eff (s_field_pt rfl Try.underlying40 rfl ti3 rfl rfl rfl) rfl)) ?_
            refine rg_put (d := 49) (v := .d (.fl (.int .i64 ((ix a k).state)))) rfl (oy rfl rfl rfl h10 (op_load_pt rfl Try.underlying3 rfl rfl rfl rfl rfl)) ?_
            refine rg_put (d := 50) (v := .pt 102 3) rfl (oy rfl rfl rfl h10 (of_eff (s_field_pt rfl Try.underlying40 rfl ti3 rfl rfl rfl) rfl)) ?_
            refine rg_put (d := 51) (v := .d (.fl (.int .i64 ((ix b k).state)))) rfl (oy rfl rfl rfl h10 (op_load_pt rfl Try.underlying3 rfl rfl rfl rfl rfl)) ?_
            refine rg_put (d := 52) (v := .d (.fl (.bool (((ix a k).state != (ix b k).state))))) rfl (oy rfl rfl rfl h10 (op_bin rfl rfl rfl (b_neq _ _ _ _) rfl)) ?_
            refine rg_put (d := 53) (v := .d (.fl (.bool (((ix a k).state != (ix b k).state))))) rfl (og rfl (op_pick rfl rfl (by rw [h10]; rfl) rfl)) ?_
            refine rg_put (d := 54) (v := .d (.fl (.bool (((ix a k).state != (ix b k).state))))) rfl (og rfl (op_move rfl rfl rfl)) ?_
            rcases fot (((ix a k).state != (ix b k).state)) with h12 | h12
            · skip
              have h13 := f_bne h12
              refine rg_put (d := 55) (v := .pt 101 4) rfl (oy rfl rfl rfl h12 (of_eff (s_field_pt rfl Try.underlying40 rfl ti38 rfl rfl rfl) rfl)) ?_
              refine rg_put (d := 56) (v := .d (.sl 1 (List.map rS ((ix a k).proofs)))) rfl (oy rfl rfl rfl h12 (op_load_pt rfl Try.underlying38 rfl rfl rfl rfl rfl)) ?_
              refine rg_put (d := 57) (v := .d (.fl (.int .i64 ((((ix a k).proofs).length : Int))))) rfl (oy rfl rfl rfl h12 (s_len rfl Try.underlying38 rfl rfl)) ?_
              refine rg_put (d := 58) (v := .pt 102 4) rfl (oy rfl rfl rfl h12 (of_eff (s_field_pt rfl Try.underlying40 rfl ti38 rfl rfl rfl) rfl)) ?_
              refine rg_put (d := 59) (v := .d (.sl 1 (List.map rS ((ix b k).proofs)))) rfl (oy rfl rfl rfl h12 (op_load_pt rfl Try.underlying38 rfl rfl rfl rfl rfl)) ?_
              refine rg_put (d := 60) (v := .d (.fl (.int .i64 ((((ix b k).proofs).length : Int))))) rfl (oy rfl rfl rfl h12 (s_len rfl Try.underlying38 rfl rfl)) ?_
              refine rg_put (d := 61) (v := .d (.fl (.bool (((((ix a k).proofs).length : Int) != (((ix b k).proofs).length : Int)))))) rfl (oy rfl rfl rfl h12 (op_bin rfl rfl rfl (b_neq _ _ _ _) rfl)) ?_
              refine rg_put (d := 62) (v := .d (.fl (.bool (((((ix a k).proofs).length : Int) != (((ix b k).proofs).length : Int)))))) rfl (og rfl (op_pick rfl rfl (by rw [h12]; rfl) rfl)) ?_
              refine rg_done rfl ?_
              refine a_cond rfl (fun h14 => ?_) (fun h14 => ?_)
              · skip
                have h15 := t_bne h14
                refine a_rseq ?_
                refine rg_put (d := 4) (v := .d (.fl (.bool false))) rfl (og rfl (op_assign rfl rfl rfl)) ?_
                refine rg_done rfl ?_
                refine a_ret ?_
                show ∃ ds, ResL _ _ _ ds ∧ RV.of ds = _
                refine ⟨[.fl (.bool false)], (.cons (.tmp rfl (.d _)) .nil), ?_⟩
                have hne : ix a k ≠ ix b k := fun e => by
                  rw [e] at h14; simp at h14
                exact congrArg (fun b => RV.d (.fl (.bool b))) (eqL_at hne).symm
              · skip
                have h16 := f_bne h14
                refine a_skip ?_
                show A _ _ _ _ _ _ _
                refine a_rseq ?_
                have hak := hpa k (by omega)
                have hbk := hpb k (by omega)
                refine rg_put (d := 8) (v := .d (.fl (.int .i64 0))) rfl (og rfl (op_assign rfl rfl rfl)) ?_
                refine rg_done rfl ?_
                refine a_block ?_
                refine a_loop (ι := Nat) (fun j => SS [(0, .d (.sl 5 (List.map eDp a))), (1, .d (.sl 5 (List.map eDp b))), (5, .d (.fl (.int .i64 (k : Int)))), (6, .pt 101 0), (7, .pt 102 0), (13, .d (.fl (.bool (((a.length : Int) != (b.length : Int)))))), (17, .d (.fl (.bool ((decide ((k : Int) < (a.length : Int))))))), (62, .d (.fl (.bool (((((ix a k).proofs).length : Int) != (((ix b k).proofs).length : Int)))))), (8, .d (.fl (.int .i64 (j : Int))))] [(101, .bx 40 ((eDp (ix a k)))), (102, .bx 40 ((eDp (ix b k))))]) (fun j => j ≤ (ix a k).proofs.length ∧ ∀ q, q < j → ix (ix a k).proofs q = ix (ix b k).proofs q) (fun j => (ix a k).proofs.length - j) 0 (⟨by omega, fun q h => by omega⟩) (imp_forget rfl ⟨rfl, rfl, rfl, rfl, rfl, rfl, rfl, rfl, (by first | rfl | exact ci (by omega) | exact ci (by simp) | exact cd (by simp) | simp), trivial⟩ ⟨rfl, rfl, trivial⟩) (fun j hok => ?_)
                obtain ⟨hj, hqj⟩ := hok
                refine a_seq ?_
                refine a_rseq ?_
                refine rg_put (d := 63) (v := .d (.fl (.int .i64 (j : Int)))) rfl (og rfl (op_move rfl rfl rfl)) ?_
                refine rg_put (d := 64) (v := .pt 101 4) rfl (og rfl (of_eff (s_field_pt rfl Try.underlying40 rfl ti38 rfl rfl rfl) rfl)) ?_
                refine rg_put (d := 65) (v := .d (.sl 1 (List.map rS ((ix a k).proofs)))) rfl (og rfl (op_load_pt rfl Try.underlying38 rfl rfl rfl rfl rfl)) ?_
                refine rg_put (d := 66) (v := .d (.fl (.int .i64 ((((ix a k).proofs).length : Int))))) rfl (og rfl (s_len rfl Try.underlying38 rfl rfl)) ?_
                refine rg_put (d := 67) (v := .d (.fl (.bool ((decide ((j : Int) < (((ix a k).proofs).length : Int))))))) rfl (og rfl (op_bin rfl rfl rfl (b_lss _ _ _ _) rfl)) ?_
                refine rg_done rfl ?_
                refine a_cond rfl (fun h17 => ?_) (fun h17 => ?_)
                · skip
                  have h18 := t_dec h17
                  refine a_skip ?_
                  show A _ _ _ _ _ _ _
                  refine a_seq ?_
                  refine a_block ?_
                  refine a_dseq (by kernel_rfl) ?_
                  refine dr_put (d := 70) (v := .pt 101 4) rfl (og rfl (of_eff (s_field_pt rfl Try.underlying40 rfl ti38 rfl rfl rfl) rfl)) ?_
                  refine dr_put (d := 71) (v := .d (.sl 1 (List.map rS ((ix a k).proofs)))) rfl (og rfl (op_load_pt rfl Try.underlying38 rfl rfl rfl rfl rfl)) ?_
                  refine dr_put (d := 72) (v := .d (.fl (.int .i64 (j : Int)))) rfl (og rfl (op_move rfl rfl rfl)) ?_
                  refine dr_put (d := 73) (v := .el ((rS ((ix ((ix a k).proofs) j))))) rfl (og rfl (s_index rfl Try.underlying38 ti9 rfl rfl (by omega) (row_at (by omega)) rfl)) ?_
                  refine dr_put (d := 74) (v := .d (.fl (.string ((ix ((ix a k).proofs) j))))) rfl (og rfl (op_load_el rfl Try.underlying9 rfl rfl rfl rfl)) ?_
                  refine dr_put (d := 75) (v := .pt 102 4) rfl (og rfl (of_eff (s_field_pt rfl Try.underlying40 rfl ti38 rfl rfl rfl) rfl)) ?_
                  refine dr_put (d := 76) (v := .d (.sl 1 (List.map rS ((ix b k).proofs)))) rfl (og rfl (op_load_pt rfl Try.underlying38 rfl rfl rfl rfl rfl)) ?_
                  refine dr_put (d := 77) (v := .d (.fl (.int .i64 (j : Int)))) rfl (og rfl (op_move rfl rfl rfl)) ?_
                  refine dr_put (d := 78) (v := .el ((rS ((ix ((ix b k).proofs) j))))) rfl (og rfl (s_index rfl Try.underlying38 ti9 rfl rfl (by omega) (row_at (by omega)) rfl)) ?_
                  refine dr_put (d := 79) (v := .d (.fl (.string ((ix ((ix b k).proofs) j))))) rfl (og rfl (op_load_el rfl Try.underlying9 rfl rfl rfl rfl)) ?_
                  refine dr_put (d := 80) (v := .d (.fl (.bool ((!(sEq ((ix ((ix a k).proofs) j)) ((ix ((ix b k).proofs) j)))))))) rfl (og rfl (op_bin rfl rfl rfl (b_sne _ _ _) rfl)) ?_
                  refine dr_done rfl (by kernel_rfl) (by kernel_rfl) ?_
                  refine a_cond rfl (fun h19 => ?_) (fun h19 => ?_)
                  · skip
                    have h20 := t_not h19
                    refine a_rseq ?_
                    refine rg_put (d := 4) (v := .d (.fl (.bool false))) rfl (og rfl (op_assign rfl rfl rfl)) ?_
                    refine rg_done rfl ?_
                    refine a_ret ?_
                    show ∃ ds, ResL _ _ _ ds ∧ RV.of ds = _
                    refine ⟨[.fl (.bool false)], (.cons (.tmp rfl (.d _)) .nil), ?_⟩
                    have hne : ix a k ≠ ix b k := fun e => by
                      rw [e] at h19; simp [sEq] at h19
                    exact congrArg (fun b => RV.d (.fl (.bool b))) (eqL_at hne).symm
                  · skip
                    have h21 := f_not h19
                    refine a_skip ?_
                    show A _ _ _ _ _ _ _
                    refine a_region ?_
                    refine rg_put (d := 68) (v := .d (.fl (.int .i64 (j : Int)))) rfl (og rfl (op_move rfl rfl rfl)) ?_
                    refine rg_put (d := 69) (v := .d (.fl (.int .i64 (((j : Int) + 1))))) rfl (og rfl (op_bin rfl rfl rfl (fun x y w => b_add64 _ _ _ x y w (by omega)) rfl)) ?_
                    refine rg_put (d := 8) (v := .d (.fl (.int .i64 (((j : Int) + 1))))) rfl (og rfl (op_assign rfl rfl rfl)) ?_
                    refine rg_done rfl ?_
                    have hje := sEq_eq h21
                    show ∃ i, _ ∧ _ ∧ Imp _ _ _ _ _
                    refine ⟨j + 1, ⟨by omega, fun q h => by
                      rcases Nat.lt_succ_iff_lt_or_eq.1 h with h | h
                      · exact hqj q h
                      · subst h; exact hje⟩, by omega, imp_forget rfl ⟨rfl, rfl, rfl, rfl, rfl, rfl, rfl, rfl, (by first | rfl | exact ci (by omega) | exact ci (by simp) | exact cd (by simp) | simp), trivial⟩ ⟨rfl, rfl, trivial⟩⟩
                · skip
                  have h22 := f_dec h17
                  refine a_exit ?_
                  show A _ _ _ _ _ _ _
                  refine a_region ?_
                  refine rg_put (d := 18) (v := .d (.fl (.int .i64 (k : Int)))) rfl (og rfl (op_move rfl rfl rfl)) ?_
                  refine rg_put (d := 19) (v := .d (.fl (.int .i64 (((k : Int) + 1))))) rfl (og rfl (op_bin rfl rfl rfl (fun x y w => b_add64 _ _ _ x y w (by omega)) rfl)) ?_
                  refine rg_put (d := 5) (v := .d (.fl (.int .i64 (((k : Int) + 1))))) rfl (og rfl (op_assign rfl rfl rfl)) ?_
                  refine rg_done rfl ?_
                  have heq : ix a k = ix b k := dp_eq (sEq_eq h7) (by omega) (by omega) (by omega) (eq_ix (by omega) (fun q h => hqj q (by omega)))
                  show ∃ i, _ ∧ _ ∧ Imp _ _ _ _ _
                  refine ⟨k + 1, ⟨by omega, fun q h => by
                    rcases Nat.lt_succ_iff_lt_or_eq.1 h with h | h
                    · exact hq q h
                    · subst h; exact heq⟩, by omega, imp_forget rfl ⟨rfl, rfl, rfl, (by first | rfl | exact ci (by omega) | exact ci (by simp) | exact cd (by simp) | simp), trivial⟩ trivial⟩
            · skip
              have h23 := t_bne h12
              refine rg_put (d := 55) (v := .d (.fl undef)) rfl (on rfl rfl rfl h12) ?_
              refine rg_put (d := 56) (v := .d (.fl undef)) rfl (on rfl rfl rfl h12) ?_
              refine rg_put (d := 57) (v := .d (.fl undef)) rfl (on rfl rfl rfl h12) ?_
              refine rg_put (d := 58) (v := .d (.fl undef)) rfl (on rfl rfl rfl h12) ?_
              refine rg_put (d := 59) (v := .d (.fl undef)) rfl (on rfl rfl rfl h12) ?_
              refine rg_put (d := 60) (v := .d (.fl undef)) rfl (on rfl rfl rfl h12) ?_
              refine rg_put (d := 61) (v := .d (.fl undef)) rfl (on rfl rfl rfl h12) ?_
              refine rg_put (d := 62) (v := .d (.fl (.bool true))) rfl (og rfl (op_pick rfl rfl (by rw [h12]; rfl) rfl)) ?_
              refine rg_done rfl ?_
              refine a_condK rfl rfl ?_
              refine a_rseq ?_
              refine rg_put (d := 4) (v := .d (.fl (.bool false))) rfl (og rfl (op_assign rfl rfl rfl)) ?_
              refine rg_done rfl ?_
              refine a_ret ?_
              show ∃ ds, ResL _ _ _ ds ∧ RV.of ds = _
              refine ⟨[.fl (.bool false)], (.cons (.tmp rfl (.d _)) .nil), ?_⟩
              have hne : ix a k ≠ ix b k := fun e => by
                rw [e] at h12; simp at h12
              exact congrArg (fun b => RV.d (.fl (.bool b))) (eqL_at hne).symm
          · skip
            have h24 := t_bne h10
            refine rg_put (d := 48) (v := .d (.fl undef)) rfl (on rfl rfl rfl h10) ?_
            refine rg_put (d := 49) (v := .d (.fl undef)) rfl (on rfl rfl rfl h10) ?_
            refine rg_put (d := 50) (v := .d (.fl undef)) rfl (on rfl rfl rfl h10) ?_
            refine rg_put (d := 51) (v := .d (.fl undef)) rfl (on rfl rfl rfl h10) ?_
            refine rg_put (d := 52) (v := .d (.fl undef)) rfl (on rfl rfl rfl h10) ?_
            refine rg_put (d := 53) (v := .d (.fl (.bool true))) rfl (og rfl (op_pick rfl rfl (by rw [h10]; rfl) rfl)) ?_
            refine rg_put (d := 54) (v := .d (.fl (.bool true))) rfl (og rfl (op_move rfl rfl rfl)) ?_
            refine rg_put (d := 55) (v := .d (.fl undef)) rfl (on rfl rfl rfl rfl) ?_
            refine rg_put (d := 56) (v := .d (.fl undef)) rfl (on rfl rfl rfl rfl) ?_
            refine rg_put (d := 57) (v := .d (.fl undef)) rfl (on rfl rfl rfl rfl) ?_
            refine rg_put (d := 58) (v := .d (.fl undef)) rfl (on rfl rfl rfl rfl) ?_
            refine rg_put (d := 59) (v := .d (.fl undef)) rfl (on rfl rfl rfl rfl) ?_
            refine rg_put (d := 60) (v := .d (.fl undef)) rfl (on rfl rfl rfl rfl) ?_
            refine rg_put (d := 61) (v := .d (.fl undef)) rfl (on rfl rfl rfl rfl) ?_
            refine rg_put (d := 62) (v := .d (.fl (.bool true))) rfl (og rfl (op_pick rfl rfl rfl rfl)) ?_
            refine rg_done rfl ?_
            refine a_condK rfl rfl ?_
            refine a_rseq ?_
            refine rg_put (d := 4) (v := .d (.fl (.bool false))) rfl (og rfl (op_assign rfl rfl rfl)) ?_
            refine rg_done rfl ?_
            refine a_ret ?_
            show ∃ ds, ResL _ _ _ ds ∧ RV.of ds = _
            refine ⟨[.fl (.bool false)], (.cons (.tmp rfl (.d _)) .nil), ?_⟩
            have hne : ix a k ≠ ix b k := fun e => by
              rw [e] at h10; simp at h10
            exact congrArg (fun b => RV.d (.fl (.bool b))) (eqL_at hne).symm
        · skip
          have h25 := t_bne h8
          refine rg_put (d := 41) (v := .d (.fl undef)) rfl (on rfl rfl rfl h8) ?_
          refine rg_put (d := 42) (v := .d (.fl undef)) rfl (on rfl rfl rfl h8) ?_
          refine rg_put (d := 43) (v := .d (.fl undef)) rfl (on rfl rfl rfl h8) ?_
          refine rg_put (d := 44) (v := .d (.fl undef)) rfl (on rfl rfl rfl h8) ?_
          refine rg_put (d := 45) (v := .d (.fl undef)) rfl (on rfl rfl rfl h8) ?_
          refine rg_put (d := 46) (v := .d (.fl (.bool true))) rfl (og rfl (op_pick rfl rfl (by rw [h8]; rfl) rfl)) ?_
          refine rg_put (d := 47) (v := .d (.fl (.bool true))) rfl (og rfl (op_move rfl rfl rfl)) ?_
          refine rg_put (d := 48) (v := .d (.fl undef)) rfl (on rfl rfl rfl rfl) ?_
          refine rg_put (d := 49) (v := .d (.fl undef)) rfl (on rfl rfl rfl rfl) ?_
          refine rg_put (d := 50) (v := .d (.fl undef)) rfl (on rfl rfl rfl rfl) ?_
          refine rg_put (d := 51) (v := .d (.fl undef)) rfl (on rfl rfl rfl rfl) ?_
          refine rg_put (d := 52) (v := .d (.fl undef)) rfl (on rfl rfl rfl rfl) ?_
          refine rg_put (d := 53) (v := .d (.fl (.bool true))) rfl (og rfl (op_pick rfl rfl rfl rfl)) ?_
          refine rg_put (d := 54) (v := .d (.fl (.bool true))) rfl (og rfl (op_move rfl rfl rfl)) ?_
          refine rg_put (d := 55) (v := .d (.fl undef)) rfl (on rfl rfl rfl rfl) ?_
          refine rg_put (d := 56) (v := .d (.fl undef)) rfl (on rfl rfl rfl rfl) ?_
          refine rg_put (d := 57) (v := .d (.fl undef)) rfl (on rfl rfl rfl rfl) ?_
          refine rg_put (d := 58) (v := .d (.fl undef)) rfl (on rfl rfl rfl rfl) ?_
          refine rg_put (d := 59) (v := .d (.fl undef)) rfl (on rfl rfl rfl rfl) ?_
          refine rg_put (d := 60) (v := .d (.fl undef)) rfl (on rfl rfl rfl rfl) ?_
          refine rg_put (d := 61) (v := .d (.fl undef)) rfl (on rfl rfl rfl rfl) ?_
          refine rg_put (d := 62) (v := .d (.fl (.bool true))) rfl (og rfl (op_pick rfl rfl rfl rfl)) ?_
          refine rg_done rfl ?_
          refine a_condK rfl rfl ?_
          refine a_rseq ?_
          refine rg_put (d := 4) (v := .d (.fl (.bool false))) rfl (og rfl (op_assign rfl rfl rfl)) ?_
          refine rg_done rfl ?_
          refine a_ret ?_
          show ∃ ds, ResL _ _ _ ds ∧ RV.of ds = _
          refine ⟨[.fl (.bool false)], (.cons (.tmp rfl (.d _)) .nil), ?_⟩
          have hne : ix a k ≠ ix b k := fun e => by
            rw [e] at h8; simp at h8
          exact congrArg (fun b => RV.d (.fl (.bool b))) (eqL_at hne).symm
      · skip
        have h26 := t_not h6
        refine rg_put (d := 34) (v := .d (.fl undef)) rfl (on rfl rfl rfl h6) ?_
        refine rg_put (d := 35) (v := .d (.fl undef)) rfl (on rfl rfl rfl h6) ?_
        refine rg_put (d := 36) (v := .d (.fl undef)) rfl (on rfl rfl rfl h6) ?_
        refine rg_put (d := 37) (v := .d (.fl undef)) rfl (on rfl rfl rfl h6) ?_
        refine rg_put (d := 38) (v := .d (.fl undef)) rfl (on rfl rfl rfl h6) ?_
        refine rg_put (d := 39) (v := .d (.fl (.bool true))) rfl (og rfl (op_pick rfl rfl (by rw [h6]; rfl) rfl)) ?_
        refine rg_put (d := 40) (v := .d (.fl (.bool true))) rfl (og rfl (op_move rfl rfl rfl)) ?_
        refine rg_put (d := 41) (v := .d (.fl undef)) rfl (on rfl rfl rfl rfl) ?_
        refine rg_put (d := 42) (v := .d (.fl undef)) rfl (on rfl rfl rfl rfl) ?_
        refine rg_put (d := 43) (v := .d (.fl undef)) rfl (on rfl rfl rfl rfl) ?_
        refine rg_put (d := 44) (v := .d (.fl undef)) rfl (on rfl rfl rfl rfl) ?_
        refine rg_put (d := 45) (v := .d (.fl undef)) rfl (on rfl rfl rfl rfl) ?_
        refine rg_put (d := 46) (v := .d (.fl (.bool true))) rfl (og rfl (op_pick rfl rfl rfl rfl)) ?_
        refine rg_put (d := 47) (v := .d (.fl (.bool true))) rfl (og rfl (op_move rfl rfl rfl)) ?_
        refine rg_put (d := 48) (v := .d (.fl undef)) rfl (on rfl rfl rfl rfl) ?_
        refine rg_put (d := 49) (v := .d (.fl undef)) rfl (on rfl rfl rfl rfl) ?_
        refine rg_put (d := 50) (v := .d (.fl undef)) rfl (on rfl rfl rfl rfl) ?_
        refine rg_put (d := 51) (v := .d (.fl undef)) rfl (on rfl rfl rfl rfl) ?_
        refine rg_put (d := 52) (v := .d (.fl undef)) rfl (on rfl rfl rfl rfl) ?_
        refine rg_put (d := 53) (v := .d (.fl (.bool true))) rfl (og rfl (op_pick rfl rfl rfl rfl)) ?_
        refine rg_put (d := 54) (v := .d (.fl (.bool true))) rfl (og rfl (op_move rfl rfl rfl)) ?_
        refine rg_put (d := 55) (v := .d (.fl undef)) rfl (on rfl rfl rfl rfl) ?_
        refine rg_put (d := 56) (v := .d (.fl undef)) rfl (on rfl rfl rfl rfl) ?_
        refine rg_put (d := 57) (v := .d (.fl undef)) rfl (on rfl rfl rfl rfl) ?_
        refine rg_put (d := 58) (v := .d (.fl undef)) rfl (on rfl rfl rfl rfl) ?_
        refine rg_put (d := 59) (v := .d (.fl undef)) rfl (on rfl rfl rfl rfl) ?_
        refine rg_put (d := 60) (v := .d (.fl undef)) rfl (on rfl rfl rfl rfl) ?_
        refine rg_put (d := 61) (v := .d (.fl undef)) rfl (on rfl rfl rfl rfl) ?_
        refine rg_put (d := 62) (v := .d (.fl (.bool true))) rfl (og rfl (op_pick rfl rfl rfl rfl)) ?_
        refine rg_done rfl ?_
        refine a_condK rfl rfl ?_
        refine a_rseq ?_
        refine rg_put (d := 4) (v := .d (.fl (.bool false))) rfl (og rfl (op_assign rfl rfl rfl)) ?_
        refine rg_done rfl ?_
        refine a_ret ?_
        show ∃ ds, ResL _ _ _ ds ∧ RV.of ds = _
        refine ⟨[.fl (.bool false)], (.cons (.tmp rfl (.d _)) .nil), ?_⟩
        have hne : ix a k ≠ ix b k := fun e => by
          rw [e] at h6; simp [sEq] at h6
        exact congrArg (fun b => RV.d (.fl (.bool b))) (eqL_at hne).symm
    · skip
      have h27 := f_dec h4
      refine a_exit ?_
      show A _ _ _ _ _ _ _
      refine a_rseq ?_
      refine rg_put (d := 4) (v := .d (.fl (.bool true))) rfl (og rfl (op_assign rfl rfl rfl)) ?_
      refine rg_done rfl ?_
      refine a_ret ?_
      show ∃ ds, ResL _ _ _ ds ∧ RV.of ds = _
      refine ⟨[.fl (.bool true)], (.cons (.tmp rfl (.d _)) .nil), ?_⟩
      exact congrArg (fun b => RV.d (.fl (.bool b))) (eqL_yes (by omega) (fun q h => hq q (by omega))).symm
theorem sEq_of {a b : ByteArray} (h : a = b) : sEq a b = true := decide_eq_true h
theorem same_one {l m : List Dp} {k : Nat} (hl : l.length ≤ 1100) (hm : m.length ≤ 1101) (h1 : ∀ q, q < l.length → (ix l q).proofs.length ≤ 2000) (h2 : ∀ q, q < m.length → (ix m q).proofs.length ≤ 2000) (hk : k < l.length) (hk2 : k < m.length) : Ctr Try.prog 14 [.sl 5 (List.map eDp ((l.drop k).take (((k : Int) + 1).toNat - k))), .sl 5 (List.map eDp ((m.drop k).take (((k : Int) + 1).toNat - k)))] (.d (.fl (.bool (eqL [ix l k] [ix m k])))) := by
  rw [take_oneI hk, take_oneI hk2]
  exact same14 _ _ (by simp) (by simp) (one_self hk h1).2 (one_self hk2 h2).2
set_option maxHeartbeats 4000000 in
set_option maxRecDepth 100000 in
theorem law7 (l : List Dp) (d : Dd) : Ctr Try.prog 7 [.sl 5 (List.map eDp l), .ag (eDd d)] (.d (.fl (.bool true))) := by
  refine ctr (n := 135) (rs := #[.tmp 4]) (L := [(0, .d (.sl 5 (List.map eDp l))), (1, .d (.ag (eDd d)))]) Try.func7 rfl rfl rfl rfl rfl (fun w0 U0 => ?_)
  refine a_rseq ?_
  refine rg_nam (d := 3) (v := .pt 101 0) (m := 101) (nw := [(101, .bx 29 (eDd d))]) rfl (og rfl (of_eff (op_box 101 rfl rfl rfl rfl) rfl)) rfl ?_
  refine rg_put (d := 4) (v := .d (.fl (.bool false))) rfl (og rfl (op_assign rfl rfl rfl)) ?_
  refine rg_done rfl ?_
  refine a_seq ?_
  refine a_rseq ?_
  refine rg_put (d := 9) (v := .d (.sl 5 (List.map eDp l))) rfl (og rfl (op_move rfl rfl rfl)) ?_
  refine rg_put (d := 10) (v := .d (.fl (.bool (gre l)))) rfl (og rfl (op_call rfl Try.func8 nm8 rfl (.cons rfl (.d _) .nil) (great8 l) rfl)) ?_
  refine rg_put (d := 11) (v := .d (.fl (.bool (gre l)))) rfl (og rfl (op_move rfl rfl rfl)) ?_
  rcases fot (gre l) with h1 | h1
  · skip
    refine rg_put (d := 12) (v := .d (.sl 5 (List.map eDp l))) rfl (oy rfl rfl rfl h1 (op_move rfl rfl rfl)) ?_
    refine rg_put (d := 13) (v := .d (.fl (.int .i64 (ck l)))) rfl (oy rfl rfl rfl h1 (op_call rfl Try.func10 nm10 rfl (.cons rfl (.d _) .nil) (d_check l) rfl)) ?_
    refine rg_put (d := 14) (v := .d (.fl (.bool (((ck l) != 0))))) rfl (oy rfl rfl rfl h1 (op_bin rfl rfl rfl (b_neq _ _ _ _) rfl)) ?_
    refine rg_put (d := 15) (v := .d (.fl (.bool (((ck l) != 0))))) rfl (og rfl (op_pick rfl rfl (by rw [h1]; rfl) rfl)) ?_
    refine rg_done rfl ?_
    refine a_cond rfl (fun h2 => ?_) (fun h2 => ?_)
    · skip
      have h3 := t_bne h2
      refine a_rseq ?_
      refine rg_put (d := 16) (v := .d (.fl (.bool true))) rfl (og rfl (op_call rfl Try.func9 nm9 rfl .nil awake_true rfl)) ?_
      refine rg_put (d := 4) (v := .d (.fl (.bool true))) rfl (og rfl (op_assign rfl rfl rfl)) ?_
      refine rg_done rfl ?_
      refine a_ret ?_
      show ∃ ds, ResL _ _ _ ds ∧ RV.of ds = _
      refine ⟨[.fl (.bool true)], (.cons (.tmp rfl (.d _)) .nil), ?_⟩
      rfl
    · skip
      have h4 := f_bne h2
      refine a_skip ?_
      show A _ _ _ _ _ _ _
      refine a_rseq ?_
      obtain ⟨hl, hg⟩ := gre_f h1
      have hb : ∀ q, q < l.length → (ix l q).proofs.length ≤ 2000 := fun q h => by have := hg q h; omega
      have hc := fun q h => (hg q h).2.1
      have hw := fun q h => (hg q h).2.2
      have hbd := doe_bound d hl (fun q h => (hg q h).1)
      have hdc := doe_cases l d
      have hln := hdc.len
      have hck : ((ck (doe l d).1.1) != 0) = false := by rw [hdc.ck (f_bne h2)]; rfl
      refine rg_put (d := 18) (v := .d (.sl 5 (List.map eDp l))) rfl (og rfl (op_move rfl rfl rfl)) ?_
      refine rg_put (d := 19) (v := .d (.ag (eDd d))) rfl (og rfl (of_eff (s_load_pts rfl Try.underlying29 rfl ti29 rfl rfl rfl rfl) rfl)) ?_
      refine rg_put (d := 20) (v := .tu [.sl 5 (List.map eDp ((doe l d).1.1)), .fl (.int .i64 ((doe l d).1.2)), .fl (.int .i64 ((doe l d).2))]) rfl (og rfl (op_call rfl Try.func12 nm12 rfl (.cons rfl (.d _) (.cons rfl (.d _) .nil)) (does12 l d  hl hb hc hw) rfl)) ?_
      refine rg_put (d := 17) (v := .tu [.sl 5 (List.map eDp ((doe l d).1.1)), .fl (.int .i64 ((doe l d).1.2)), .fl (.int .i64 ((doe l d).2))]) rfl (og rfl (op_move rfl rfl rfl)) ?_
      refine rg_put (d := 21) (v := .d (.sl 5 (List.map eDp ((doe l d).1.1)))) rfl (og rfl (op_extract rfl rfl rfl rfl)) ?_
      refine rg_put (d := 22) (v := .d (.fl (.int .i64 ((doe l d).1.2)))) rfl (og rfl (op_extract rfl rfl rfl rfl)) ?_
      refine rg_put (d := 23) (v := .d (.fl (.int .i64 ((doe l d).2)))) rfl (og rfl (op_extract rfl rfl rfl rfl)) ?_
      refine rg_put (d := 5) (v := .d (.sl 5 (List.map eDp ((doe l d).1.1)))) rfl (og rfl (op_assign rfl rfl rfl)) ?_
      refine rg_put (d := 6) (v := .d (.fl (.int .i64 ((doe l d).1.2)))) rfl (og rfl (op_assign rfl rfl rfl)) ?_
      refine rg_put (d := 7) (v := .d (.fl (.int .i64 ((doe l d).2)))) rfl (og rfl (op_assign rfl rfl rfl)) ?_
      refine rg_done rfl ?_
      refine a_seq ?_
      refine a_rseq ?_
      refine rg_put (d := 24) (v := .d (.sl 5 (List.map eDp ((doe l d).1.1)))) rfl (og rfl (op_move rfl rfl rfl)) ?_
      refine rg_put (d := 25) (v := .d (.fl (.int .i64 ((ck ((doe l d).1.1)))))) rfl (og rfl (op_call rfl Try.func10 nm10 rfl (.cons rfl (.d _) .nil) (d_check ((doe l d).1.1)) rfl)) ?_
      refine rg_put (d := 26) (v := .d (.fl (.bool (((ck ((doe l d).1.1)) != 0))))) rfl (og rfl (op_bin rfl rfl rfl (b_neq _ _ _ _) rfl)) ?_
      refine rg_put (d := 27) (v := .d (.fl (.bool (((ck ((doe l d).1.1)) != 0))))) rfl (og rfl (op_move rfl rfl rfl)) ?_
      refine rg_put (d := 28) (v := .d (.sl 5 (List.map eDp ((doe l d).1.1)))) rfl (oy rfl rfl rfl hck (op_move rfl rfl rfl)) ?_
      refine rg_put (d := 29) (v := .d (.fl (.int .i64 ((((doe l d).1.1).length : Int))))) rfl (oy rfl rfl rfl hck (s_len rfl Try.underlying22 rfl rfl)) ?_
      refine rg_put (d := 30) (v := .d (.sl 5 (List.map eDp l))) rfl (oy rfl rfl rfl hck (op_move rfl rfl rfl)) ?_
      refine rg_put (d := 31) (v := .d (.fl (.int .i64 (l.length : Int)))) rfl (oy rfl rfl rfl hck (s_len rfl Try.underlying22 rfl rfl)) ?_
      refine rg_put (d := 32) (v := .d (.fl (.bool ((decide ((((doe l d).1.1).length : Int) < (l.length : Int))))))) rfl (oy rfl rfl rfl hck (op_bin rfl rfl rfl (b_lss _ _ _ _) rfl)) ?_
      refine rg_put (d := 33) (v := .d (.fl (.bool ((decide ((((doe l d).1.1).length : Int) < (l.length : Int))))))) rfl (og rfl (op_pick rfl rfl (by rw [hck]; rfl) rfl)) ?_
      refine rg_put (d := 34) (v := .d (.fl (.bool ((decide ((((doe l d).1.1).length : Int) < (l.length : Int))))))) rfl (og rfl (op_move rfl rfl rfl)) ?_
      rcases fot ((decide ((((doe l d).1.1).length : Int) < (l.length : Int)))) with h5 | h5
      · skip
        have h6 := f_dec h5
        refine rg_put (d := 35) (v := .d (.sl 5 (List.map eDp ((doe l d).1.1)))) rfl (oy rfl rfl rfl h5 (op_move rfl rfl rfl)) ?_
        refine rg_put (d := 36) (v := .d (.fl (.int .i64 ((((doe l d).1.1).length : Int))))) rfl (oy rfl rfl rfl h5 (s_len rfl Try.underlying22 rfl rfl)) ?_
        refine rg_put (d := 37) (v := .d (.sl 5 (List.map eDp l))) rfl (oy rfl rfl rfl h5 (op_move rfl rfl rfl)) ?_
        refine rg_put (d := 38) (v := .d (.fl (.int .i64 (l.length : Int)))) rfl (oy rfl rfl rfl h5 (s_len rfl Try.underlying22 rfl rfl)) ?_
        refine rg_put (d := 39) (v := .d (.fl (.int .i64 (((l.length : Int) + 1))))) rfl (oy rfl rfl rfl h5 (op_bin rfl rfl rfl (fun x y w => b_add64 _ _ _ x y w (by omega)) rfl)) ?_
        refine rg_put (d := 40) (v := .d (.fl (.bool ((decide (((l.length : Int) + 1) < (((doe l d).1.1).length : Int))))))) rfl (oy rfl rfl rfl h5 (op_bin rfl rfl rfl (b_gtr _ _ _ _) rfl)) ?_
        refine rg_put (d := 41) (v := .d (.fl (.bool ((decide (((l.length : Int) + 1) < (((doe l d).1.1).length : Int))))))) rfl (og rfl (op_pick rfl rfl (by rw [h5]; rfl) rfl)) ?_
        refine rg_put (d := 42) (v := .d (.fl (.bool ((decide (((l.length : Int) + 1) < (((doe l d).1.1).length : Int))))))) rfl (og rfl (op_move rfl rfl rfl)) ?_
        rcases fot ((decide (((l.length : Int) + 1) < (((doe l d).1.1).length : Int)))) with h7 | h7
        · skip
          have h8 := f_dec h7
          refine rg_put (d := 43) (v := .d (.fl (.int .i64 ((doe l d).2)))) rfl (oy rfl rfl rfl h7 (op_move rfl rfl rfl)) ?_
          refine rg_put (d := 44) (v := .d (.fl (.bool (((doe l d).2 != 0))))) rfl (oy rfl rfl rfl h7 (op_bin rfl rfl rfl (b_neq _ _ _ _) rfl)) ?_
          refine rg_put (d := 45) (v := .d (.fl (.bool (((doe l d).2 != 0))))) rfl (oy rfl rfl rfl h7 (op_move rfl rfl rfl)) ?_
          rcases fot (((doe l d).2 != 0)) with h9 | h9
          · skip
            have h10 := f_bne h9
            refine rg_put (d := 46) (v := .d (.fl undef)) rfl (on rfl rfl rfl h9) ?_
            refine rg_put (d := 47) (v := .d (.fl undef)) rfl (on rfl rfl rfl h9) ?_
            refine rg_put (d := 48) (v := .d (.fl undef)) rfl (on rfl rfl rfl h9) ?_
            refine rg_put (d := 49) (v := .d (.fl undef)) rfl (on rfl rfl rfl h9) ?_
            refine rg_put (d := 50) (v := .d (.fl (.bool false))) rfl (oy rfl rfl rfl h7 (op_pick rfl rfl (by rw [h9]; rfl) rfl)) ?_
            refine rg_put (d := 51) (v := .d (.fl (.bool false))) rfl (og rfl (op_pick rfl rfl (by rw [h7]; rfl) rfl)) ?_
            refine rg_done rfl ?_
            refine a_condF rfl rfl ?_
            refine a_skip ?_
            show A _ _ _ _ _ _ _
            refine a_seq ?_
            refine a_rseq ?_
            refine rg_put (d := 52) (v := .d (.sl 5 (List.map eDp l))) rfl (og rfl (op_move rfl rfl rfl)) ?_
            refine rg_put (d := 53) (v := .d (.fl (.int .i64 (l.length : Int)))) rfl (og rfl (s_len rfl Try.underlying22 rfl rfl)) ?_
            refine rg_put (d := 54) (v := .d (.fl (.int .i64 0))) rfl (og rfl (op_move rfl rfl rfl)) ?_
            refine rg_done rfl ?_
            refine a_block ?_
            refine a_loop (ι := Nat) (fun k => SS [(0, .d (.sl 5 (List.map eDp l))), (1, .d (.ag (eDd d))), (3, .pt 101 0), (5, .d (.sl 5 (List.map eDp ((doe l d).1.1)))), (7, .d (.fl (.int .i64 ((doe l d).2)))), (15, .d (.fl (.bool (((ck l) != 0))))), (51, .d (.fl (.bool false))), (53, .d (.fl (.int .i64 (l.length : Int)))), (54, .d (.fl (.int .i64 (k : Int))))] [(101, .bx 29 (eDd d))]) (fun k => k ≤ l.length) (fun k => l.length - k) 0 (by omega) (imp_forget rfl ⟨rfl, rfl, rfl, rfl, rfl, rfl, rfl, rfl, (by first | rfl | exact ci (by omega) | exact ci (by simp) | exact cd (by simp) | simp), trivial⟩ ⟨rfl, trivial⟩) (fun k hok => ?_)
            have hk := hok
            refine a_rseq ?_
            refine rg_put (d := 55) (v := .d (.fl (.bool ((decide ((k : Int) < (l.length : Int))))))) rfl (og rfl (op_bin rfl rfl rfl (b_lss _ _ _ _) rfl)) ?_
            refine rg_done rfl ?_
            refine a_seq ?_
            refine a_cond rfl (fun h11 => ?_) (fun h11 => ?_)
            · skip
              have h12 := t_dec h11
              refine a_skip ?_
              show A _ _ _ _ _ _ _
              refine a_seq ?_
              refine a_block ?_
              refine a_rseq ?_
              refine rg_put (d := 56) (v := .d (.fl (.int .i64 (k : Int)))) rfl (og rfl (op_move rfl rfl rfl)) ?_
              refine rg_put (d := 8) (v := .d (.fl (.int .i64 (k : Int)))) rfl (og rfl (op_assign rfl rfl rfl)) ?_
              refine rg_done rfl ?_
              refine a_seq ?_
              refine a_dseq (by kernel_rfl) ?_
              refine dr_put (d := 57) (v := .d (.sl 5 (List.map eDp l))) rfl (og rfl (op_move rfl rfl rfl)) ?_
              refine dr_put (d := 58) (v := .d (.fl (.int .i64 (k : Int)))) rfl (og rfl (op_move rfl rfl rfl)) ?_
              refine dr_put (d := 59) (v := .d (.fl (.int .i64 (k : Int)))) rfl (og rfl (op_move rfl rfl rfl)) ?_
              refine dr_put (d := 60) (v := .d (.fl (.int .i64 (((k : Int) + 1))))) rfl (og rfl (op_bin rfl rfl rfl (fun x y w => b_add64 _ _ _ x y w (by omega)) rfl)) ?_
              refine dr_put (d := 61) (v := .d (.sl 5 (List.map eDp (((l.drop k).take ((((k : Int) + 1)).toNat - k)))))) rfl (og rfl (s_slice rfl Try.underlying22 ti40 rfl (.so (n := k) _ rfl (by omega)) (.so (n := (((k : Int) + 1)).toNat) _ rfl (by omega)) (by omega) (by omega) rfl)) ?_
              refine dr_put (d := 62) (v := .d (.sl 5 (List.map eDp ((doe l d).1.1)))) rfl (og rfl (op_move rfl rfl rfl)) ?_
              refine dr_put (d := 63) (v := .d (.fl (.int .i64 (k : Int)))) rfl (og rfl (op_move rfl rfl rfl)) ?_
              refine dr_put (d := 64) (v := .d (.fl (.int .i64 (k : Int)))) rfl (og rfl (op_move rfl rfl rfl)) ?_
              refine dr_put (d := 65) (v := .d (.fl (.int .i64 (((k : Int) + 1))))) rfl (og rfl (op_bin rfl rfl rfl (fun x y w => b_add64 _ _ _ x y w (by omega)) rfl)) ?_
              refine dr_put (d := 66) (v := .d (.sl 5 (List.map eDp (((((doe l d).1.1).drop k).take ((((k : Int) + 1)).toNat - k)))))) rfl (og rfl (s_slice rfl Try.underlying22 ti40 rfl (.so (n := k) _ rfl (by omega)) (.so (n := (((k : Int) + 1)).toNat) _ rfl (by omega)) (by omega) (by omega) rfl)) ?_
              refine dr_put (d := 67) (v := .d (.fl (.bool ((eqL [ix l k] [ix (doe l d).1.1 k]))))) rfl (og rfl (op_call rfl Try.func14 nm14 rfl (.cons rfl (.d _) (.cons rfl (.d _) .nil)) (same_one (l := l) (m := (doe l d).1.1) hl hbd.1 hb (fun q h => by have := hbd.2 q h; omega) (by omega) (by omega)) rfl)) ?_
              refine dr_done rfl (by kernel_rfl) (by kernel_rfl) ?_
              refine a_cond rfl (fun h13 => ?_) (fun h13 => ?_)
              · skip
                refine a_exit ?_
                show A _ _ _ _ _ _ _
                refine a_region ?_
                refine rg_put (d := 133) (v := .d (.fl (.int .i64 (((k : Int) + 1))))) rfl (og rfl (op_bin rfl rfl rfl (fun x y w => b_add64 _ _ _ x y w (by omega)) rfl)) ?_
                refine rg_put (d := 54) (v := .d (.fl (.int .i64 (((k : Int) + 1))))) rfl (og rfl (op_move rfl rfl rfl)) ?_
                refine rg_done rfl ?_
                show ∃ i, _ ∧ _ ∧ Imp _ _ _ _ _
                refine ⟨k + 1, (by omega), by omega, imp_forget rfl ⟨rfl, rfl, rfl, rfl, rfl, rfl, rfl, rfl, (by first | rfl | exact ci (by omega) | exact ci (by simp) | exact cd (by simp) | simp), trivial⟩ ⟨rfl, trivial⟩⟩
              · skip
                have hat : (ix l k).state = 1 ∧ (ix (doe l d).1.1 k).key = (ix l k).key ∧ (ix (doe l d).1.1 k).time = (ix l k).time ∧ (ix (doe l d).1.1 k).cents = (ix l k).cents ∧ ((0 ≤ d.kind ∧ d.kind ≤ 3) → (ix l k).key = d.key) := by
                  rcases hdc.at (i := k) (by omega) with h | h
                  · exact absurd (by rw [h]) (eqL_ne h13)
                  · exact h
                obtain ⟨x1, x2, x3, x4, x5⟩ := hat
                have x2 := sEq_of x2
                have y1 : ((ix l k).state != 1) = false := by rw [x1]; rfl
                have y3 : ((ix (doe l d).1.1 k).time != (ix l k).time) = false := by rw [x3]; simp
                have y4 : ((ix (doe l d).1.1 k).cents != (ix l k).cents) = false := by rw [x4]; simp
                refine a_skip ?_
                show A _ _ _ _ _ _ _
                refine a_dseq (by kernel_rfl) ?_
                refine dr_put (d := 68) (v := .d (.sl 5 (List.map eDp l))) rfl (og rfl (op_move rfl rfl rfl)) ?_
                refine dr_put (d := 69) (v := .d (.fl (.int .i64 (k : Int)))) rfl (og rfl (op_move rfl rfl rfl)) ?_
                refine dr_put (d := 70) (v := .el ((eDp (ix l k)))) rfl (og rfl (s_index rfl Try.underlying22 ti40 rfl rfl (by omega) (row_at (by omega)) rfl)) ?_
                refine dr_put (d := 71) (v := .el ((List.drop 3 ((eDp (ix l k)))))) rfl (og rfl (of_eff (s_field_el rfl Try.underlying40 rfl ti3 rfl rfl rfl) rfl)) ?_
                refine dr_put (d := 72) (v := .d (.fl (.int .i64 ((ix l k).state)))) rfl (og rfl (op_load_el rfl Try.underlying3 rfl rfl rfl rfl)) ?_
                refine dr_put (d := 73) (v := .d (.fl (.bool (((ix l k).state != 1))))) rfl (og rfl (op_bin rfl rfl rfl (b_neq _ _ _ _) rfl)) ?_
                refine dr_put (d := 74) (v := .d (.fl (.bool (((ix l k).state != 1))))) rfl (og rfl (op_move rfl rfl rfl)) ?_
                refine dr_put (d := 75) (v := .d (.sl 5 (List.map eDp ((doe l d).1.1)))) rfl (oy rfl rfl rfl y1 (op_move rfl rfl rfl)) ?_
                refine dr_put (d := 76) (v := .d (.fl (.int .i64 (k : Int)))) rfl (oy rfl rfl rfl y1 (op_move rfl rfl rfl)) ?_
                refine dr_put (d := 77) (v := .el ((eDp ((ix ((doe l d).1.1) k))))) rfl (oy rfl rfl rfl y1 (s_index rfl Try.underlying22 ti40 rfl rfl (by omega) (row_at (by omega)) rfl)) ?_
                refine dr_put (d := 78) (v := .el ((List.drop 0 ((eDp ((ix ((doe l d).1.1) k))))))) rfl (oy rfl rfl rfl y1 (of_eff (s_field_el rfl Try.underlying40 rfl ti9 rfl rfl rfl) rfl)) ?_
                refine dr_put (d := 79) (v := .d (.fl (.string (((ix ((doe l d).1.1) k)).key)))) rfl (oy rfl rfl rfl y1 (op_load_el rfl Try.underlying9 rfl rfl rfl rfl)) ?_
                refine dr_put (d := 80) (v := .d (.sl 5 (List.map eDp l))) rfl (oy rfl rfl rfl y1 (op_move rfl rfl rfl)) ?_
                refine dr_put (d := 81) (v := .d (.fl (.int .i64 (k : Int)))) rfl (oy rfl rfl rfl y1 (op_move rfl rfl rfl)) ?_
                refine dr_put (d := 82) (v := .el ((eDp (ix l k)))) rfl (oy rfl rfl rfl y1 (s_index rfl Try.underlying22 ti40 rfl rfl (by omega) (row_at (by omega)) rfl)) ?_
                refine dr_put (d := 83) (v := .el ((List.drop 0 ((eDp (ix l k)))))) rfl (oy rfl rfl rfl y1 (of_eff (s_field_el rfl Try.underlying40 rfl ti9 rfl rfl rfl) rfl)) ?_
                refine dr_put (d := 84) (v := .d (.fl (.string ((ix l k).key)))) rfl (oy rfl rfl rfl y1 (op_load_el rfl Try.underlying9 rfl rfl rfl rfl)) ?_
                refine dr_put (d := 85) (v := .d (.fl (.bool ((!(sEq (((ix ((doe l d).1.1) k)).key) ((ix l k).key))))))) rfl (oy rfl rfl rfl y1 (op_bin rfl rfl rfl (b_sne _ _ _) rfl)) ?_
                refine dr_put (d := 86) (v := .d (.fl (.bool ((!(sEq (((ix ((doe l d).1.1) k)).key) ((ix l k).key))))))) rfl (og rfl (op_pick rfl rfl (by rw [y1]; rfl) rfl)) ?_
                refine dr_put (d := 87) (v := .d (.fl (.bool ((!(sEq (((ix ((doe l d).1.1) k)).key) ((ix l k).key))))))) rfl (og rfl (op_move rfl rfl rfl)) ?_
                refine dr_put (d := 88) (v := .d (.sl 5 (List.map eDp ((doe l d).1.1)))) rfl (oy rfl rfl rfl (not_f x2) (op_move rfl rfl rfl)) ?_
                refine dr_put (d := 89) (v := .d (.fl (.int .i64 (k : Int)))) rfl (oy rfl rfl rfl (not_f x2) (op_move rfl rfl rfl)) ?_
                refine dr_put (d := 90) (v := .el ((eDp ((ix ((doe l d).1.1) k))))) rfl (oy rfl rfl rfl (not_f x2) (s_index rfl Try.underlying22 ti40 rfl rfl (by omega) (row_at (by omega)) rfl)) ?_
                refine dr_put (d := 91) (v := .el ((List.drop 1 ((eDp ((ix ((doe l d).1.1) k))))))) rfl (oy rfl rfl rfl (not_f x2) (of_eff (s_field_el rfl Try.underlying40 rfl ti3 rfl rfl rfl) rfl)) ?_
                refine dr_put (d := 92) (v := .d (.fl (.int .i64 (((ix ((doe l d).1.1) k)).time)))) rfl (oy rfl rfl rfl (not_f x2) (op_load_el rfl Try.underlying3 rfl rfl rfl rfl)) ?_
                refine dr_put (d := 93) (v := .d (.sl 5 (List.map eDp l))) rfl (oy rfl rfl rfl (not_f x2) (op_move rfl rfl rfl)) ?_
                refine dr_put (d := 94) (v := .d (.fl (.int .i64 (k : Int)))) rfl (oy rfl rfl rfl (not_f x2) (op_move rfl rfl rfl)) ?_
                refine dr_put (d := 95) (v := .el ((eDp (ix l k)))) rfl (oy rfl rfl rfl (not_f x2) (s_index rfl Try.underlying22 ti40 rfl rfl (by omega) (row_at (by omega)) rfl)) ?_
                refine dr_put (d := 96) (v := .el ((List.drop 1 ((eDp (ix l k)))))) rfl (oy rfl rfl rfl (not_f x2) (of_eff (s_field_el rfl Try.underlying40 rfl ti3 rfl rfl rfl) rfl)) ?_
                refine dr_put (d := 97) (v := .d (.fl (.int .i64 ((ix l k).time)))) rfl (oy rfl rfl rfl (not_f x2) (op_load_el rfl Try.underlying3 rfl rfl rfl rfl)) ?_
                refine dr_put (d := 98) (v := .d (.fl (.bool ((((ix ((doe l d).1.1) k)).time != (ix l k).time))))) rfl (oy rfl rfl rfl (not_f x2) (op_bin rfl rfl rfl (b_neq _ _ _ _) rfl)) ?_
                refine dr_put (d := 99) (v := .d (.fl (.bool ((((ix ((doe l d).1.1) k)).time != (ix l k).time))))) rfl (og rfl (op_pick rfl rfl (by rw [(not_f x2)]; rfl) rfl)) ?_
                refine dr_put (d := 100) (v := .d (.fl (.bool ((((ix ((doe l d).1.1) k)).time != (ix l k).time))))) rfl (og rfl (op_move rfl rfl rfl)) ?_
                refine dr_put (d := 101) (v := .d (.sl 5 (List.map eDp ((doe l d).1.1)))) rfl (oy rfl rfl rfl y3 (op_move rfl rfl rfl)) ?_
                refine dr_put (d := 102) (v := .d (.fl (.int .i64 (k : Int)))) rfl (oy rfl rfl rfl y3 (op_move rfl rfl rfl)) ?_
                refine dr_put (d := 103) (v := .el ((eDp ((ix ((doe l d).1.1) k))))) rfl (oy rfl rfl rfl y3 (s_index rfl Try.underlying22 ti40 rfl rfl (by omega) (row_at (by omega)) rfl)) ?_
                refine dr_put (d := 104) (v := .el ((List.drop 2 ((eDp ((ix ((doe l d).1.1) k))))))) rfl (oy rfl rfl rfl y3 (of_eff (s_field_el rfl Try.underlying40 rfl ti3 rfl rfl rfl) rfl)) ?_
                refine dr_put (d := 105) (v := .d (.fl (.int .i64 (((ix ((doe l d).1.1) k)).cents)))) rfl (oy rfl rfl rfl y3 (op_load_el rfl Try.underlying3 rfl rfl rfl rfl)) ?_
                refine dr_put (d := 106) (v := .d (.sl 5 (List.map eDp l))) rfl (oy rfl rfl rfl y3 (op_move rfl rfl rfl)) ?_
                refine dr_put (d := 107) (v := .d (.fl (.int .i64 (k : Int)))) rfl (oy rfl rfl rfl y3 (op_move rfl rfl rfl)) ?_
                refine dr_put (d := 108) (v := .el ((eDp (ix l k)))) rfl (oy rfl rfl rfl y3 (s_index rfl Try.underlying22 ti40 rfl rfl (by omega) (row_at (by omega)) rfl)) ?_
                refine dr_put (d := 109) (v := .el ((List.drop 2 ((eDp (ix l k)))))) rfl (oy rfl rfl rfl y3 (of_eff (s_field_el rfl Try.underlying40 rfl ti3 rfl rfl rfl) rfl)) ?_
                refine dr_put (d := 110) (v := .d (.fl (.int .i64 ((ix l k).cents)))) rfl (oy rfl rfl rfl y3 (op_load_el rfl Try.underlying3 rfl rfl rfl rfl)) ?_
                refine dr_put (d := 111) (v := .d (.fl (.bool ((((ix ((doe l d).1.1) k)).cents != (ix l k).cents))))) rfl (oy rfl rfl rfl y3 (op_bin rfl rfl rfl (b_neq _ _ _ _) rfl)) ?_
                refine dr_put (d := 112) (v := .d (.fl (.bool ((((ix ((doe l d).1.1) k)).cents != (ix l k).cents))))) rfl (og rfl (op_pick rfl rfl (by rw [y3]; rfl) rfl)) ?_
                refine dr_put (d := 113) (v := .d (.fl (.bool ((((ix ((doe l d).1.1) k)).cents != (ix l k).cents))))) rfl (og rfl (op_move rfl rfl rfl)) ?_
                refine dr_put (d := 114) (v := .pt 101 0) rfl (oy rfl rfl rfl y4 (of_eff (s_field_pt rfl Try.underlying29 rfl ti3 rfl rfl rfl) rfl)) ?_
                refine dr_put (d := 115) (v := .d (.fl (.int .i64 d.kind))) rfl (oy rfl rfl rfl y4 (op_load_pt rfl Try.underlying3 rfl rfl rfl rfl rfl)) ?_
                refine dr_put (d := 116) (v := .d (.fl (.bool ((decide (0 ≤ d.kind)))))) rfl (oy rfl rfl rfl y4 (op_bin rfl rfl rfl (b_geq _ _ _ _) rfl)) ?_
                refine dr_put (d := 117) (v := .d (.fl (.bool ((decide (0 ≤ d.kind)))))) rfl (oy rfl rfl rfl y4 (op_move rfl rfl rfl)) ?_
                rcases fot ((decide (0 ≤ d.kind))) with h14 | h14
                · skip
                  have h15 := f_dec h14
                  refine dr_put (d := 118) (v := .d (.fl undef)) rfl (on rfl rfl rfl h14) ?_
                  refine dr_put (d := 119) (v := .d (.fl undef)) rfl (on rfl rfl rfl h14) ?_
                  refine dr_put (d := 120) (v := .d (.fl undef)) rfl (on rfl rfl rfl h14) ?_
                  refine dr_put (d := 121) (v := .d (.fl (.bool false))) rfl (oy rfl rfl rfl y4 (op_pick rfl rfl (by rw [h14]; rfl) rfl)) ?_
                  refine dr_put (d := 122) (v := .d (.fl (.bool false))) rfl (oy rfl rfl rfl y4 (op_move rfl rfl rfl)) ?_
                  refine dr_put (d := 123) (v := .d (.fl undef)) rfl (on rfl rfl rfl rfl) ?_
                  refine dr_put (d := 124) (v := .d (.fl undef)) rfl (on rfl rfl rfl rfl) ?_
                  refine dr_put (d := 125) (v := .d (.fl undef)) rfl (on rfl rfl rfl rfl) ?_
                  refine dr_put (d := 126) (v := .d (.fl undef)) rfl (on rfl rfl rfl rfl) ?_
                  refine dr_put (d := 127) (v := .d (.fl undef)) rfl (on rfl rfl rfl rfl) ?_
                  refine dr_put (d := 128) (v := .d (.fl undef)) rfl (on rfl rfl rfl rfl) ?_
                  refine dr_put (d := 129) (v := .d (.fl undef)) rfl (on rfl rfl rfl rfl) ?_
                  refine dr_put (d := 130) (v := .d (.fl undef)) rfl (on rfl rfl rfl rfl) ?_
                  refine dr_put (d := 131) (v := .d (.fl (.bool false))) rfl (oy rfl rfl rfl y4 (op_pick rfl rfl rfl rfl)) ?_
                  refine dr_put (d := 132) (v := .d (.fl (.bool false))) rfl (og rfl (op_pick rfl rfl (by rw [y4]; rfl) rfl)) ?_
                  refine dr_done rfl (sepB_of [0, 0, 3, 7, 15, 31, 63, 127, 127, 511, 1023, 2047, 127, 127, 12415, 28799, 61567, 131071, 262143, 524287, 1048575, 1048575, 4194303, 8388607, 16777215, 1048575, 1048575, 101711871, 235929599, 504365055, 1073741823, 2147483647, 4294967295, 8589934591, 8589934591, 34359738367, 68719476735, 137438953471, 8589934591, 8589934591, 833223655423, 1932735283199, 4131758538751, 8796093022207, 17592186044415, 35184372088831, 70368744177663, 140737488355327, 281474976710655, 562949953421311, 1125899906842623, 2251799813685247, 4503599627370495, 9007199254740991, 18014398509481983, 36028797018963967, 36028797018963967, 144115188075855871, 288230376151711743, 576460752303423487, 36028797018963967, 1188950301625810943, 4611686018427387903, 9223372036854775807, 18446744073709551615] (by kernel_rfl)) (by kernel_rfl) ?_
                  refine a_condF rfl rfl ?_
                  refine a_skip ?_
                  show A _ _ _ _ _ _ _
                  refine a_region ?_
                  refine rg_put (d := 133) (v := .d (.fl (.int .i64 (((k : Int) + 1))))) rfl (og rfl (op_bin rfl rfl rfl (fun x y w => b_add64 _ _ _ x y w (by omega)) rfl)) ?_
                  refine rg_put (d := 54) (v := .d (.fl (.int .i64 (((k : Int) + 1))))) rfl (og rfl (op_move rfl rfl rfl)) ?_
                  refine rg_done rfl ?_
                  show ∃ i, _ ∧ _ ∧ Imp _ _ _ _ _
                  refine ⟨k + 1, (by omega), by omega, imp_forget rfl ⟨rfl, rfl, rfl, rfl, rfl, rfl, rfl, rfl, (by first | rfl | exact ci (by omega) | exact ci (by simp) | exact cd (by simp) | simp), trivial⟩ ⟨rfl, trivial⟩⟩
                · skip
                  have h16 := t_dec h14
                  refine dr_put (d := 118) (v := .pt 101 0) rfl (oy rfl rfl rfl h14 (of_eff (s_field_pt rfl Try.underlying29 rfl ti3 rfl rfl rfl) rfl)) ?_
                  refine dr_put (d := 119) (v := .d (.fl (.int .i64 d.kind))) rfl (oy rfl rfl rfl h14 (op_load_pt rfl Try.underlying3 rfl rfl rfl rfl rfl)) ?_
                  refine dr_put (d := 120) (v := .d (.fl (.bool ((decide (d.kind ≤ 3)))))) rfl (oy rfl rfl rfl h14 (op_bin rfl rfl rfl (b_leq _ _ _ _) rfl)) ?_
                  refine dr_put (d := 121) (v := .d (.fl (.bool ((decide (d.kind ≤ 3)))))) rfl (oy rfl rfl rfl y4 (op_pick rfl rfl (by rw [h14]; rfl) rfl)) ?_
                  refine dr_put (d := 122) (v := .d (.fl (.bool ((decide (d.kind ≤ 3)))))) rfl (oy rfl rfl rfl y4 (op_move rfl rfl rfl)) ?_
                  rcases fot ((decide (d.kind ≤ 3))) with h17 | h17
                  · skip
                    have h18 := f_dec h17
                    refine dr_put (d := 123) (v := .d (.fl undef)) rfl (on rfl rfl rfl h17) ?_
                    refine dr_put (d := 124) (v := .d (.fl undef)) rfl (on rfl rfl rfl h17) ?_
                    refine dr_put (d := 125) (v := .d (.fl undef)) rfl (on rfl rfl rfl h17) ?_
                    refine dr_put (d := 126) (v := .d (.fl undef)) rfl (on rfl rfl rfl h17) ?_
                    refine dr_put (d := 127) (v := .d (.fl undef)) rfl (on rfl rfl rfl h17) ?_
                    refine dr_put (d := 128) (v := .d (.fl undef)) rfl (on rfl rfl rfl h17) ?_
                    refine dr_put (d := 129) (v := .d (.fl undef)) rfl (on rfl rfl rfl h17) ?_
                    refine dr_put (d := 130) (v := .d (.fl undef)) rfl (on rfl rfl rfl h17) ?_
                    refine dr_put (d := 131) (v := .d (.fl (.bool false))) rfl (oy rfl rfl rfl y4 (op_pick rfl rfl (by rw [h17]; rfl) rfl)) ?_
                    refine dr_put (d := 132) (v := .d (.fl (.bool false))) rfl (og rfl (op_pick rfl rfl (by rw [y4]; rfl) rfl)) ?_
                    refine dr_done rfl (sepB_of [0, 0, 3, 7, 15, 31, 63, 127, 127, 511, 1023, 2047, 127, 127, 12415, 28799, 61567, 131071, 262143, 524287, 1048575, 1048575, 4194303, 8388607, 16777215, 1048575, 1048575, 101711871, 235929599, 504365055, 1073741823, 2147483647, 4294967295, 8589934591, 8589934591, 34359738367, 68719476735, 137438953471, 8589934591, 8589934591, 833223655423, 1932735283199, 4131758538751, 8796093022207, 17592186044415, 35184372088831, 70368744177663, 140737488355327, 281474976710655, 562949953421311, 1125899906842623, 2251799813685247, 4503599627370495, 9007199254740991, 18014398509481983, 36028797018963967, 36028797018963967, 144115188075855871, 288230376151711743, 576460752303423487, 36028797018963967, 1188950301625810943, 4611686018427387903, 9223372036854775807, 18446744073709551615] (by kernel_rfl)) (by kernel_rfl) ?_
                    refine a_condF rfl rfl ?_
                    refine a_skip ?_
                    show A _ _ _ _ _ _ _
                    refine a_region ?_
                    refine rg_put (d := 133) (v := .d (.fl (.int .i64 (((k : Int) + 1))))) rfl (og rfl (op_bin rfl rfl rfl (fun x y w => b_add64 _ _ _ x y w (by omega)) rfl)) ?_
                    refine rg_put (d := 54) (v := .d (.fl (.int .i64 (((k : Int) + 1))))) rfl (og rfl (op_move rfl rfl rfl)) ?_
                    refine rg_done rfl ?_
                    show ∃ i, _ ∧ _ ∧ Imp _ _ _ _ _
                    refine ⟨k + 1, (by omega), by omega, imp_forget rfl ⟨rfl, rfl, rfl, rfl, rfl, rfl, rfl, rfl, (by first | rfl | exact ci (by omega) | exact ci (by simp) | exact cd (by simp) | simp), trivial⟩ ⟨rfl, trivial⟩⟩
                  · skip
                    have x6 := sEq_of (x5 ⟨by omega, t_dec h17⟩)
                    have h19 := t_dec h17
                    refine dr_put (d := 123) (v := .d (.sl 5 (List.map eDp l))) rfl (oy rfl rfl rfl h17 (op_move rfl rfl rfl)) ?_
                    refine dr_put (d := 124) (v := .d (.fl (.int .i64 (k : Int)))) rfl (oy rfl rfl rfl h17 (op_move rfl rfl rfl)) ?_
                    refine dr_put (d := 125) (v := .el ((eDp (ix l k)))) rfl (oy rfl rfl rfl h17 (s_index rfl Try.underlying22 ti40 rfl rfl (by omega) (row_at (by omega)) rfl)) ?_
                    refine dr_put (d := 126) (v := .el ((List.drop 0 ((eDp (ix l k)))))) rfl (oy rfl rfl rfl h17 (of_eff (s_field_el rfl Try.underlying40 rfl ti9 rfl rfl rfl) rfl)) ?_
                    refine dr_put (d := 127) (v := .d (.fl (.string ((ix l k).key)))) rfl (oy rfl rfl rfl h17 (op_load_el rfl Try.underlying9 rfl rfl rfl rfl)) ?_
                    refine dr_put (d := 128) (v := .pt 101 1) rfl (oy rfl rfl rfl h17 (of_eff (s_field_pt rfl Try.underlying29 rfl ti9 rfl rfl rfl) rfl)) ?_
                    refine dr_put (d := 129) (v := .d (.fl (.string d.key))) rfl (oy rfl rfl rfl h17 (op_load_pt rfl Try.underlying9 rfl rfl rfl rfl rfl)) ?_
                    refine dr_put (d := 130) (v := .d (.fl (.bool ((!(sEq ((ix l k).key) d.key)))))) rfl (oy rfl rfl rfl h17 (op_bin rfl rfl rfl (b_sne _ _ _) rfl)) ?_
                    refine dr_put (d := 131) (v := .d (.fl (.bool ((!(sEq ((ix l k).key) d.key)))))) rfl (oy rfl rfl rfl y4 (op_pick rfl rfl (by rw [h17]; rfl) rfl)) ?_
                    refine dr_put (d := 132) (v := .d (.fl (.bool ((!(sEq ((ix l k).key) d.key)))))) rfl (og rfl (op_pick rfl rfl (by rw [y4]; rfl) rfl)) ?_
                    refine dr_done rfl (sepB_of [0, 0, 3, 7, 15, 31, 63, 127, 127, 511, 1023, 2047, 127, 127, 12415, 28799, 61567, 131071, 262143, 524287, 1048575, 1048575, 4194303, 8388607, 16777215, 1048575, 1048575, 101711871, 235929599, 504365055, 1073741823, 2147483647, 4294967295, 8589934591, 8589934591, 34359738367, 68719476735, 137438953471, 8589934591, 8589934591, 833223655423, 1932735283199, 4131758538751, 8796093022207, 17592186044415, 35184372088831, 70368744177663, 140737488355327, 281474976710655, 562949953421311, 1125899906842623, 2251799813685247, 4503599627370495, 9007199254740991, 18014398509481983, 36028797018963967, 36028797018963967, 144115188075855871, 288230376151711743, 576460752303423487, 36028797018963967, 1188950301625810943, 4611686018427387903, 9223372036854775807, 18446744073709551615] (by kernel_rfl)) (by kernel_rfl) ?_
                    refine a_condF rfl (not_f x6) ?_
                    refine a_skip ?_
                    show A _ _ _ _ _ _ _
                    refine a_region ?_
                    refine rg_put (d := 133) (v := .d (.fl (.int .i64 (((k : Int) + 1))))) rfl (og rfl (op_bin rfl rfl rfl (fun x y w => b_add64 _ _ _ x y w (by omega)) rfl)) ?_
                    refine rg_put (d := 54) (v := .d (.fl (.int .i64 (((k : Int) + 1))))) rfl (og rfl (op_move rfl rfl rfl)) ?_
                    refine rg_done rfl ?_
                    show ∃ i, _ ∧ _ ∧ Imp _ _ _ _ _
                    refine ⟨k + 1, (by omega), by omega, imp_forget rfl ⟨rfl, rfl, rfl, rfl, rfl, rfl, rfl, rfl, (by first | rfl | exact ci (by omega) | exact ci (by simp) | exact cd (by simp) | simp), trivial⟩ ⟨rfl, trivial⟩⟩
            · skip
              have h20 := f_dec h11
              refine a_exit ?_
              show A _ _ _ _ _ _ _
              refine a_rseq ?_
              refine rg_put (d := 134) (v := .d (.fl (.bool true))) rfl (og rfl (op_call rfl Try.func9 nm9 rfl .nil awake_true rfl)) ?_
              refine rg_put (d := 4) (v := .d (.fl (.bool true))) rfl (og rfl (op_assign rfl rfl rfl)) ?_
              refine rg_done rfl ?_
              refine a_ret ?_
              show ∃ ds, ResL _ _ _ ds ∧ RV.of ds = _
              refine ⟨[.fl (.bool true)], (.cons (.tmp rfl (.d _)) .nil), ?_⟩
              rfl
          · skip
            have heq := eqL_t (hdc.err (t_bne h9)).1.symm
            have h21 := t_bne h9
            refine rg_put (d := 46) (v := .d (.sl 5 (List.map eDp l))) rfl (oy rfl rfl rfl h9 (op_move rfl rfl rfl)) ?_
            refine rg_put (d := 47) (v := .d (.sl 5 (List.map eDp ((doe l d).1.1)))) rfl (oy rfl rfl rfl h9 (op_move rfl rfl rfl)) ?_
            refine rg_put (d := 48) (v := .d (.fl (.bool ((eqL l (doe l d).1.1))))) rfl (oy rfl rfl rfl h9 (op_call rfl Try.func14 nm14 rfl (.cons rfl (.d _) (.cons rfl (.d _) .nil)) (same14 l (doe l d).1.1 (by omega) (by omega) hb (fun q h => by have := hbd.2 q h; omega)) rfl)) ?_
            refine rg_put (d := 49) (v := .d (.fl (.bool ((!((eqL l (doe l d).1.1))))))) rfl (oy rfl rfl rfl h9 (op_un rfl rfl (u_not _) rfl)) ?_
            refine rg_put (d := 50) (v := .d (.fl (.bool ((!((eqL l (doe l d).1.1))))))) rfl (oy rfl rfl rfl h7 (op_pick rfl rfl (by rw [h9]; rfl) rfl)) ?_
            refine rg_put (d := 51) (v := .d (.fl (.bool ((!((eqL l (doe l d).1.1))))))) rfl (og rfl (op_pick rfl rfl (by rw [h7]; rfl) rfl)) ?_
            refine rg_done rfl ?_
            refine a_condF rfl (not_f heq) ?_
            refine a_skip ?_
            show A _ _ _ _ _ _ _
            refine a_seq ?_
            refine a_rseq ?_
            refine rg_put (d := 52) (v := .d (.sl 5 (List.map eDp l))) rfl (og rfl (op_move rfl rfl rfl)) ?_
            refine rg_put (d := 53) (v := .d (.fl (.int .i64 (l.length : Int)))) rfl (og rfl (s_len rfl Try.underlying22 rfl rfl)) ?_
            refine rg_put (d := 54) (v := .d (.fl (.int .i64 0))) rfl (og rfl (op_move rfl rfl rfl)) ?_
            refine rg_done rfl ?_
            refine a_block ?_
            refine a_loop (ι := Nat) (fun k => SS [(0, .d (.sl 5 (List.map eDp l))), (1, .d (.ag (eDd d))), (3, .pt 101 0), (5, .d (.sl 5 (List.map eDp ((doe l d).1.1)))), (7, .d (.fl (.int .i64 ((doe l d).2)))), (15, .d (.fl (.bool (((ck l) != 0))))), (51, .d (.fl (.bool ((!((eqL l (doe l d).1.1))))))), (53, .d (.fl (.int .i64 (l.length : Int)))), (54, .d (.fl (.int .i64 (k : Int))))] [(101, .bx 29 (eDd d))]) (fun k => k ≤ l.length) (fun k => l.length - k) 0 (by omega) (imp_forget rfl ⟨rfl, rfl, rfl, rfl, rfl, rfl, rfl, rfl, (by first | rfl | exact ci (by omega) | exact ci (by simp) | exact cd (by simp) | simp), trivial⟩ ⟨rfl, trivial⟩) (fun k hok => ?_)
            have hk := hok
            refine a_rseq ?_
            refine rg_put (d := 55) (v := .d (.fl (.bool ((decide ((k : Int) < (l.length : Int))))))) rfl (og rfl (op_bin rfl rfl rfl (b_lss _ _ _ _) rfl)) ?_
            refine rg_done rfl ?_
            refine a_seq ?_
            refine a_cond rfl (fun h22 => ?_) (fun h22 => ?_)
            · skip
              have h23 := t_dec h22
              refine a_skip ?_
              show A _ _ _ _ _ _ _
              refine a_seq ?_
              refine a_block ?_
              refine a_rseq ?_
              refine rg_put (d := 56) (v := .d (.fl (.int .i64 (k : Int)))) rfl (og rfl (op_move rfl rfl rfl)) ?_
              refine rg_put (d := 8) (v := .d (.fl (.int .i64 (k : Int)))) rfl (og rfl (op_assign rfl rfl rfl)) ?_
              refine rg_done rfl ?_
              refine a_seq ?_
              refine a_dseq (by kernel_rfl) ?_
              refine dr_put (d := 57) (v := .d (.sl 5 (List.map eDp l))) rfl (og rfl (op_move rfl rfl rfl)) ?_
              refine dr_put (d := 58) (v := .d (.fl (.int .i64 (k : Int)))) rfl (og rfl (op_move rfl rfl rfl)) ?_
              refine dr_put (d := 59) (v := .d (.fl (.int .i64 (k : Int)))) rfl (og rfl (op_move rfl rfl rfl)) ?_
              refine dr_put (d := 60) (v := .d (.fl (.int .i64 (((k : Int) + 1))))) rfl (og rfl (op_bin rfl rfl rfl (fun x y w => b_add64 _ _ _ x y w (by omega)) rfl)) ?_
              refine dr_put (d := 61) (v := .d (.sl 5 (List.map eDp (((l.drop k).take ((((k : Int) + 1)).toNat - k)))))) rfl (og rfl (s_slice rfl Try.underlying22 ti40 rfl (.so (n := k) _ rfl (by omega)) (.so (n := (((k : Int) + 1)).toNat) _ rfl (by omega)) (by omega) (by omega) rfl)) ?_
              refine dr_put (d := 62) (v := .d (.sl 5 (List.map eDp ((doe l d).1.1)))) rfl (og rfl (op_move rfl rfl rfl)) ?_
              refine dr_put (d := 63) (v := .d (.fl (.int .i64 (k : Int)))) rfl (og rfl (op_move rfl rfl rfl)) ?_
              refine dr_put (d := 64) (v := .d (.fl (.int .i64 (k : Int)))) rfl (og rfl (op_move rfl rfl rfl)) ?_
              refine dr_put (d := 65) (v := .d (.fl (.int .i64 (((k : Int) + 1))))) rfl (og rfl (op_bin rfl rfl rfl (fun x y w => b_add64 _ _ _ x y w (by omega)) rfl)) ?_
              refine dr_put (d := 66) (v := .d (.sl 5 (List.map eDp (((((doe l d).1.1).drop k).take ((((k : Int) + 1)).toNat - k)))))) rfl (og rfl (s_slice rfl Try.underlying22 ti40 rfl (.so (n := k) _ rfl (by omega)) (.so (n := (((k : Int) + 1)).toNat) _ rfl (by omega)) (by omega) (by omega) rfl)) ?_
              refine dr_put (d := 67) (v := .d (.fl (.bool ((eqL [ix l k] [ix (doe l d).1.1 k]))))) rfl (og rfl (op_call rfl Try.func14 nm14 rfl (.cons rfl (.d _) (.cons rfl (.d _) .nil)) (same_one (l := l) (m := (doe l d).1.1) hl hbd.1 hb (fun q h => by have := hbd.2 q h; omega) (by omega) (by omega)) rfl)) ?_
              refine dr_done rfl (by kernel_rfl) (by kernel_rfl) ?_
              refine a_cond rfl (fun h24 => ?_) (fun h24 => ?_)
              · skip
                refine a_exit ?_
                show A _ _ _ _ _ _ _
                refine a_region ?_
                refine rg_put (d := 133) (v := .d (.fl (.int .i64 (((k : Int) + 1))))) rfl (og rfl (op_bin rfl rfl rfl (fun x y w => b_add64 _ _ _ x y w (by omega)) rfl)) ?_
                refine rg_put (d := 54) (v := .d (.fl (.int .i64 (((k : Int) + 1))))) rfl (og rfl (op_move rfl rfl rfl)) ?_
                refine rg_done rfl ?_
                show ∃ i, _ ∧ _ ∧ Imp _ _ _ _ _
                refine ⟨k + 1, (by omega), by omega, imp_forget rfl ⟨rfl, rfl, rfl, rfl, rfl, rfl, rfl, rfl, (by first | rfl | exact ci (by omega) | exact ci (by simp) | exact cd (by simp) | simp), trivial⟩ ⟨rfl, trivial⟩⟩
              · skip
                have hat : (ix l k).state = 1 ∧ (ix (doe l d).1.1 k).key = (ix l k).key ∧ (ix (doe l d).1.1 k).time = (ix l k).time ∧ (ix (doe l d).1.1 k).cents = (ix l k).cents ∧ ((0 ≤ d.kind ∧ d.kind ≤ 3) → (ix l k).key = d.key) := by
                  rcases hdc.at (i := k) (by omega) with h | h
                  · exact absurd (by rw [h]) (eqL_ne h24)
                  · exact h
                obtain ⟨x1, x2, x3, x4, x5⟩ := hat
                have x2 := sEq_of x2
                have y1 : ((ix l k).state != 1) = false := by rw [x1]; rfl
                have y3 : ((ix (doe l d).1.1 k).time != (ix l k).time) = false := by rw [x3]; simp
                have y4 : ((ix (doe l d).1.1 k).cents != (ix l k).cents) = false := by rw [x4]; simp
                refine a_skip ?_
                show A _ _ _ _ _ _ _
                refine a_dseq (by kernel_rfl) ?_
                refine dr_put (d := 68) (v := .d (.sl 5 (List.map eDp l))) rfl (og rfl (op_move rfl rfl rfl)) ?_
                refine dr_put (d := 69) (v := .d (.fl (.int .i64 (k : Int)))) rfl (og rfl (op_move rfl rfl rfl)) ?_
                refine dr_put (d := 70) (v := .el ((eDp (ix l k)))) rfl (og rfl (s_index rfl Try.underlying22 ti40 rfl rfl (by omega) (row_at (by omega)) rfl)) ?_
                refine dr_put (d := 71) (v := .el ((List.drop 3 ((eDp (ix l k)))))) rfl (og rfl (of_eff (s_field_el rfl Try.underlying40 rfl ti3 rfl rfl rfl) rfl)) ?_
                refine dr_put (d := 72) (v := .d (.fl (.int .i64 ((ix l k).state)))) rfl (og rfl (op_load_el rfl Try.underlying3 rfl rfl rfl rfl)) ?_
                refine dr_put (d := 73) (v := .d (.fl (.bool (((ix l k).state != 1))))) rfl (og rfl (op_bin rfl rfl rfl (b_neq _ _ _ _) rfl)) ?_
                refine dr_put (d := 74) (v := .d (.fl (.bool (((ix l k).state != 1))))) rfl (og rfl (op_move rfl rfl rfl)) ?_
                refine dr_put (d := 75) (v := .d (.sl 5 (List.map eDp ((doe l d).1.1)))) rfl (oy rfl rfl rfl y1 (op_move rfl rfl rfl)) ?_
                refine dr_put (d := 76) (v := .d (.fl (.int .i64 (k : Int)))) rfl (oy rfl rfl rfl y1 (op_move rfl rfl rfl)) ?_
                refine dr_put (d := 77) (v := .el ((eDp ((ix ((doe l d).1.1) k))))) rfl (oy rfl rfl rfl y1 (s_index rfl Try.underlying22 ti40 rfl rfl (by omega) (row_at (by omega)) rfl)) ?_
                refine dr_put (d := 78) (v := .el ((List.drop 0 ((eDp ((ix ((doe l d).1.1) k))))))) rfl (oy rfl rfl rfl y1 (of_eff (s_field_el rfl Try.underlying40 rfl ti9 rfl rfl rfl) rfl)) ?_
                refine dr_put (d := 79) (v := .d (.fl (.string (((ix ((doe l d).1.1) k)).key)))) rfl (oy rfl rfl rfl y1 (op_load_el rfl Try.underlying9 rfl rfl rfl rfl)) ?_
                refine dr_put (d := 80) (v := .d (.sl 5 (List.map eDp l))) rfl (oy rfl rfl rfl y1 (op_move rfl rfl rfl)) ?_
                refine dr_put (d := 81) (v := .d (.fl (.int .i64 (k : Int)))) rfl (oy rfl rfl rfl y1 (op_move rfl rfl rfl)) ?_
                refine dr_put (d := 82) (v := .el ((eDp (ix l k)))) rfl (oy rfl rfl rfl y1 (s_index rfl Try.underlying22 ti40 rfl rfl (by omega) (row_at (by omega)) rfl)) ?_
                refine dr_put (d := 83) (v := .el ((List.drop 0 ((eDp (ix l k)))))) rfl (oy rfl rfl rfl y1 (of_eff (s_field_el rfl Try.underlying40 rfl ti9 rfl rfl rfl) rfl)) ?_
                refine dr_put (d := 84) (v := .d (.fl (.string ((ix l k).key)))) rfl (oy rfl rfl rfl y1 (op_load_el rfl Try.underlying9 rfl rfl rfl rfl)) ?_
                refine dr_put (d := 85) (v := .d (.fl (.bool ((!(sEq (((ix ((doe l d).1.1) k)).key) ((ix l k).key))))))) rfl (oy rfl rfl rfl y1 (op_bin rfl rfl rfl (b_sne _ _ _) rfl)) ?_
                refine dr_put (d := 86) (v := .d (.fl (.bool ((!(sEq (((ix ((doe l d).1.1) k)).key) ((ix l k).key))))))) rfl (og rfl (op_pick rfl rfl (by rw [y1]; rfl) rfl)) ?_
                refine dr_put (d := 87) (v := .d (.fl (.bool ((!(sEq (((ix ((doe l d).1.1) k)).key) ((ix l k).key))))))) rfl (og rfl (op_move rfl rfl rfl)) ?_
                refine dr_put (d := 88) (v := .d (.sl 5 (List.map eDp ((doe l d).1.1)))) rfl (oy rfl rfl rfl (not_f x2) (op_move rfl rfl rfl)) ?_
                refine dr_put (d := 89) (v := .d (.fl (.int .i64 (k : Int)))) rfl (oy rfl rfl rfl (not_f x2) (op_move rfl rfl rfl)) ?_
                refine dr_put (d := 90) (v := .el ((eDp ((ix ((doe l d).1.1) k))))) rfl (oy rfl rfl rfl (not_f x2) (s_index rfl Try.underlying22 ti40 rfl rfl (by omega) (row_at (by omega)) rfl)) ?_
                refine dr_put (d := 91) (v := .el ((List.drop 1 ((eDp ((ix ((doe l d).1.1) k))))))) rfl (oy rfl rfl rfl (not_f x2) (of_eff (s_field_el rfl Try.underlying40 rfl ti3 rfl rfl rfl) rfl)) ?_
                refine dr_put (d := 92) (v := .d (.fl (.int .i64 (((ix ((doe l d).1.1) k)).time)))) rfl (oy rfl rfl rfl (not_f x2) (op_load_el rfl Try.underlying3 rfl rfl rfl rfl)) ?_
                refine dr_put (d := 93) (v := .d (.sl 5 (List.map eDp l))) rfl (oy rfl rfl rfl (not_f x2) (op_move rfl rfl rfl)) ?_
                refine dr_put (d := 94) (v := .d (.fl (.int .i64 (k : Int)))) rfl (oy rfl rfl rfl (not_f x2) (op_move rfl rfl rfl)) ?_
                refine dr_put (d := 95) (v := .el ((eDp (ix l k)))) rfl (oy rfl rfl rfl (not_f x2) (s_index rfl Try.underlying22 ti40 rfl rfl (by omega) (row_at (by omega)) rfl)) ?_
                refine dr_put (d := 96) (v := .el ((List.drop 1 ((eDp (ix l k)))))) rfl (oy rfl rfl rfl (not_f x2) (of_eff (s_field_el rfl Try.underlying40 rfl ti3 rfl rfl rfl) rfl)) ?_
                refine dr_put (d := 97) (v := .d (.fl (.int .i64 ((ix l k).time)))) rfl (oy rfl rfl rfl (not_f x2) (op_load_el rfl Try.underlying3 rfl rfl rfl rfl)) ?_
                refine dr_put (d := 98) (v := .d (.fl (.bool ((((ix ((doe l d).1.1) k)).time != (ix l k).time))))) rfl (oy rfl rfl rfl (not_f x2) (op_bin rfl rfl rfl (b_neq _ _ _ _) rfl)) ?_
                refine dr_put (d := 99) (v := .d (.fl (.bool ((((ix ((doe l d).1.1) k)).time != (ix l k).time))))) rfl (og rfl (op_pick rfl rfl (by rw [(not_f x2)]; rfl) rfl)) ?_
                refine dr_put (d := 100) (v := .d (.fl (.bool ((((ix ((doe l d).1.1) k)).time != (ix l k).time))))) rfl (og rfl (op_move rfl rfl rfl)) ?_
                refine dr_put (d := 101) (v := .d (.sl 5 (List.map eDp ((doe l d).1.1)))) rfl (oy rfl rfl rfl y3 (op_move rfl rfl rfl)) ?_
                refine dr_put (d := 102) (v := .d (.fl (.int .i64 (k : Int)))) rfl (oy rfl rfl rfl y3 (op_move rfl rfl rfl)) ?_
                refine dr_put (d := 103) (v := .el ((eDp ((ix ((doe l d).1.1) k))))) rfl (oy rfl rfl rfl y3 (s_index rfl Try.underlying22 ti40 rfl rfl (by omega) (row_at (by omega)) rfl)) ?_
                refine dr_put (d := 104) (v := .el ((List.drop 2 ((eDp ((ix ((doe l d).1.1) k))))))) rfl (oy rfl rfl rfl y3 (of_eff (s_field_el rfl Try.underlying40 rfl ti3 rfl rfl rfl) rfl)) ?_
                refine dr_put (d := 105) (v := .d (.fl (.int .i64 (((ix ((doe l d).1.1) k)).cents)))) rfl (oy rfl rfl rfl y3 (op_load_el rfl Try.underlying3 rfl rfl rfl rfl)) ?_
                refine dr_put (d := 106) (v := .d (.sl 5 (List.map eDp l))) rfl (oy rfl rfl rfl y3 (op_move rfl rfl rfl)) ?_
                refine dr_put (d := 107) (v := .d (.fl (.int .i64 (k : Int)))) rfl (oy rfl rfl rfl y3 (op_move rfl rfl rfl)) ?_
                refine dr_put (d := 108) (v := .el ((eDp (ix l k)))) rfl (oy rfl rfl rfl y3 (s_index rfl Try.underlying22 ti40 rfl rfl (by omega) (row_at (by omega)) rfl)) ?_
                refine dr_put (d := 109) (v := .el ((List.drop 2 ((eDp (ix l k)))))) rfl (oy rfl rfl rfl y3 (of_eff (s_field_el rfl Try.underlying40 rfl ti3 rfl rfl rfl) rfl)) ?_
                refine dr_put (d := 110) (v := .d (.fl (.int .i64 ((ix l k).cents)))) rfl (oy rfl rfl rfl y3 (op_load_el rfl Try.underlying3 rfl rfl rfl rfl)) ?_
                refine dr_put (d := 111) (v := .d (.fl (.bool ((((ix ((doe l d).1.1) k)).cents != (ix l k).cents))))) rfl (oy rfl rfl rfl y3 (op_bin rfl rfl rfl (b_neq _ _ _ _) rfl)) ?_
                refine dr_put (d := 112) (v := .d (.fl (.bool ((((ix ((doe l d).1.1) k)).cents != (ix l k).cents))))) rfl (og rfl (op_pick rfl rfl (by rw [y3]; rfl) rfl)) ?_
                refine dr_put (d := 113) (v := .d (.fl (.bool ((((ix ((doe l d).1.1) k)).cents != (ix l k).cents))))) rfl (og rfl (op_move rfl rfl rfl)) ?_
                refine dr_put (d := 114) (v := .pt 101 0) rfl (oy rfl rfl rfl y4 (of_eff (s_field_pt rfl Try.underlying29 rfl ti3 rfl rfl rfl) rfl)) ?_
                refine dr_put (d := 115) (v := .d (.fl (.int .i64 d.kind))) rfl (oy rfl rfl rfl y4 (op_load_pt rfl Try.underlying3 rfl rfl rfl rfl rfl)) ?_
                refine dr_put (d := 116) (v := .d (.fl (.bool ((decide (0 ≤ d.kind)))))) rfl (oy rfl rfl rfl y4 (op_bin rfl rfl rfl (b_geq _ _ _ _) rfl)) ?_
                refine dr_put (d := 117) (v := .d (.fl (.bool ((decide (0 ≤ d.kind)))))) rfl (oy rfl rfl rfl y4 (op_move rfl rfl rfl)) ?_
                rcases fot ((decide (0 ≤ d.kind))) with h25 | h25
                · skip
                  have h26 := f_dec h25
                  refine dr_put (d := 118) (v := .d (.fl undef)) rfl (on rfl rfl rfl h25) ?_
                  refine dr_put (d := 119) (v := .d (.fl undef)) rfl (on rfl rfl rfl h25) ?_
                  refine dr_put (d := 120) (v := .d (.fl undef)) rfl (on rfl rfl rfl h25) ?_
                  refine dr_put (d := 121) (v := .d (.fl (.bool false))) rfl (oy rfl rfl rfl y4 (op_pick rfl rfl (by rw [h25]; rfl) rfl)) ?_
                  refine dr_put (d := 122) (v := .d (.fl (.bool false))) rfl (oy rfl rfl rfl y4 (op_move rfl rfl rfl)) ?_
                  refine dr_put (d := 123) (v := .d (.fl undef)) rfl (on rfl rfl rfl rfl) ?_
                  refine dr_put (d := 124) (v := .d (.fl undef)) rfl (on rfl rfl rfl rfl) ?_
                  refine dr_put (d := 125) (v := .d (.fl undef)) rfl (on rfl rfl rfl rfl) ?_
                  refine dr_put (d := 126) (v := .d (.fl undef)) rfl (on rfl rfl rfl rfl) ?_
                  refine dr_put (d := 127) (v := .d (.fl undef)) rfl (on rfl rfl rfl rfl) ?_
                  refine dr_put (d := 128) (v := .d (.fl undef)) rfl (on rfl rfl rfl rfl) ?_
                  refine dr_put (d := 129) (v := .d (.fl undef)) rfl (on rfl rfl rfl rfl) ?_
                  refine dr_put (d := 130) (v := .d (.fl undef)) rfl (on rfl rfl rfl rfl) ?_
                  refine dr_put (d := 131) (v := .d (.fl (.bool false))) rfl (oy rfl rfl rfl y4 (op_pick rfl rfl rfl rfl)) ?_
                  refine dr_put (d := 132) (v := .d (.fl (.bool false))) rfl (og rfl (op_pick rfl rfl (by rw [y4]; rfl) rfl)) ?_
                  refine dr_done rfl (sepB_of [0, 0, 3, 7, 15, 31, 63, 127, 127, 511, 1023, 2047, 127, 127, 12415, 28799, 61567, 131071, 262143, 524287, 1048575, 1048575, 4194303, 8388607, 16777215, 1048575, 1048575, 101711871, 235929599, 504365055, 1073741823, 2147483647, 4294967295, 8589934591, 8589934591, 34359738367, 68719476735, 137438953471, 8589934591, 8589934591, 833223655423, 1932735283199, 4131758538751, 8796093022207, 17592186044415, 35184372088831, 70368744177663, 140737488355327, 281474976710655, 562949953421311, 1125899906842623, 2251799813685247, 4503599627370495, 9007199254740991, 18014398509481983, 36028797018963967, 36028797018963967, 144115188075855871, 288230376151711743, 576460752303423487, 36028797018963967, 1188950301625810943, 4611686018427387903, 9223372036854775807, 18446744073709551615] (by kernel_rfl)) (by kernel_rfl) ?_
                  refine a_condF rfl rfl ?_
                  refine a_skip ?_
                  show A _ _ _ _ _ _ _
                  refine a_region ?_
                  refine rg_put (d := 133) (v := .d (.fl (.int .i64 (((k : Int) + 1))))) rfl (og rfl (op_bin rfl rfl rfl (fun x y w => b_add64 _ _ _ x y w (by omega)) rfl)) ?_
                  refine rg_put (d := 54) (v := .d (.fl (.int .i64 (((k : Int) + 1))))) rfl (og rfl (op_move rfl rfl rfl)) ?_
                  refine rg_done rfl ?_
                  show ∃ i, _ ∧ _ ∧ Imp _ _ _ _ _
                  refine ⟨k + 1, (by omega), by omega, imp_forget rfl ⟨rfl, rfl, rfl, rfl, rfl, rfl, rfl, rfl, (by first | rfl | exact ci (by omega) | exact ci (by simp) | exact cd (by simp) | simp), trivial⟩ ⟨rfl, trivial⟩⟩
                · skip
                  have h27 := t_dec h25
                  refine dr_put (d := 118) (v := .pt 101 0) rfl (oy rfl rfl rfl h25 (of_eff (s_field_pt rfl Try.underlying29 rfl ti3 rfl rfl rfl) rfl)) ?_
                  refine dr_put (d := 119) (v := .d (.fl (.int .i64 d.kind))) rfl (oy rfl rfl rfl h25 (op_load_pt rfl Try.underlying3 rfl rfl rfl rfl rfl)) ?_
                  refine dr_put (d := 120) (v := .d (.fl (.bool ((decide (d.kind ≤ 3)))))) rfl (oy rfl rfl rfl h25 (op_bin rfl rfl rfl (b_leq _ _ _ _) rfl)) ?_
                  refine dr_put (d := 121) (v := .d (.fl (.bool ((decide (d.kind ≤ 3)))))) rfl (oy rfl rfl rfl y4 (op_pick rfl rfl (by rw [h25]; rfl) rfl)) ?_
                  refine dr_put (d := 122) (v := .d (.fl (.bool ((decide (d.kind ≤ 3)))))) rfl (oy rfl rfl rfl y4 (op_move rfl rfl rfl)) ?_
                  rcases fot ((decide (d.kind ≤ 3))) with h28 | h28
                  · skip
                    have h29 := f_dec h28
                    refine dr_put (d := 123) (v := .d (.fl undef)) rfl (on rfl rfl rfl h28) ?_
                    refine dr_put (d := 124) (v := .d (.fl undef)) rfl (on rfl rfl rfl h28) ?_
                    refine dr_put (d := 125) (v := .d (.fl undef)) rfl (on rfl rfl rfl h28) ?_
                    refine dr_put (d := 126) (v := .d (.fl undef)) rfl (on rfl rfl rfl h28) ?_
                    refine dr_put (d := 127) (v := .d (.fl undef)) rfl (on rfl rfl rfl h28) ?_
                    refine dr_put (d := 128) (v := .d (.fl undef)) rfl (on rfl rfl rfl h28) ?_
                    refine dr_put (d := 129) (v := .d (.fl undef)) rfl (on rfl rfl rfl h28) ?_
                    refine dr_put (d := 130) (v := .d (.fl undef)) rfl (on rfl rfl rfl h28) ?_
                    refine dr_put (d := 131) (v := .d (.fl (.bool false))) rfl (oy rfl rfl rfl y4 (op_pick rfl rfl (by rw [h28]; rfl) rfl)) ?_
                    refine dr_put (d := 132) (v := .d (.fl (.bool false))) rfl (og rfl (op_pick rfl rfl (by rw [y4]; rfl) rfl)) ?_
                    refine dr_done rfl (sepB_of [0, 0, 3, 7, 15, 31, 63, 127, 127, 511, 1023, 2047, 127, 127, 12415, 28799, 61567, 131071, 262143, 524287, 1048575, 1048575, 4194303, 8388607, 16777215, 1048575, 1048575, 101711871, 235929599, 504365055, 1073741823, 2147483647, 4294967295, 8589934591, 8589934591, 34359738367, 68719476735, 137438953471, 8589934591, 8589934591, 833223655423, 1932735283199, 4131758538751, 8796093022207, 17592186044415, 35184372088831, 70368744177663, 140737488355327, 281474976710655, 562949953421311, 1125899906842623, 2251799813685247, 4503599627370495, 9007199254740991, 18014398509481983, 36028797018963967, 36028797018963967, 144115188075855871, 288230376151711743, 576460752303423487, 36028797018963967, 1188950301625810943, 4611686018427387903, 9223372036854775807, 18446744073709551615] (by kernel_rfl)) (by kernel_rfl) ?_
                    refine a_condF rfl rfl ?_
                    refine a_skip ?_
                    show A _ _ _ _ _ _ _
                    refine a_region ?_
                    refine rg_put (d := 133) (v := .d (.fl (.int .i64 (((k : Int) + 1))))) rfl (og rfl (op_bin rfl rfl rfl (fun x y w => b_add64 _ _ _ x y w (by omega)) rfl)) ?_
                    refine rg_put (d := 54) (v := .d (.fl (.int .i64 (((k : Int) + 1))))) rfl (og rfl (op_move rfl rfl rfl)) ?_
                    refine rg_done rfl ?_
                    show ∃ i, _ ∧ _ ∧ Imp _ _ _ _ _
                    refine ⟨k + 1, (by omega), by omega, imp_forget rfl ⟨rfl, rfl, rfl, rfl, rfl, rfl, rfl, rfl, (by first | rfl | exact ci (by omega) | exact ci (by simp) | exact cd (by simp) | simp), trivial⟩ ⟨rfl, trivial⟩⟩
                  · skip
                    have x6 := sEq_of (x5 ⟨by omega, t_dec h28⟩)
                    have h30 := t_dec h28
                    refine dr_put (d := 123) (v := .d (.sl 5 (List.map eDp l))) rfl (oy rfl rfl rfl h28 (op_move rfl rfl rfl)) ?_
                    refine dr_put (d := 124) (v := .d (.fl (.int .i64 (k : Int)))) rfl (oy rfl rfl rfl h28 (op_move rfl rfl rfl)) ?_
                    refine dr_put (d := 125) (v := .el ((eDp (ix l k)))) rfl (oy rfl rfl rfl h28 (s_index rfl Try.underlying22 ti40 rfl rfl (by omega) (row_at (by omega)) rfl)) ?_
                    refine dr_put (d := 126) (v := .el ((List.drop 0 ((eDp (ix l k)))))) rfl (oy rfl rfl rfl h28 (of_eff (s_field_el rfl Try.underlying40 rfl ti9 rfl rfl rfl) rfl)) ?_
                    refine dr_put (d := 127) (v := .d (.fl (.string ((ix l k).key)))) rfl (oy rfl rfl rfl h28 (op_load_el rfl Try.underlying9 rfl rfl rfl rfl)) ?_
                    refine dr_put (d := 128) (v := .pt 101 1) rfl (oy rfl rfl rfl h28 (of_eff (s_field_pt rfl Try.underlying29 rfl ti9 rfl rfl rfl) rfl)) ?_
                    refine dr_put (d := 129) (v := .d (.fl (.string d.key))) rfl (oy rfl rfl rfl h28 (op_load_pt rfl Try.underlying9 rfl rfl rfl rfl rfl)) ?_
                    refine dr_put (d := 130) (v := .d (.fl (.bool ((!(sEq ((ix l k).key) d.key)))))) rfl (oy rfl rfl rfl h28 (op_bin rfl rfl rfl (b_sne _ _ _) rfl)) ?_
                    refine dr_put (d := 131) (v := .d (.fl (.bool ((!(sEq ((ix l k).key) d.key)))))) rfl (oy rfl rfl rfl y4 (op_pick rfl rfl (by rw [h28]; rfl) rfl)) ?_
                    refine dr_put (d := 132) (v := .d (.fl (.bool ((!(sEq ((ix l k).key) d.key)))))) rfl (og rfl (op_pick rfl rfl (by rw [y4]; rfl) rfl)) ?_
                    refine dr_done rfl (sepB_of [0, 0, 3, 7, 15, 31, 63, 127, 127, 511, 1023, 2047, 127, 127, 12415, 28799, 61567, 131071, 262143, 524287, 1048575, 1048575, 4194303, 8388607, 16777215, 1048575, 1048575, 101711871, 235929599, 504365055, 1073741823, 2147483647, 4294967295, 8589934591, 8589934591, 34359738367, 68719476735, 137438953471, 8589934591, 8589934591, 833223655423, 1932735283199, 4131758538751, 8796093022207, 17592186044415, 35184372088831, 70368744177663, 140737488355327, 281474976710655, 562949953421311, 1125899906842623, 2251799813685247, 4503599627370495, 9007199254740991, 18014398509481983, 36028797018963967, 36028797018963967, 144115188075855871, 288230376151711743, 576460752303423487, 36028797018963967, 1188950301625810943, 4611686018427387903, 9223372036854775807, 18446744073709551615] (by kernel_rfl)) (by kernel_rfl) ?_
                    refine a_condF rfl (not_f x6) ?_
                    refine a_skip ?_
                    show A _ _ _ _ _ _ _
                    refine a_region ?_
                    refine rg_put (d := 133) (v := .d (.fl (.int .i64 (((k : Int) + 1))))) rfl (og rfl (op_bin rfl rfl rfl (fun x y w => b_add64 _ _ _ x y w (by omega)) rfl)) ?_
                    refine rg_put (d := 54) (v := .d (.fl (.int .i64 (((k : Int) + 1))))) rfl (og rfl (op_move rfl rfl rfl)) ?_
                    refine rg_done rfl ?_
                    show ∃ i, _ ∧ _ ∧ Imp _ _ _ _ _
                    refine ⟨k + 1, (by omega), by omega, imp_forget rfl ⟨rfl, rfl, rfl, rfl, rfl, rfl, rfl, rfl, (by first | rfl | exact ci (by omega) | exact ci (by simp) | exact cd (by simp) | simp), trivial⟩ ⟨rfl, trivial⟩⟩
            · skip
              have h31 := f_dec h22
              refine a_exit ?_
              show A _ _ _ _ _ _ _
              refine a_rseq ?_
              refine rg_put (d := 134) (v := .d (.fl (.bool true))) rfl (og rfl (op_call rfl Try.func9 nm9 rfl .nil awake_true rfl)) ?_
              refine rg_put (d := 4) (v := .d (.fl (.bool true))) rfl (og rfl (op_assign rfl rfl rfl)) ?_
              refine rg_done rfl ?_
              refine a_ret ?_
              show ∃ ds, ResL _ _ _ ds ∧ RV.of ds = _
              refine ⟨[.fl (.bool true)], (.cons (.tmp rfl (.d _)) .nil), ?_⟩
              rfl
        · skip
          have h32 := t_dec h7
          refine rg_put (d := 43) (v := .d (.fl undef)) rfl (on rfl rfl rfl h7) ?_
          refine rg_put (d := 44) (v := .d (.fl undef)) rfl (on rfl rfl rfl h7) ?_
          refine rg_put (d := 45) (v := .d (.fl undef)) rfl (on rfl rfl rfl h7) ?_
          refine rg_put (d := 46) (v := .d (.fl undef)) rfl (ou rfl rfl rfl) ?_
          refine rg_put (d := 47) (v := .d (.fl undef)) rfl (ou rfl rfl rfl) ?_
          refine rg_put (d := 48) (v := .d (.fl undef)) rfl (ou rfl rfl rfl) ?_
          refine rg_put (d := 49) (v := .d (.fl undef)) rfl (ou rfl rfl rfl) ?_
          refine rg_put (d := 50) (v := .d (.fl undef)) rfl (on rfl rfl rfl h7) ?_
          refine rg_put (d := 51) (v := .d (.fl (.bool true))) rfl (og rfl (op_pick rfl rfl (by rw [h7]; rfl) rfl)) ?_
          refine rg_done rfl ?_
          refine a_condK rfl rfl ?_
          refine a_rseq ?_
          refine rg_put (d := 4) (v := .d (.fl (.bool false))) rfl (og rfl (op_assign rfl rfl rfl)) ?_
          refine rg_done rfl ?_
          refine a_ret ?_
          show ∃ ds, ResL _ _ _ ds ∧ RV.of ds = _
          refine ⟨[.fl (.bool false)], (.cons (.tmp rfl (.d _)) .nil), ?_⟩
          exfalso
          omega
      · skip
        have h33 := t_dec h5
        refine rg_put (d := 35) (v := .d (.fl undef)) rfl (on rfl rfl rfl h5) ?_
        refine rg_put (d := 36) (v := .d (.fl undef)) rfl (on rfl rfl rfl h5) ?_
        refine rg_put (d := 37) (v := .d (.fl undef)) rfl (on rfl rfl rfl h5) ?_
        refine rg_put (d := 38) (v := .d (.fl undef)) rfl (on rfl rfl rfl h5) ?_
        refine rg_put (d := 39) (v := .d (.fl undef)) rfl (on rfl rfl rfl h5) ?_
        refine rg_put (d := 40) (v := .d (.fl undef)) rfl (on rfl rfl rfl h5) ?_
        refine rg_put (d := 41) (v := .d (.fl (.bool true))) rfl (og rfl (op_pick rfl rfl (by rw [h5]; rfl) rfl)) ?_
        refine rg_put (d := 42) (v := .d (.fl (.bool true))) rfl (og rfl (op_move rfl rfl rfl)) ?_
        refine rg_put (d := 43) (v := .d (.fl undef)) rfl (on rfl rfl rfl rfl) ?_
        refine rg_put (d := 44) (v := .d (.fl undef)) rfl (on rfl rfl rfl rfl) ?_
        refine rg_put (d := 45) (v := .d (.fl undef)) rfl (on rfl rfl rfl rfl) ?_
        refine rg_put (d := 46) (v := .d (.fl undef)) rfl (ou rfl rfl rfl) ?_
        refine rg_put (d := 47) (v := .d (.fl undef)) rfl (ou rfl rfl rfl) ?_
        refine rg_put (d := 48) (v := .d (.fl undef)) rfl (ou rfl rfl rfl) ?_
        refine rg_put (d := 49) (v := .d (.fl undef)) rfl (ou rfl rfl rfl) ?_
        refine rg_put (d := 50) (v := .d (.fl undef)) rfl (on rfl rfl rfl rfl) ?_
        refine rg_put (d := 51) (v := .d (.fl (.bool true))) rfl (og rfl (op_pick rfl rfl rfl rfl)) ?_
        refine rg_done rfl ?_
        refine a_condK rfl rfl ?_
        refine a_rseq ?_
        refine rg_put (d := 4) (v := .d (.fl (.bool false))) rfl (og rfl (op_assign rfl rfl rfl)) ?_
        refine rg_done rfl ?_
        refine a_ret ?_
        show ∃ ds, ResL _ _ _ ds ∧ RV.of ds = _
        refine ⟨[.fl (.bool false)], (.cons (.tmp rfl (.d _)) .nil), ?_⟩
        exfalso
        omega
  · skip
    refine rg_put (d := 12) (v := .d (.fl undef)) rfl (on rfl rfl rfl h1) ?_
    refine rg_put (d := 13) (v := .d (.fl undef)) rfl (on rfl rfl rfl h1) ?_
    refine rg_put (d := 14) (v := .d (.fl undef)) rfl (on rfl rfl rfl h1) ?_
    refine rg_put (d := 15) (v := .d (.fl (.bool true))) rfl (og rfl (op_pick rfl rfl (by rw [h1]; rfl) rfl)) ?_
    refine rg_done rfl ?_
    refine a_condK rfl rfl ?_
    refine a_rseq ?_
    refine rg_put (d := 16) (v := .d (.fl (.bool true))) rfl (og rfl (op_call rfl Try.func9 nm9 rfl .nil awake_true rfl)) ?_
    refine rg_put (d := 4) (v := .d (.fl (.bool true))) rfl (og rfl (op_assign rfl rfl rfl)) ?_
    refine rg_done rfl ?_
    refine a_ret ?_
    show ∃ ds, ResL _ _ _ ds ∧ RV.of ds = _
    refine ⟨[.fl (.bool true)], (.cons (.tmp rfl (.d _)) .nil), ?_⟩
    rfl
end Go.Proofs.Ytocjbombpggmeaa.Wk
