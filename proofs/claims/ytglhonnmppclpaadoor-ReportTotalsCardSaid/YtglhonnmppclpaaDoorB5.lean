/- Debits, credits, balances, kinds of accounts. Conditions: at most 40 entries of at most 40 posts, amounts that fit. -/
import Derived.Test.YtglhonnmppclpaaDoorB4
set_option linter.unusedSimpArgs false
set_option linter.unusedVariables false
namespace Go.Proofs.YtglhonnmppclpaaDoor.Wk
open Go Go.RowKit Go.Proofs.YtglhonnmppclpaaDoor.Av
def fit (n : Int) : Prop := -1125899906842624 ≤ n ∧ n ≤ 1125899906842624
structure OkE (l : List En) : Prop where
  len : l.length ≤ 40
  ps : ∀ q, q < l.length → (ix l q).posts.length ≤ 40
  key : ∀ q, q < l.length → (ix l q).key.size ≤ 200
  ct : ∀ q, q < l.length → ∀ u, u < (ix l q).posts.length → fit (ix (ix l q).posts u).cents
/-- debits, credits, balance: of the first k posts, of the first k entries -/
def dbP (l : List Po) : Nat → Int
  | 0 => 0
  | k + 1 => dbP l k + max (ix l k).cents 0
def crP (l : List Po) : Nat → Int
  | 0 => 0
  | k + 1 => crP l k + max (-(ix l k).cents) 0
def blP (l : List Po) (a : ByteArray) : Nat → Int
  | 0 => 0
  | k + 1 => blP l a k + if sEq (ix l k).acc a = true then (ix l k).cents else 0
def dbE (l : List En) : Nat → Int
  | 0 => 0
  | k + 1 => dbE l k + dbP (ix l k).posts (ix l k).posts.length
def crE (l : List En) : Nat → Int
  | 0 => 0
  | k + 1 => crE l k + crP (ix l k).posts (ix l k).posts.length
def blE (l : List En) (a : ByteArray) : Nat → Int
  | 0 => 0
  | k + 1 => blE l a k + blP (ix l k).posts a (ix l k).posts.length
theorem pd_bd {l : List Po} (h : ∀ u, u < l.length → fit (ix l u).cents) (a : ByteArray) : ∀ k, k ≤ l.length → (0 ≤ dbP l k ∧ dbP l k ≤ 1125899906842624 * (k : Int)) ∧ (0 ≤ crP l k ∧ crP l k ≤ 1125899906842624 * (k : Int)) ∧ (-(1125899906842624 * (k : Int)) ≤ blP l a k ∧ blP l a k ≤ 1125899906842624 * (k : Int))
  | 0, _ => ⟨⟨Int.le_refl _, by show (0 : Int) ≤ 1125899906842624 * 0; omega⟩, ⟨Int.le_refl _, by show (0 : Int) ≤ 1125899906842624 * 0; omega⟩, by show -(1125899906842624 * 0) ≤ (0 : Int); omega, by show (0 : Int) ≤ 1125899906842624 * 0; omega⟩
  | k + 1, hk => by
    obtain ⟨h1, h2, h3⟩ := pd_bd h a k (by omega)
    have h4 := h k (by omega)
    unfold fit at h4
    rw [dbP, crP, blP]
    refine ⟨by omega, by omega, ?_⟩
    split <;> omega
theorem en_bd {l : List En} (h : OkE l) (a : ByteArray) : ∀ k, k ≤ l.length → (0 ≤ dbE l k ∧ dbE l k ≤ 45035996273704960 * (k : Int)) ∧ (0 ≤ crE l k ∧ crE l k ≤ 45035996273704960 * (k : Int)) ∧ (-(45035996273704960 * (k : Int)) ≤ blE l a k ∧ blE l a k ≤ 45035996273704960 * (k : Int))
  | 0, _ => ⟨⟨Int.le_refl _, by show (0 : Int) ≤ 45035996273704960 * 0; omega⟩, ⟨Int.le_refl _, by show (0 : Int) ≤ 45035996273704960 * 0; omega⟩, by show -(45035996273704960 * 0) ≤ (0 : Int); omega, by show (0 : Int) ≤ 45035996273704960 * 0; omega⟩
  | k + 1, hk => by
    obtain ⟨h1, h2, h3⟩ := en_bd h a k (by omega)
    obtain ⟨h4, h5, h6⟩ := pd_bd (h.ct k (by omega)) a _ (Nat.le_refl _)
    have h7 := h.ps k (by omega)
    rw [dbE, crE, blE]
    refine ⟨by omega, by omega, by omega⟩
theorem db_s (l : List Po) (k : Nat) (a : Int) : (a + dbP l k) + max (ix l k).cents 0 = a + dbP l (k + 1) := by rw [dbP]; omega
theorem cr_s (l : List Po) (k : Nat) (a : Int) : (a + crP l k) + max (-(ix l k).cents) 0 = a + crP l (k + 1) := by rw [crP]; omega
theorem db_y {l : List Po} {k : Nat} {a : Int} (h : decide (0 < (ix l k).cents) = true) : (a + dbP l k) + (ix l k).cents = a + dbP l (k + 1) := by rw [dbP]; have := of_decide_eq_true h; omega
theorem cr_y {l : List Po} {k : Nat} {a : Int} (h : decide (0 < (ix l k).cents) = true) : a + crP l k = a + crP l (k + 1) := by rw [crP]; have := of_decide_eq_true h; omega
theorem db_n {l : List Po} {k : Nat} {a : Int} (h : decide (0 < (ix l k).cents) = false) : a + dbP l k = a + dbP l (k + 1) := by rw [dbP]; have := of_decide_eq_false h; omega
theorem cr_n {l : List Po} {k : Nat} {a : Int} (h : decide (0 < (ix l k).cents) = false) : (a + crP l k) - (ix l k).cents = a + crP l (k + 1) := by rw [crP]; have := of_decide_eq_false h; omega
theorem bl_y {l : List Po} {b : ByteArray} {k : Nat} {a : Int} (h : sEq (ix l k).acc b = true) : (a + blP l b k) + (ix l k).cents = a + blP l b (k + 1) := by rw [blP, if_pos h]; omega
theorem bl_n {l : List Po} {b : ByteArray} {k : Nat} {a : Int} (h : sEq (ix l k).acc b = false) : a + blP l b k = a + blP l b (k + 1) := by rw [blP, if_neg (by rw [h]; decide)]; omega
def kd (a : Ac) : ByteArray := if a.exempt = true then ⟨#[101, 120, 101, 109, 112, 116]⟩ else if a.prepay = true then ⟨#[112, 114, 101, 112, 97, 121]⟩ else ⟨#[112, 111, 115, 116, 112, 97, 121]⟩
theorem kd_size (a : Ac) : (kd a).size ≤ 10 := by
  unfold kd
  split
  · decide
  · split <;> decide

set_option maxHeartbeats 4000000 in
set_option maxRecDepth 100000 in
theorem tr53 (l : Lg) (b : ByteArray) (h : OkE l.e) : Ctr Tryd.prog 53 [.ag (eLg l)] (.tu [.fl (.int .i64 (dbE l.e l.e.length)), .fl (.int .i64 (crE l.e l.e.length))]) := by
  have hl0 := h.len
  refine ctr (n := 39) (rs := #[.tmp 2, .tmp 3]) (L := [(0, .d (.ag (eLg l)))]) Tryd.func53 rfl rfl rfl rfl rfl (fun w0 U0 => ?_)
  refine a_rseq ?_
  refine rg_nam (d := 1) (v := .pt 101 0) (m := 101) (nw := [(101, .bx 65 (eLg l))]) rfl (og rfl (of_eff (op_box 101 rfl rfl rfl rfl) rfl)) rfl ?_
  refine rg_put (d := 2) (v := .d (.fl (.int .i64 0))) rfl (og rfl (op_assign rfl rfl rfl)) ?_
  refine rg_put (d := 3) (v := .d (.fl (.int .i64 0))) rfl (og rfl (op_assign rfl rfl rfl)) ?_
  refine rg_done rfl ?_
  refine a_rseq ?_
  refine rg_put (d := 4) (v := .d (.fl (.int .i64 0))) rfl (og rfl (op_assign rfl rfl rfl)) ?_
  refine rg_put (d := 5) (v := .d (.fl (.int .i64 0))) rfl (og rfl (op_assign rfl rfl rfl)) ?_
  refine rg_done rfl ?_
  refine a_seq ?_
  refine a_rseq ?_
  refine rg_put (d := 10) (v := .pt 101 0) rfl (og rfl (of_eff (s_field_pt rfl Tryd.underlying65 rfl ti63 rfl rfl rfl) rfl)) ?_
  refine rg_put (d := 11) (v := .d (.sl 3 (List.map eEn l.e))) rfl (og rfl (op_load_pt rfl Tryd.underlying63 rfl rfl rfl rfl rfl)) ?_
  refine rg_put (d := 12) (v := .d (.fl (.int .i64 (l.e.length : Int)))) rfl (og rfl (s_len rfl Tryd.underlying63 rfl rfl)) ?_
  refine rg_put (d := 13) (v := .d (.fl (.int .i64 0))) rfl (og rfl (op_move rfl rfl rfl)) ?_
  refine rg_done rfl ?_
  refine a_block ?_
  refine a_loop (ι := Nat) (fun k => SS [(0, .d (.ag (eLg l))), (1, .pt 101 0), (2, .d (.fl (.int .i64 0))), (3, .d (.fl (.int .i64 0))), (11, .d (.sl 3 (List.map eEn l.e))), (12, .d (.fl (.int .i64 (l.e.length : Int)))), (13, .d (.fl (.int .i64 (k : Int)))), (4, .d (.fl (.int .i64 (dbE l.e k)))), (5, .d (.fl (.int .i64 (crE l.e k))))] [(101, .bx 65 (eLg l))]) (fun k => k ≤ l.e.length) (fun k => l.e.length - k) 0 (by omega) (imp_forget rfl ⟨rfl, rfl, rfl, rfl, rfl, rfl, (by first | rfl | exact ci (by omega) | exact ci (by simp) | exact cd (by simp) | simp), rfl, rfl, trivial⟩ ⟨rfl, trivial⟩) (fun k hok => ?_)
  have hk := hok
  have heb := en_bd h b k hk
  refine a_rseq ?_
  refine rg_put (d := 14) (v := .d (.fl (.bool ((decide ((k : Int) < (l.e.length : Int))))))) rfl (og rfl (op_bin rfl rfl rfl (b_lss _ _ _ _) rfl)) ?_
  refine rg_done rfl ?_
  refine a_seq ?_
  refine a_cond rfl (fun h1 => ?_) (fun h1 => ?_)
  · skip
    have h2 := t_dec h1
    refine a_skip ?_
    show A _ _ _ _ _ _ _
    refine a_seq ?_
    refine a_block ?_
    refine a_rseq ?_
    refine rg_put (d := 15) (v := .el ((eEn (ix l.e k)))) rfl (og rfl (s_index rfl Tryd.underlying63 ti105 rfl rfl (by omega) (row_at (by omega)) rfl)) ?_
    refine rg_put (d := 16) (v := .d (.ag (eEn (ix l.e k)))) rfl (og rfl (of_eff (s_load_els rfl Tryd.underlying105 rfl ti105 rfl rfl rfl) rfl)) ?_
    refine rg_nam (d := 7) (v := .pt 102 0) (m := 102) (nw := [(102, .bx 105 ([.fl (.string (⟨#[]⟩)), .fl (.int .i64 0), .fl (.slice none 0 0)]))]) rfl (og rfl (of_eff (s_alloc 102 rfl ti105 (by kernel_rfl) rfl) rfl)) rfl ?_
    refine rg_sto (nw := [(102, .bx 105 ((eEn (ix l.e k))))]) rfl (og rfl (of_eff (s_store rfl rfl ti105 rfl rfl rfl rfl rfl rfl) rfl)) ?_
    refine rg_done rfl ?_
    refine a_rseq ?_
    refine rg_put (d := 17) (v := .pt 102 2) rfl (og rfl (of_eff (s_field_pt rfl Tryd.underlying105 rfl ti103 rfl rfl rfl) rfl)) ?_
    refine rg_put (d := 18) (v := .d (.sl 2 (List.map ePo ((ix l.e k).posts)))) rfl (og rfl (op_load_pt rfl Tryd.underlying103 rfl rfl rfl rfl rfl)) ?_
    refine rg_put (d := 19) (v := .d (.fl (.int .i64 ((((ix l.e k).posts).length : Int))))) rfl (og rfl (s_len rfl Tryd.underlying103 rfl rfl)) ?_
    refine rg_put (d := 20) (v := .d (.fl (.int .i64 0))) rfl (og rfl (op_move rfl rfl rfl)) ?_
    refine rg_done rfl ?_
    refine a_block ?_
    refine a_loop (ι := Nat) (fun j => SS [(0, .d (.ag (eLg l))), (1, .pt 101 0), (2, .d (.fl (.int .i64 0))), (3, .d (.fl (.int .i64 0))), (7, .pt 102 0), (11, .d (.sl 3 (List.map eEn l.e))), (12, .d (.fl (.int .i64 (l.e.length : Int)))), (13, .d (.fl (.int .i64 (k : Int)))), (14, .d (.fl (.bool ((decide ((k : Int) < (l.e.length : Int))))))), (18, .d (.sl 2 (List.map ePo ((ix l.e k).posts)))), (19, .d (.fl (.int .i64 ((((ix l.e k).posts).length : Int))))), (20, .d (.fl (.int .i64 (j : Int)))), (4, .d (.fl (.int .i64 (((dbE l.e k) + (dbP (ix l.e k).posts j)))))), (5, .d (.fl (.int .i64 (((crE l.e k) + (crP (ix l.e k).posts j))))))] [(101, .bx 65 (eLg l)), (102, .bx 105 ((eEn (ix l.e k))))]) (fun j => j ≤ (ix l.e k).posts.length) (fun j => (ix l.e k).posts.length - j) 0 (by omega) (imp_forget rfl ⟨rfl, rfl, rfl, rfl, rfl, rfl, rfl, rfl, rfl, rfl, rfl, (by first | rfl | exact ci (by omega) | exact ci (by simp) | exact cd (by simp) | simp), (congrArg (fun z => AV.d (.fl (.int .i64 z))) (Int.add_zero _).symm), (congrArg (fun z => AV.d (.fl (.int .i64 z))) (Int.add_zero _).symm), trivial⟩ ⟨rfl, rfl, trivial⟩) (fun j hok => ?_)
    have hj := hok
    have hpl := h.ps k (by omega)
    have hpb := pd_bd (h.ct k (by omega)) b j hj
    refine a_rseq ?_
    refine rg_put (d := 21) (v := .d (.fl (.bool ((decide ((j : Int) < (((ix l.e k).posts).length : Int))))))) rfl (og rfl (op_bin rfl rfl rfl (b_lss _ _ _ _) rfl)) ?_
    refine rg_done rfl ?_
    refine a_seq ?_
    refine a_cond rfl (fun h3 => ?_) (fun h3 => ?_)
    · skip
      have h4 := t_dec h3
      refine a_skip ?_
      show A _ _ _ _ _ _ _
      refine a_seq ?_
      refine a_block ?_
      refine a_rseq ?_
      refine rg_put (d := 22) (v := .el ((ePo ((ix ((ix l.e k).posts) j))))) rfl (og rfl (s_index rfl Tryd.underlying103 ti107 rfl rfl (by omega) (row_at (by omega)) rfl)) ?_
      refine rg_put (d := 23) (v := .d (.ag (ePo (((ix ((ix l.e k).posts) j)))))) rfl (og rfl (of_eff (s_load_els rfl Tryd.underlying107 rfl ti107 rfl rfl rfl) rfl)) ?_
      refine rg_nam (d := 9) (v := .pt 103 0) (m := 103) (nw := [(103, .bx 107 ([.fl (.string (⟨#[]⟩)), .fl (.int .i64 0)]))]) rfl (og rfl (of_eff (s_alloc 103 rfl ti107 (by kernel_rfl) rfl) rfl)) rfl ?_
      refine rg_sto (nw := [(103, .bx 107 ((ePo (((ix ((ix l.e k).posts) j))))))]) rfl (og rfl (of_eff (s_store rfl rfl ti107 rfl rfl rfl rfl rfl rfl) rfl)) ?_
      refine rg_done rfl ?_
      refine a_rseq ?_
      have hct := h.ct k (by omega) j (by omega)
      unfold fit at hct
      refine rg_put (d := 24) (v := .pt 103 1) rfl (og rfl (of_eff (s_field_pt rfl Tryd.underlying107 rfl ti3 rfl rfl rfl) rfl)) ?_
      refine rg_put (d := 25) (v := .d (.fl (.int .i64 ((((ix ((ix l.e k).posts) j))).cents)))) rfl (og rfl (op_load_pt rfl Tryd.underlying3 rfl rfl rfl rfl rfl)) ?_
      refine rg_put (d := 26) (v := .d (.fl (.bool ((decide (0 < (((ix ((ix l.e k).posts) j))).cents)))))) rfl (og rfl (op_bin rfl rfl rfl (b_gtr _ _ _ _) rfl)) ?_
      refine rg_done rfl ?_
      refine a_cond rfl (fun h5 => ?_) (fun h5 => ?_)
      · skip
        have h6 := t_dec h5
        refine a_region ?_
        refine rg_put (d := 27) (v := .d (.fl (.int .i64 (((dbE l.e k) + (dbP (ix l.e k).posts j)))))) rfl (og rfl (op_move rfl rfl rfl)) ?_
        refine rg_put (d := 28) (v := .pt 103 1) rfl (og rfl (of_eff (s_field_pt rfl Tryd.underlying107 rfl ti3 rfl rfl rfl) rfl)) ?_
        refine rg_put (d := 29) (v := .d (.fl (.int .i64 ((((ix ((ix l.e k).posts) j))).cents)))) rfl (og rfl (op_load_pt rfl Tryd.underlying3 rfl rfl rfl rfl rfl)) ?_
        refine rg_put (d := 30) (v := .d (.fl (.int .i64 ((((dbE l.e k) + (dbP (ix l.e k).posts j)) + (((ix ((ix l.e k).posts) j))).cents))))) rfl (og rfl (op_bin rfl rfl rfl (fun x y w => b_add64 _ _ _ x y w (by omega)) rfl)) ?_
        refine rg_put (d := 4) (v := .d (.fl (.int .i64 ((((dbE l.e k) + (dbP (ix l.e k).posts j)) + (((ix ((ix l.e k).posts) j))).cents))))) rfl (og rfl (op_assign rfl rfl rfl)) ?_
        refine rg_done rfl ?_
        show A _ _ _ _ _ _ _
        refine a_region ?_
        refine rg_put (d := 35) (v := .d (.fl (.int .i64 (((j : Int) + 1))))) rfl (og rfl (op_bin rfl rfl rfl (fun x y w => b_add64 _ _ _ x y w (by omega)) rfl)) ?_
        refine rg_put (d := 20) (v := .d (.fl (.int .i64 (((j : Int) + 1))))) rfl (og rfl (op_move rfl rfl rfl)) ?_
        refine rg_done rfl ?_
        show ∃ i, _ ∧ _ ∧ Imp _ _ _ _ _
        refine ⟨j + 1, (by omega), by omega, imp_forget rfl ⟨rfl, rfl, rfl, rfl, rfl, rfl, rfl, rfl, rfl, rfl, rfl, (by first | rfl | exact ci (by omega) | exact ci (by simp) | exact cd (by simp) | simp), (congrArg (fun z => AV.d (.fl (.int .i64 z))) (db_y h5)), (congrArg (fun z => AV.d (.fl (.int .i64 z))) (cr_y h5)), trivial⟩ ⟨rfl, rfl, trivial⟩⟩
      · skip
        have h7 := f_dec h5
        refine a_region ?_
        refine rg_put (d := 31) (v := .d (.fl (.int .i64 (((crE l.e k) + (crP (ix l.e k).posts j)))))) rfl (og rfl (op_move rfl rfl rfl)) ?_
        refine rg_put (d := 32) (v := .pt 103 1) rfl (og rfl (of_eff (s_field_pt rfl Tryd.underlying107 rfl ti3 rfl rfl rfl) rfl)) ?_
        refine rg_put (d := 33) (v := .d (.fl (.int .i64 ((((ix ((ix l.e k).posts) j))).cents)))) rfl (og rfl (op_load_pt rfl Tryd.underlying3 rfl rfl rfl rfl rfl)) ?_
        refine rg_put (d := 34) (v := .d (.fl (.int .i64 ((((crE l.e k) + (crP (ix l.e k).posts j)) - (((ix ((ix l.e k).posts) j))).cents))))) rfl (og rfl (op_bin rfl rfl rfl (fun x y w => b_sub64 _ _ _ x y w (by omega)) rfl)) ?_
        refine rg_put (d := 5) (v := .d (.fl (.int .i64 ((((crE l.e k) + (crP (ix l.e k).posts j)) - (((ix ((ix l.e k).posts) j))).cents))))) rfl (og rfl (op_assign rfl rfl rfl)) ?_
        refine rg_done rfl ?_
        show A _ _ _ _ _ _ _
        refine a_region ?_
        refine rg_put (d := 35) (v := .d (.fl (.int .i64 (((j : Int) + 1))))) rfl (og rfl (op_bin rfl rfl rfl (fun x y w => b_add64 _ _ _ x y w (by omega)) rfl)) ?_
        refine rg_put (d := 20) (v := .d (.fl (.int .i64 (((j : Int) + 1))))) rfl (og rfl (op_move rfl rfl rfl)) ?_
        refine rg_done rfl ?_
        show ∃ i, _ ∧ _ ∧ Imp _ _ _ _ _
        refine ⟨j + 1, (by omega), by omega, imp_forget rfl ⟨rfl, rfl, rfl, rfl, rfl, rfl, rfl, rfl, rfl, rfl, rfl, (by first | rfl | exact ci (by omega) | exact ci (by simp) | exact cd (by simp) | simp), (congrArg (fun z => AV.d (.fl (.int .i64 z))) (db_n h5)), (congrArg (fun z => AV.d (.fl (.int .i64 z))) (cr_n h5)), trivial⟩ ⟨rfl, rfl, trivial⟩⟩
    · skip
      have h8 := f_dec h3
      refine a_exit ?_
      show A _ _ _ _ _ _ _
      refine a_region ?_
      refine rg_put (d := 36) (v := .d (.fl (.int .i64 (((k : Int) + 1))))) rfl (og rfl (op_bin rfl rfl rfl (fun x y w => b_add64 _ _ _ x y w (by omega)) rfl)) ?_
      refine rg_put (d := 13) (v := .d (.fl (.int .i64 (((k : Int) + 1))))) rfl (og rfl (op_move rfl rfl rfl)) ?_
      refine rg_done rfl ?_
      show ∃ i, _ ∧ _ ∧ Imp _ _ _ _ _
      refine ⟨k + 1, (by omega), by omega, imp_forget rfl ⟨rfl, rfl, rfl, rfl, rfl, rfl, (by first | rfl | exact ci (by omega) | exact ci (by simp) | exact cd (by simp) | simp), (by rw [show j = (ix l.e k).posts.length by omega]; rfl), (by rw [show j = (ix l.e k).posts.length by omega]; rfl), trivial⟩ ⟨rfl, trivial⟩⟩
  · skip
    have h9 := f_dec h1
    refine a_exit ?_
    show A _ _ _ _ _ _ _
    refine a_rseq ?_
    refine rg_put (d := 37) (v := .d (.fl (.int .i64 (dbE l.e k)))) rfl (og rfl (op_move rfl rfl rfl)) ?_
    refine rg_put (d := 38) (v := .d (.fl (.int .i64 (crE l.e k)))) rfl (og rfl (op_move rfl rfl rfl)) ?_
    refine rg_put (d := 2) (v := .d (.fl (.int .i64 (dbE l.e k)))) rfl (og rfl (op_assign rfl rfl rfl)) ?_
    refine rg_put (d := 3) (v := .d (.fl (.int .i64 (crE l.e k)))) rfl (og rfl (op_assign rfl rfl rfl)) ?_
    refine rg_done rfl ?_
    refine a_ret ?_
    show ∃ ds, ResL _ _ _ ds ∧ RV.of ds = _
    refine ⟨[.fl (.int .i64 (dbE l.e k)), .fl (.int .i64 (crE l.e k))], (.cons (.tmp rfl (.d _)) (.cons (.tmp rfl (.d _)) .nil)), ?_⟩
    have hkl : k = l.e.length := by omega
    rw [hkl]; rfl
set_option maxHeartbeats 4000000 in
set_option maxRecDepth 100000 in
theorem tr56 (l : Lg) (b : ByteArray) (h : OkE l.e) : Ctr Tryd.prog 56 [.ag (eLg l)] (.tu [.fl (.int .i64 (dbE l.e l.e.length)), .fl (.int .i64 (crE l.e l.e.length))]) := by
  have hl0 := h.len
  refine ctr (n := 48) (rs := #[.tmp 2, .tmp 3]) (L := [(0, .d (.ag (eLg l)))]) Tryd.func56 rfl rfl rfl rfl rfl (fun w0 U0 => ?_)
  refine a_rseq ?_
  refine rg_nam (d := 1) (v := .pt 101 0) (m := 101) (nw := [(101, .bx 65 (eLg l))]) rfl (og rfl (of_eff (op_box 101 rfl rfl rfl rfl) rfl)) rfl ?_
  refine rg_put (d := 2) (v := .d (.fl (.int .i64 0))) rfl (og rfl (op_assign rfl rfl rfl)) ?_
  refine rg_put (d := 3) (v := .d (.fl (.int .i64 0))) rfl (og rfl (op_assign rfl rfl rfl)) ?_
  refine rg_done rfl ?_
  refine a_rseq ?_
  refine rg_put (d := 4) (v := .d (.fl (.int .i64 0))) rfl (og rfl (op_assign rfl rfl rfl)) ?_
  refine rg_put (d := 5) (v := .d (.fl (.int .i64 0))) rfl (og rfl (op_assign rfl rfl rfl)) ?_
  refine rg_done rfl ?_
  refine a_seq ?_
  refine a_rseq ?_
  refine rg_put (d := 6) (v := .d (.fl (.int .i64 0))) rfl (og rfl (op_assign rfl rfl rfl)) ?_
  refine rg_done rfl ?_
  refine a_block ?_
  refine a_loop (ι := Nat) (fun k => SS [(0, .d (.ag (eLg l))), (1, .pt 101 0), (2, .d (.fl (.int .i64 0))), (3, .d (.fl (.int .i64 0))), (6, .d (.fl (.int .i64 (k : Int)))), (4, .d (.fl (.int .i64 (dbE l.e k)))), (5, .d (.fl (.int .i64 (crE l.e k))))] [(101, .bx 65 (eLg l))]) (fun k => k ≤ l.e.length) (fun k => l.e.length - k) 0 (by omega) (imp_forget rfl ⟨rfl, rfl, rfl, rfl, (by first | rfl | exact ci (by omega) | exact ci (by simp) | exact cd (by simp) | simp), rfl, rfl, trivial⟩ ⟨rfl, trivial⟩) (fun k hok => ?_)
  have hk := hok
  have heb := en_bd h b k hk
  refine a_seq ?_
  refine a_rseq ?_
  refine rg_put (d := 9) (v := .d (.fl (.int .i64 (k : Int)))) rfl (og rfl (op_move rfl rfl rfl)) ?_
  refine rg_put (d := 10) (v := .pt 101 0) rfl (og rfl (of_eff (s_field_pt rfl Tryd.underlying65 rfl ti63 rfl rfl rfl) rfl)) ?_
  refine rg_put (d := 11) (v := .d (.sl 3 (List.map eEn l.e))) rfl (og rfl (op_load_pt rfl Tryd.underlying63 rfl rfl rfl rfl rfl)) ?_
  refine rg_put (d := 12) (v := .d (.fl (.int .i64 (l.e.length : Int)))) rfl (og rfl (s_len rfl Tryd.underlying63 rfl rfl)) ?_
  refine rg_put (d := 13) (v := .d (.fl (.bool ((decide ((k : Int) < (l.e.length : Int))))))) rfl (og rfl (op_bin rfl rfl rfl (b_lss _ _ _ _) rfl)) ?_
  refine rg_done rfl ?_
  refine a_cond rfl (fun h1 => ?_) (fun h1 => ?_)
  · skip
    have h2 := t_dec h1
    refine a_skip ?_
    show A _ _ _ _ _ _ _
    refine a_seq ?_
    refine a_block ?_
    refine a_rseq ?_
    refine rg_put (d := 7) (v := .d (.fl (.int .i64 0))) rfl (og rfl (op_assign rfl rfl rfl)) ?_
    refine rg_done rfl ?_
    refine a_block ?_
    refine a_loop (ι := Nat) (fun j => SS [(0, .d (.ag (eLg l))), (1, .pt 101 0), (2, .d (.fl (.int .i64 0))), (3, .d (.fl (.int .i64 0))), (6, .d (.fl (.int .i64 (k : Int)))), (13, .d (.fl (.bool ((decide ((k : Int) < (l.e.length : Int))))))), (7, .d (.fl (.int .i64 (j : Int)))), (4, .d (.fl (.int .i64 (((dbE l.e k) + (dbP (ix l.e k).posts j)))))), (5, .d (.fl (.int .i64 (((crE l.e k) + (crP (ix l.e k).posts j))))))] [(101, .bx 65 (eLg l))]) (fun j => j ≤ (ix l.e k).posts.length) (fun j => (ix l.e k).posts.length - j) 0 (by omega) (imp_forget rfl ⟨rfl, rfl, rfl, rfl, rfl, rfl, (by first | rfl | exact ci (by omega) | exact ci (by simp) | exact cd (by simp) | simp), (congrArg (fun z => AV.d (.fl (.int .i64 z))) (Int.add_zero _).symm), (congrArg (fun z => AV.d (.fl (.int .i64 z))) (Int.add_zero _).symm), trivial⟩ ⟨rfl, trivial⟩) (fun j hok => ?_)
    have hj := hok
    have hpl := h.ps k (by omega)
    have hpb := pd_bd (h.ct k (by omega)) b j hj
    refine a_seq ?_
    refine a_rseq ?_
    refine rg_put (d := 16) (v := .d (.fl (.int .i64 (j : Int)))) rfl (og rfl (op_move rfl rfl rfl)) ?_
    refine rg_put (d := 17) (v := .pt 101 0) rfl (og rfl (of_eff (s_field_pt rfl Tryd.underlying65 rfl ti63 rfl rfl rfl) rfl)) ?_
    refine rg_put (d := 18) (v := .d (.sl 3 (List.map eEn l.e))) rfl (og rfl (op_load_pt rfl Tryd.underlying63 rfl rfl rfl rfl rfl)) ?_
    refine rg_put (d := 19) (v := .d (.fl (.int .i64 (k : Int)))) rfl (og rfl (op_move rfl rfl rfl)) ?_
    refine rg_put (d := 20) (v := .el ((eEn (ix l.e k)))) rfl (og rfl (s_index rfl Tryd.underlying63 ti105 rfl rfl (by omega) (row_at (by omega)) rfl)) ?_
    refine rg_put (d := 21) (v := .el ((List.drop 2 ((eEn (ix l.e k)))))) rfl (og rfl (of_eff (s_field_el rfl Tryd.underlying105 rfl ti103 rfl rfl rfl) rfl)) ?_
    refine rg_put (d := 22) (v := .d (.sl 2 (List.map ePo ((ix l.e k).posts)))) rfl (og rfl (op_load_el rfl Tryd.underlying103 rfl rfl rfl rfl)) ?_
    refine rg_put (d := 23) (v := .d (.fl (.int .i64 ((((ix l.e k).posts).length : Int))))) rfl (og rfl (s_len rfl Tryd.underlying103 rfl rfl)) ?_
    refine rg_put (d := 24) (v := .d (.fl (.bool ((decide ((j : Int) < (((ix l.e k).posts).length : Int))))))) rfl (og rfl (op_bin rfl rfl rfl (b_lss _ _ _ _) rfl)) ?_
    refine rg_done rfl ?_
    refine a_cond rfl (fun h3 => ?_) (fun h3 => ?_)
    · skip
      have h4 := t_dec h3
      refine a_skip ?_
      show A _ _ _ _ _ _ _
      refine a_seq ?_
      refine a_block ?_
      refine a_rseq ?_
      have hct := h.ct k (by omega) j (by omega)
      unfold fit at hct
      refine rg_put (d := 27) (v := .pt 101 0) rfl (og rfl (of_eff (s_field_pt rfl Tryd.underlying65 rfl ti63 rfl rfl rfl) rfl)) ?_
      refine rg_put (d := 28) (v := .d (.sl 3 (List.map eEn l.e))) rfl (og rfl (op_load_pt rfl Tryd.underlying63 rfl rfl rfl rfl rfl)) ?_
      refine rg_put (d := 29) (v := .d (.fl (.int .i64 (k : Int)))) rfl (og rfl (op_move rfl rfl rfl)) ?_
      refine rg_put (d := 30) (v := .el ((eEn (ix l.e k)))) rfl (og rfl (s_index rfl Tryd.underlying63 ti105 rfl rfl (by omega) (row_at (by omega)) rfl)) ?_
      refine rg_put (d := 31) (v := .el ((List.drop 2 ((eEn (ix l.e k)))))) rfl (og rfl (of_eff (s_field_el rfl Tryd.underlying105 rfl ti103 rfl rfl rfl) rfl)) ?_
      refine rg_put (d := 32) (v := .d (.sl 2 (List.map ePo ((ix l.e k).posts)))) rfl (og rfl (op_load_el rfl Tryd.underlying103 rfl rfl rfl rfl)) ?_
      refine rg_put (d := 33) (v := .d (.fl (.int .i64 (j : Int)))) rfl (og rfl (op_move rfl rfl rfl)) ?_
      refine rg_put (d := 34) (v := .el ((ePo ((ix ((ix l.e k).posts) j))))) rfl (og rfl (s_index rfl Tryd.underlying103 ti107 rfl rfl (by omega) (row_at (by omega)) rfl)) ?_
      refine rg_put (d := 35) (v := .el ((List.drop 1 ((ePo ((ix ((ix l.e k).posts) j))))))) rfl (og rfl (of_eff (s_field_el rfl Tryd.underlying107 rfl ti3 rfl rfl rfl) rfl)) ?_
      refine rg_put (d := 36) (v := .d (.fl (.int .i64 (((ix ((ix l.e k).posts) j)).cents)))) rfl (og rfl (op_load_el rfl Tryd.underlying3 rfl rfl rfl rfl)) ?_
      refine rg_put (d := 8) (v := .d (.fl (.int .i64 (((ix ((ix l.e k).posts) j)).cents)))) rfl (og rfl (op_assign rfl rfl rfl)) ?_
      refine rg_done rfl ?_
      refine a_rseq ?_
      refine rg_put (d := 37) (v := .d (.fl (.int .i64 (((dbE l.e k) + (dbP (ix l.e k).posts j)))))) rfl (og rfl (op_move rfl rfl rfl)) ?_
      refine rg_put (d := 38) (v := .d (.fl (.int .i64 (((ix ((ix l.e k).posts) j)).cents)))) rfl (og rfl (op_move rfl rfl rfl)) ?_
      refine rg_put (d := 39) (v := .d (.fl (.int .i64 ((max (((ix ((ix l.e k).posts) j)).cents) 0))))) rfl (og rfl (op_max rfl rfl rfl rfl)) ?_
      refine rg_put (d := 40) (v := .d (.fl (.int .i64 ((((dbE l.e k) + (dbP (ix l.e k).posts j)) + (max (((ix ((ix l.e k).posts) j)).cents) 0)))))) rfl (og rfl (op_bin rfl rfl rfl (fun x y w => b_add64 _ _ _ x y w (by omega)) rfl)) ?_
      refine rg_put (d := 4) (v := .d (.fl (.int .i64 ((((dbE l.e k) + (dbP (ix l.e k).posts j)) + (max (((ix ((ix l.e k).posts) j)).cents) 0)))))) rfl (og rfl (op_assign rfl rfl rfl)) ?_
      refine rg_done rfl ?_
      refine a_region ?_
      refine rg_put (d := 41) (v := .d (.fl (.int .i64 (((crE l.e k) + (crP (ix l.e k).posts j)))))) rfl (og rfl (op_move rfl rfl rfl)) ?_
      refine rg_put (d := 42) (v := .d (.fl (.int .i64 (((ix ((ix l.e k).posts) j)).cents)))) rfl (og rfl (op_move rfl rfl rfl)) ?_
      refine rg_put (d := 43) (v := .d (.fl (.int .i64 ((-(((ix ((ix l.e k).posts) j)).cents)))))) rfl (og rfl (op_un rfl rfl (fun w => u_neg64 _ w (by omega)) rfl)) ?_
      refine rg_put (d := 44) (v := .d (.fl (.int .i64 ((max ((-(((ix ((ix l.e k).posts) j)).cents))) 0))))) rfl (og rfl (op_max rfl rfl rfl rfl)) ?_
      refine rg_put (d := 45) (v := .d (.fl (.int .i64 ((((crE l.e k) + (crP (ix l.e k).posts j)) + (max ((-(((ix ((ix l.e k).posts) j)).cents))) 0)))))) rfl (og rfl (op_bin rfl rfl rfl (fun x y w => b_add64 _ _ _ x y w (by omega)) rfl)) ?_
      refine rg_put (d := 5) (v := .d (.fl (.int .i64 ((((crE l.e k) + (crP (ix l.e k).posts j)) + (max ((-(((ix ((ix l.e k).posts) j)).cents))) 0)))))) rfl (og rfl (op_assign rfl rfl rfl)) ?_
      refine rg_done rfl ?_
      show A _ _ _ _ _ _ _
      refine a_region ?_
      refine rg_put (d := 25) (v := .d (.fl (.int .i64 (j : Int)))) rfl (og rfl (op_move rfl rfl rfl)) ?_
      refine rg_put (d := 26) (v := .d (.fl (.int .i64 (((j : Int) + 1))))) rfl (og rfl (op_bin rfl rfl rfl (fun x y w => b_add64 _ _ _ x y w (by omega)) rfl)) ?_
      refine rg_put (d := 7) (v := .d (.fl (.int .i64 (((j : Int) + 1))))) rfl (og rfl (op_assign rfl rfl rfl)) ?_
      refine rg_done rfl ?_
      show ∃ i, _ ∧ _ ∧ Imp _ _ _ _ _
      refine ⟨j + 1, (by omega), by omega, imp_forget rfl ⟨rfl, rfl, rfl, rfl, rfl, rfl, (by first | rfl | exact ci (by omega) | exact ci (by simp) | exact cd (by simp) | simp), (congrArg (fun z => AV.d (.fl (.int .i64 z))) (db_s _ _ _)), (congrArg (fun z => AV.d (.fl (.int .i64 z))) (cr_s _ _ _)), trivial⟩ ⟨rfl, trivial⟩⟩
    · skip
      have h5 := f_dec h3
      refine a_exit ?_
      show A _ _ _ _ _ _ _
      refine a_region ?_
      refine rg_put (d := 14) (v := .d (.fl (.int .i64 (k : Int)))) rfl (og rfl (op_move rfl rfl rfl)) ?_
      refine rg_put (d := 15) (v := .d (.fl (.int .i64 (((k : Int) + 1))))) rfl (og rfl (op_bin rfl rfl rfl (fun x y w => b_add64 _ _ _ x y w (by omega)) rfl)) ?_
      refine rg_put (d := 6) (v := .d (.fl (.int .i64 (((k : Int) + 1))))) rfl (og rfl (op_assign rfl rfl rfl)) ?_
      refine rg_done rfl ?_
      show ∃ i, _ ∧ _ ∧ Imp _ _ _ _ _
      refine ⟨k + 1, (by omega), by omega, imp_forget rfl ⟨rfl, rfl, rfl, rfl, (by first | rfl | exact ci (by omega) | exact ci (by simp) | exact cd (by simp) | simp), (by rw [show j = (ix l.e k).posts.length by omega]; rfl), (by rw [show j = (ix l.e k).posts.length by omega]; rfl), trivial⟩ ⟨rfl, trivial⟩⟩
  · skip
    have h6 := f_dec h1
    refine a_exit ?_
    show A _ _ _ _ _ _ _
    refine a_rseq ?_
    refine rg_put (d := 46) (v := .d (.fl (.int .i64 (dbE l.e k)))) rfl (og rfl (op_move rfl rfl rfl)) ?_
    refine rg_put (d := 47) (v := .d (.fl (.int .i64 (crE l.e k)))) rfl (og rfl (op_move rfl rfl rfl)) ?_
    refine rg_put (d := 2) (v := .d (.fl (.int .i64 (dbE l.e k)))) rfl (og rfl (op_assign rfl rfl rfl)) ?_
    refine rg_put (d := 3) (v := .d (.fl (.int .i64 (crE l.e k)))) rfl (og rfl (op_assign rfl rfl rfl)) ?_
    refine rg_done rfl ?_
    refine a_ret ?_
    show ∃ ds, ResL _ _ _ ds ∧ RV.of ds = _
    refine ⟨[.fl (.int .i64 (dbE l.e k)), .fl (.int .i64 (crE l.e k))], (.cons (.tmp rfl (.d _)) (.cons (.tmp rfl (.d _)) .nil)), ?_⟩
    have hkl : k = l.e.length := by omega
    rw [hkl]; rfl
set_option maxHeartbeats 4000000 in
set_option maxRecDepth 100000 in
theorem bl77 (l : Lg) (b : ByteArray) (h : OkE l.e) : Ctr Tryd.prog 77 [.ag (eLg l), .fl (.string b)] (.d (.fl (.int .i64 (blE l.e b l.e.length)))) := by
  have hl0 := h.len
  refine ctr (n := 35) (rs := #[.tmp 4]) (L := [(0, .d (.ag (eLg l))), (1, .d (.fl (.string b)))]) Tryd.func77 rfl rfl rfl rfl rfl (fun w0 U0 => ?_)
  refine a_rseq ?_
  refine rg_nam (d := 2) (v := .pt 101 0) (m := 101) (nw := [(101, .bx 65 (eLg l))]) rfl (og rfl (of_eff (op_box 101 rfl rfl rfl rfl) rfl)) rfl ?_
  refine rg_put (d := 4) (v := .d (.fl (.int .i64 0))) rfl (og rfl (op_assign rfl rfl rfl)) ?_
  refine rg_done rfl ?_
  refine a_rseq ?_
  refine rg_put (d := 5) (v := .d (.fl (.int .i64 0))) rfl (og rfl (op_assign rfl rfl rfl)) ?_
  refine rg_done rfl ?_
  refine a_seq ?_
  refine a_rseq ?_
  refine rg_put (d := 10) (v := .pt 101 0) rfl (og rfl (of_eff (s_field_pt rfl Tryd.underlying65 rfl ti63 rfl rfl rfl) rfl)) ?_
  refine rg_put (d := 11) (v := .d (.sl 3 (List.map eEn l.e))) rfl (og rfl (op_load_pt rfl Tryd.underlying63 rfl rfl rfl rfl rfl)) ?_
  refine rg_put (d := 12) (v := .d (.fl (.int .i64 (l.e.length : Int)))) rfl (og rfl (s_len rfl Tryd.underlying63 rfl rfl)) ?_
  refine rg_put (d := 13) (v := .d (.fl (.int .i64 0))) rfl (og rfl (op_move rfl rfl rfl)) ?_
  refine rg_done rfl ?_
  refine a_block ?_
  refine a_loop (ι := Nat) (fun k => SS [(0, .d (.ag (eLg l))), (1, .d (.fl (.string b))), (2, .pt 101 0), (4, .d (.fl (.int .i64 0))), (11, .d (.sl 3 (List.map eEn l.e))), (12, .d (.fl (.int .i64 (l.e.length : Int)))), (13, .d (.fl (.int .i64 (k : Int)))), (5, .d (.fl (.int .i64 (blE l.e b k))))] [(101, .bx 65 (eLg l))]) (fun k => k ≤ l.e.length) (fun k => l.e.length - k) 0 (by omega) (imp_forget rfl ⟨rfl, rfl, rfl, rfl, rfl, rfl, (by first | rfl | exact ci (by omega) | exact ci (by simp) | exact cd (by simp) | simp), rfl, trivial⟩ ⟨rfl, trivial⟩) (fun k hok => ?_)
  have hk := hok
  have heb := en_bd h b k hk
  refine a_rseq ?_
  refine rg_put (d := 14) (v := .d (.fl (.bool ((decide ((k : Int) < (l.e.length : Int))))))) rfl (og rfl (op_bin rfl rfl rfl (b_lss _ _ _ _) rfl)) ?_
  refine rg_done rfl ?_
  refine a_seq ?_
  refine a_cond rfl (fun h1 => ?_) (fun h1 => ?_)
  · skip
    have h2 := t_dec h1
    refine a_skip ?_
    show A _ _ _ _ _ _ _
    refine a_seq ?_
    refine a_block ?_
    refine a_rseq ?_
    refine rg_put (d := 15) (v := .el ((eEn (ix l.e k)))) rfl (og rfl (s_index rfl Tryd.underlying63 ti105 rfl rfl (by omega) (row_at (by omega)) rfl)) ?_
    refine rg_put (d := 16) (v := .d (.ag (eEn (ix l.e k)))) rfl (og rfl (of_eff (s_load_els rfl Tryd.underlying105 rfl ti105 rfl rfl rfl) rfl)) ?_
    refine rg_nam (d := 7) (v := .pt 102 0) (m := 102) (nw := [(102, .bx 105 ([.fl (.string (⟨#[]⟩)), .fl (.int .i64 0), .fl (.slice none 0 0)]))]) rfl (og rfl (of_eff (s_alloc 102 rfl ti105 (by kernel_rfl) rfl) rfl)) rfl ?_
    refine rg_sto (nw := [(102, .bx 105 ((eEn (ix l.e k))))]) rfl (og rfl (of_eff (s_store rfl rfl ti105 rfl rfl rfl rfl rfl rfl) rfl)) ?_
    refine rg_done rfl ?_
    refine a_rseq ?_
    refine rg_put (d := 17) (v := .pt 102 2) rfl (og rfl (of_eff (s_field_pt rfl Tryd.underlying105 rfl ti103 rfl rfl rfl) rfl)) ?_
    refine rg_put (d := 18) (v := .d (.sl 2 (List.map ePo ((ix l.e k).posts)))) rfl (og rfl (op_load_pt rfl Tryd.underlying103 rfl rfl rfl rfl rfl)) ?_
    refine rg_put (d := 19) (v := .d (.fl (.int .i64 ((((ix l.e k).posts).length : Int))))) rfl (og rfl (s_len rfl Tryd.underlying103 rfl rfl)) ?_
    refine rg_put (d := 20) (v := .d (.fl (.int .i64 0))) rfl (og rfl (op_move rfl rfl rfl)) ?_
    refine rg_done rfl ?_
    refine a_block ?_
    refine a_loop (ι := Nat) (fun j => SS [(0, .d (.ag (eLg l))), (1, .d (.fl (.string b))), (2, .pt 101 0), (4, .d (.fl (.int .i64 0))), (7, .pt 102 0), (11, .d (.sl 3 (List.map eEn l.e))), (12, .d (.fl (.int .i64 (l.e.length : Int)))), (13, .d (.fl (.int .i64 (k : Int)))), (14, .d (.fl (.bool ((decide ((k : Int) < (l.e.length : Int))))))), (18, .d (.sl 2 (List.map ePo ((ix l.e k).posts)))), (19, .d (.fl (.int .i64 ((((ix l.e k).posts).length : Int))))), (20, .d (.fl (.int .i64 (j : Int)))), (5, .d (.fl (.int .i64 (((blE l.e b k) + (blP (ix l.e k).posts b j))))))] [(101, .bx 65 (eLg l)), (102, .bx 105 ((eEn (ix l.e k))))]) (fun j => j ≤ (ix l.e k).posts.length) (fun j => (ix l.e k).posts.length - j) 0 (by omega) (imp_forget rfl ⟨rfl, rfl, rfl, rfl, rfl, rfl, rfl, rfl, rfl, rfl, rfl, (by first | rfl | exact ci (by omega) | exact ci (by simp) | exact cd (by simp) | simp), (congrArg (fun z => AV.d (.fl (.int .i64 z))) (Int.add_zero _).symm), trivial⟩ ⟨rfl, rfl, trivial⟩) (fun j hok => ?_)
    have hj := hok
    have hpl := h.ps k (by omega)
    have hpb := pd_bd (h.ct k (by omega)) b j hj
    refine a_rseq ?_
    refine rg_put (d := 21) (v := .d (.fl (.bool ((decide ((j : Int) < (((ix l.e k).posts).length : Int))))))) rfl (og rfl (op_bin rfl rfl rfl (b_lss _ _ _ _) rfl)) ?_
    refine rg_done rfl ?_
    refine a_seq ?_
    refine a_cond rfl (fun h3 => ?_) (fun h3 => ?_)
    · skip
      have h4 := t_dec h3
      refine a_skip ?_
      show A _ _ _ _ _ _ _
      refine a_seq ?_
      refine a_block ?_
      refine a_rseq ?_
      refine rg_put (d := 22) (v := .el ((ePo ((ix ((ix l.e k).posts) j))))) rfl (og rfl (s_index rfl Tryd.underlying103 ti107 rfl rfl (by omega) (row_at (by omega)) rfl)) ?_
      refine rg_put (d := 23) (v := .d (.ag (ePo (((ix ((ix l.e k).posts) j)))))) rfl (og rfl (of_eff (s_load_els rfl Tryd.underlying107 rfl ti107 rfl rfl rfl) rfl)) ?_
      refine rg_nam (d := 9) (v := .pt 103 0) (m := 103) (nw := [(103, .bx 107 ([.fl (.string (⟨#[]⟩)), .fl (.int .i64 0)]))]) rfl (og rfl (of_eff (s_alloc 103 rfl ti107 (by kernel_rfl) rfl) rfl)) rfl ?_
      refine rg_sto (nw := [(103, .bx 107 ((ePo (((ix ((ix l.e k).posts) j))))))]) rfl (og rfl (of_eff (s_store rfl rfl ti107 rfl rfl rfl rfl rfl rfl) rfl)) ?_
      refine rg_done rfl ?_
      refine a_rseq ?_
      have hct := h.ct k (by omega) j (by omega)
      unfold fit at hct
      refine rg_put (d := 24) (v := .pt 103 0) rfl (og rfl (of_eff (s_field_pt rfl Tryd.underlying107 rfl ti9 rfl rfl rfl) rfl)) ?_
      refine rg_put (d := 25) (v := .d (.fl (.string ((((ix ((ix l.e k).posts) j))).acc)))) rfl (og rfl (op_load_pt rfl Tryd.underlying9 rfl rfl rfl rfl rfl)) ?_
      refine rg_put (d := 26) (v := .d (.fl (.string b))) rfl (og rfl (op_move rfl rfl rfl)) ?_
      refine rg_put (d := 27) (v := .d (.fl (.bool ((sEq ((((ix ((ix l.e k).posts) j))).acc) b))))) rfl (og rfl (op_bin rfl rfl rfl (b_seq _ _ _) rfl)) ?_
      refine rg_done rfl ?_
      refine a_cond rfl (fun h5 => ?_) (fun h5 => ?_)
      · skip
        refine a_region ?_
        refine rg_put (d := 28) (v := .d (.fl (.int .i64 (((blE l.e b k) + (blP (ix l.e k).posts b j)))))) rfl (og rfl (op_move rfl rfl rfl)) ?_
        refine rg_put (d := 29) (v := .pt 103 1) rfl (og rfl (of_eff (s_field_pt rfl Tryd.underlying107 rfl ti3 rfl rfl rfl) rfl)) ?_
        refine rg_put (d := 30) (v := .d (.fl (.int .i64 ((((ix ((ix l.e k).posts) j))).cents)))) rfl (og rfl (op_load_pt rfl Tryd.underlying3 rfl rfl rfl rfl rfl)) ?_
        refine rg_put (d := 31) (v := .d (.fl (.int .i64 ((((blE l.e b k) + (blP (ix l.e k).posts b j)) + (((ix ((ix l.e k).posts) j))).cents))))) rfl (og rfl (op_bin rfl rfl rfl (fun x y w => b_add64 _ _ _ x y w (by omega)) rfl)) ?_
        refine rg_put (d := 5) (v := .d (.fl (.int .i64 ((((blE l.e b k) + (blP (ix l.e k).posts b j)) + (((ix ((ix l.e k).posts) j))).cents))))) rfl (og rfl (op_assign rfl rfl rfl)) ?_
        refine rg_done rfl ?_
        show A _ _ _ _ _ _ _
        refine a_region ?_
        refine rg_put (d := 32) (v := .d (.fl (.int .i64 (((j : Int) + 1))))) rfl (og rfl (op_bin rfl rfl rfl (fun x y w => b_add64 _ _ _ x y w (by omega)) rfl)) ?_
        refine rg_put (d := 20) (v := .d (.fl (.int .i64 (((j : Int) + 1))))) rfl (og rfl (op_move rfl rfl rfl)) ?_
        refine rg_done rfl ?_
        show ∃ i, _ ∧ _ ∧ Imp _ _ _ _ _
        refine ⟨j + 1, (by omega), by omega, imp_forget rfl ⟨rfl, rfl, rfl, rfl, rfl, rfl, rfl, rfl, rfl, rfl, rfl, (by first | rfl | exact ci (by omega) | exact ci (by simp) | exact cd (by simp) | simp), (congrArg (fun z => AV.d (.fl (.int .i64 z))) (bl_y h5)), trivial⟩ ⟨rfl, rfl, trivial⟩⟩
      · skip
        refine a_skip ?_
        show A _ _ _ _ _ _ _
        refine a_region ?_
        refine rg_put (d := 32) (v := .d (.fl (.int .i64 (((j : Int) + 1))))) rfl (og rfl (op_bin rfl rfl rfl (fun x y w => b_add64 _ _ _ x y w (by omega)) rfl)) ?_
        refine rg_put (d := 20) (v := .d (.fl (.int .i64 (((j : Int) + 1))))) rfl (og rfl (op_move rfl rfl rfl)) ?_
        refine rg_done rfl ?_
        show ∃ i, _ ∧ _ ∧ Imp _ _ _ _ _
        refine ⟨j + 1, (by omega), by omega, imp_forget rfl ⟨rfl, rfl, rfl, rfl, rfl, rfl, rfl, rfl, rfl, rfl, rfl, (by first | rfl | exact ci (by omega) | exact ci (by simp) | exact cd (by simp) | simp), (congrArg (fun z => AV.d (.fl (.int .i64 z))) (bl_n h5)), trivial⟩ ⟨rfl, rfl, trivial⟩⟩
    · skip
      have h6 := f_dec h3
      refine a_exit ?_
      show A _ _ _ _ _ _ _
      refine a_region ?_
      refine rg_put (d := 33) (v := .d (.fl (.int .i64 (((k : Int) + 1))))) rfl (og rfl (op_bin rfl rfl rfl (fun x y w => b_add64 _ _ _ x y w (by omega)) rfl)) ?_
      refine rg_put (d := 13) (v := .d (.fl (.int .i64 (((k : Int) + 1))))) rfl (og rfl (op_move rfl rfl rfl)) ?_
      refine rg_done rfl ?_
      show ∃ i, _ ∧ _ ∧ Imp _ _ _ _ _
      refine ⟨k + 1, (by omega), by omega, imp_forget rfl ⟨rfl, rfl, rfl, rfl, rfl, rfl, (by first | rfl | exact ci (by omega) | exact ci (by simp) | exact cd (by simp) | simp), (by rw [show j = (ix l.e k).posts.length by omega]; rfl), trivial⟩ ⟨rfl, trivial⟩⟩
  · skip
    have h7 := f_dec h1
    refine a_exit ?_
    show A _ _ _ _ _ _ _
    refine a_rseq ?_
    refine rg_put (d := 34) (v := .d (.fl (.int .i64 (blE l.e b k)))) rfl (og rfl (op_move rfl rfl rfl)) ?_
    refine rg_put (d := 4) (v := .d (.fl (.int .i64 (blE l.e b k)))) rfl (og rfl (op_assign rfl rfl rfl)) ?_
    refine rg_done rfl ?_
    refine a_ret ?_
    show ∃ ds, ResL _ _ _ ds ∧ RV.of ds = _
    refine ⟨[.fl (.int .i64 (blE l.e b k))], (.cons (.tmp rfl (.d _)) .nil), ?_⟩
    have hkl : k = l.e.length := by omega
    rw [hkl]; rfl
set_option maxHeartbeats 4000000 in
set_option maxRecDepth 100000 in
theorem bl44 (l : Lg) (b : ByteArray) (h : OkE l.e) : Ctr Tryd.prog 44 [.ag (eLg l), .fl (.string b)] (.d (.fl (.int .i64 (blE l.e b l.e.length)))) := by
  have hl0 := h.len
  refine ctr (n := 51) (rs := #[.tmp 4]) (L := [(0, .d (.ag (eLg l))), (1, .d (.fl (.string b)))]) Tryd.func44 rfl rfl rfl rfl rfl (fun w0 U0 => ?_)
  refine a_rseq ?_
  refine rg_nam (d := 2) (v := .pt 101 0) (m := 101) (nw := [(101, .bx 65 (eLg l))]) rfl (og rfl (of_eff (op_box 101 rfl rfl rfl rfl) rfl)) rfl ?_
  refine rg_put (d := 4) (v := .d (.fl (.int .i64 0))) rfl (og rfl (op_assign rfl rfl rfl)) ?_
  refine rg_done rfl ?_
  refine a_rseq ?_
  refine rg_put (d := 5) (v := .d (.fl (.int .i64 0))) rfl (og rfl (op_assign rfl rfl rfl)) ?_
  refine rg_done rfl ?_
  refine a_seq ?_
  refine a_rseq ?_
  refine rg_put (d := 6) (v := .d (.fl (.int .i64 0))) rfl (og rfl (op_assign rfl rfl rfl)) ?_
  refine rg_done rfl ?_
  refine a_block ?_
  refine a_loop (ι := Nat) (fun k => SS [(0, .d (.ag (eLg l))), (1, .d (.fl (.string b))), (2, .pt 101 0), (4, .d (.fl (.int .i64 0))), (6, .d (.fl (.int .i64 (k : Int)))), (5, .d (.fl (.int .i64 (blE l.e b k))))] [(101, .bx 65 (eLg l))]) (fun k => k ≤ l.e.length) (fun k => l.e.length - k) 0 (by omega) (imp_forget rfl ⟨rfl, rfl, rfl, rfl, (by first | rfl | exact ci (by omega) | exact ci (by simp) | exact cd (by simp) | simp), rfl, trivial⟩ ⟨rfl, trivial⟩) (fun k hok => ?_)
  have hk := hok
  have heb := en_bd h b k hk
  refine a_seq ?_
  refine a_rseq ?_
  refine rg_put (d := 8) (v := .d (.fl (.int .i64 (k : Int)))) rfl (og rfl (op_move rfl rfl rfl)) ?_
  refine rg_put (d := 9) (v := .pt 101 0) rfl (og rfl (of_eff (s_field_pt rfl Tryd.underlying65 rfl ti63 rfl rfl rfl) rfl)) ?_
  refine rg_put (d := 10) (v := .d (.sl 3 (List.map eEn l.e))) rfl (og rfl (op_load_pt rfl Tryd.underlying63 rfl rfl rfl rfl rfl)) ?_
  refine rg_put (d := 11) (v := .d (.fl (.int .i64 (l.e.length : Int)))) rfl (og rfl (s_len rfl Tryd.underlying63 rfl rfl)) ?_
  refine rg_put (d := 12) (v := .d (.fl (.bool ((decide ((k : Int) < (l.e.length : Int))))))) rfl (og rfl (op_bin rfl rfl rfl (b_lss _ _ _ _) rfl)) ?_
  refine rg_done rfl ?_
  refine a_cond rfl (fun h1 => ?_) (fun h1 => ?_)
  · skip
    have h2 := t_dec h1
    refine a_skip ?_
    show A _ _ _ _ _ _ _
    refine a_seq ?_
    refine a_block ?_
    refine a_rseq ?_
    refine rg_put (d := 7) (v := .d (.fl (.int .i64 0))) rfl (og rfl (op_assign rfl rfl rfl)) ?_
    refine rg_done rfl ?_
    refine a_block ?_
    refine a_loop (ι := Nat) (fun j => SS [(0, .d (.ag (eLg l))), (1, .d (.fl (.string b))), (2, .pt 101 0), (4, .d (.fl (.int .i64 0))), (6, .d (.fl (.int .i64 (k : Int)))), (12, .d (.fl (.bool ((decide ((k : Int) < (l.e.length : Int))))))), (7, .d (.fl (.int .i64 (j : Int)))), (5, .d (.fl (.int .i64 (((blE l.e b k) + (blP (ix l.e k).posts b j))))))] [(101, .bx 65 (eLg l))]) (fun j => j ≤ (ix l.e k).posts.length) (fun j => (ix l.e k).posts.length - j) 0 (by omega) (imp_forget rfl ⟨rfl, rfl, rfl, rfl, rfl, rfl, (by first | rfl | exact ci (by omega) | exact ci (by simp) | exact cd (by simp) | simp), (congrArg (fun z => AV.d (.fl (.int .i64 z))) (Int.add_zero _).symm), trivial⟩ ⟨rfl, trivial⟩) (fun j hok => ?_)
    have hj := hok
    have hpl := h.ps k (by omega)
    have hpb := pd_bd (h.ct k (by omega)) b j hj
    refine a_seq ?_
    refine a_rseq ?_
    refine rg_put (d := 15) (v := .d (.fl (.int .i64 (j : Int)))) rfl (og rfl (op_move rfl rfl rfl)) ?_
    refine rg_put (d := 16) (v := .pt 101 0) rfl (og rfl (of_eff (s_field_pt rfl Tryd.underlying65 rfl ti63 rfl rfl rfl) rfl)) ?_
    refine rg_put (d := 17) (v := .d (.sl 3 (List.map eEn l.e))) rfl (og rfl (op_load_pt rfl Tryd.underlying63 rfl rfl rfl rfl rfl)) ?_
    refine rg_put (d := 18) (v := .d (.fl (.int .i64 (k : Int)))) rfl (og rfl (op_move rfl rfl rfl)) ?_
    refine rg_put (d := 19) (v := .el ((eEn (ix l.e k)))) rfl (og rfl (s_index rfl Tryd.underlying63 ti105 rfl rfl (by omega) (row_at (by omega)) rfl)) ?_
    refine rg_put (d := 20) (v := .el ((List.drop 2 ((eEn (ix l.e k)))))) rfl (og rfl (of_eff (s_field_el rfl Tryd.underlying105 rfl ti103 rfl rfl rfl) rfl)) ?_
    refine rg_put (d := 21) (v := .d (.sl 2 (List.map ePo ((ix l.e k).posts)))) rfl (og rfl (op_load_el rfl Tryd.underlying103 rfl rfl rfl rfl)) ?_
    refine rg_put (d := 22) (v := .d (.fl (.int .i64 ((((ix l.e k).posts).length : Int))))) rfl (og rfl (s_len rfl Tryd.underlying103 rfl rfl)) ?_
    refine rg_put (d := 23) (v := .d (.fl (.bool ((decide ((j : Int) < (((ix l.e k).posts).length : Int))))))) rfl (og rfl (op_bin rfl rfl rfl (b_lss _ _ _ _) rfl)) ?_
    refine rg_done rfl ?_
    refine a_cond rfl (fun h3 => ?_) (fun h3 => ?_)
    · skip
      have h4 := t_dec h3
      refine a_skip ?_
      show A _ _ _ _ _ _ _
      refine a_seq ?_
      refine a_block ?_
      refine a_rseq ?_
      have hct := h.ct k (by omega) j (by omega)
      unfold fit at hct
      refine rg_put (d := 26) (v := .pt 101 0) rfl (og rfl (of_eff (s_field_pt rfl Tryd.underlying65 rfl ti63 rfl rfl rfl) rfl)) ?_
      refine rg_put (d := 27) (v := .d (.sl 3 (List.map eEn l.e))) rfl (og rfl (op_load_pt rfl Tryd.underlying63 rfl rfl rfl rfl rfl)) ?_
      refine rg_put (d := 28) (v := .d (.fl (.int .i64 (k : Int)))) rfl (og rfl (op_move rfl rfl rfl)) ?_
      refine rg_put (d := 29) (v := .el ((eEn (ix l.e k)))) rfl (og rfl (s_index rfl Tryd.underlying63 ti105 rfl rfl (by omega) (row_at (by omega)) rfl)) ?_
      refine rg_put (d := 30) (v := .el ((List.drop 2 ((eEn (ix l.e k)))))) rfl (og rfl (of_eff (s_field_el rfl Tryd.underlying105 rfl ti103 rfl rfl rfl) rfl)) ?_
      refine rg_put (d := 31) (v := .d (.sl 2 (List.map ePo ((ix l.e k).posts)))) rfl (og rfl (op_load_el rfl Tryd.underlying103 rfl rfl rfl rfl)) ?_
      refine rg_put (d := 32) (v := .d (.fl (.int .i64 (j : Int)))) rfl (og rfl (op_move rfl rfl rfl)) ?_
      refine rg_put (d := 33) (v := .el ((ePo ((ix ((ix l.e k).posts) j))))) rfl (og rfl (s_index rfl Tryd.underlying103 ti107 rfl rfl (by omega) (row_at (by omega)) rfl)) ?_
      refine rg_put (d := 34) (v := .el ((List.drop 0 ((ePo ((ix ((ix l.e k).posts) j))))))) rfl (og rfl (of_eff (s_field_el rfl Tryd.underlying107 rfl ti9 rfl rfl rfl) rfl)) ?_
      refine rg_put (d := 35) (v := .d (.fl (.string (((ix ((ix l.e k).posts) j)).acc)))) rfl (og rfl (op_load_el rfl Tryd.underlying9 rfl rfl rfl rfl)) ?_
      refine rg_put (d := 36) (v := .d (.fl (.string b))) rfl (og rfl (op_move rfl rfl rfl)) ?_
      refine rg_put (d := 37) (v := .d (.fl (.bool ((sEq (((ix ((ix l.e k).posts) j)).acc) b))))) rfl (og rfl (op_bin rfl rfl rfl (b_seq _ _ _) rfl)) ?_
      refine rg_done rfl ?_
      refine a_cond rfl (fun h5 => ?_) (fun h5 => ?_)
      · skip
        refine a_region ?_
        refine rg_put (d := 38) (v := .d (.fl (.int .i64 (((blE l.e b k) + (blP (ix l.e k).posts b j)))))) rfl (og rfl (op_move rfl rfl rfl)) ?_
        refine rg_put (d := 39) (v := .pt 101 0) rfl (og rfl (of_eff (s_field_pt rfl Tryd.underlying65 rfl ti63 rfl rfl rfl) rfl)) ?_
        refine rg_put (d := 40) (v := .d (.sl 3 (List.map eEn l.e))) rfl (og rfl (op_load_pt rfl Tryd.underlying63 rfl rfl rfl rfl rfl)) ?_
        refine rg_put (d := 41) (v := .d (.fl (.int .i64 (k : Int)))) rfl (og rfl (op_move rfl rfl rfl)) ?_
        refine rg_put (d := 42) (v := .el ((eEn (ix l.e k)))) rfl (og rfl (s_index rfl Tryd.underlying63 ti105 rfl rfl (by omega) (row_at (by omega)) rfl)) ?_
        refine rg_put (d := 43) (v := .el ((List.drop 2 ((eEn (ix l.e k)))))) rfl (og rfl (of_eff (s_field_el rfl Tryd.underlying105 rfl ti103 rfl rfl rfl) rfl)) ?_
        refine rg_put (d := 44) (v := .d (.sl 2 (List.map ePo ((ix l.e k).posts)))) rfl (og rfl (op_load_el rfl Tryd.underlying103 rfl rfl rfl rfl)) ?_
        refine rg_put (d := 45) (v := .d (.fl (.int .i64 (j : Int)))) rfl (og rfl (op_move rfl rfl rfl)) ?_
        refine rg_put (d := 46) (v := .el ((ePo ((ix ((ix l.e k).posts) j))))) rfl (og rfl (s_index rfl Tryd.underlying103 ti107 rfl rfl (by omega) (row_at (by omega)) rfl)) ?_
        refine rg_put (d := 47) (v := .el ((List.drop 1 ((ePo ((ix ((ix l.e k).posts) j))))))) rfl (og rfl (of_eff (s_field_el rfl Tryd.underlying107 rfl ti3 rfl rfl rfl) rfl)) ?_
        refine rg_put (d := 48) (v := .d (.fl (.int .i64 (((ix ((ix l.e k).posts) j)).cents)))) rfl (og rfl (op_load_el rfl Tryd.underlying3 rfl rfl rfl rfl)) ?_
        refine rg_put (d := 49) (v := .d (.fl (.int .i64 ((((blE l.e b k) + (blP (ix l.e k).posts b j)) + ((ix ((ix l.e k).posts) j)).cents))))) rfl (og rfl (op_bin rfl rfl rfl (fun x y w => b_add64 _ _ _ x y w (by omega)) rfl)) ?_
        refine rg_put (d := 5) (v := .d (.fl (.int .i64 ((((blE l.e b k) + (blP (ix l.e k).posts b j)) + ((ix ((ix l.e k).posts) j)).cents))))) rfl (og rfl (op_assign rfl rfl rfl)) ?_
        refine rg_done rfl ?_
        show A _ _ _ _ _ _ _
        refine a_region ?_
        refine rg_put (d := 24) (v := .d (.fl (.int .i64 (j : Int)))) rfl (og rfl (op_move rfl rfl rfl)) ?_
        refine rg_put (d := 25) (v := .d (.fl (.int .i64 (((j : Int) + 1))))) rfl (og rfl (op_bin rfl rfl rfl (fun x y w => b_add64 _ _ _ x y w (by omega)) rfl)) ?_
        refine rg_put (d := 7) (v := .d (.fl (.int .i64 (((j : Int) + 1))))) rfl (og rfl (op_assign rfl rfl rfl)) ?_
        refine rg_done rfl ?_
        show ∃ i, _ ∧ _ ∧ Imp _ _ _ _ _
        refine ⟨j + 1, (by omega), by omega, imp_forget rfl ⟨rfl, rfl, rfl, rfl, rfl, rfl, (by first | rfl | exact ci (by omega) | exact ci (by simp) | exact cd (by simp) | simp), (congrArg (fun z => AV.d (.fl (.int .i64 z))) (bl_y h5)), trivial⟩ ⟨rfl, trivial⟩⟩
      · skip
        refine a_skip ?_
        show A _ _ _ _ _ _ _
        refine a_region ?_
        refine rg_put (d := 24) (v := .d (.fl (.int .i64 (j : Int)))) rfl (og rfl (op_move rfl rfl rfl)) ?_
        refine rg_put (d := 25) (v := .d (.fl (.int .i64 (((j : Int) + 1))))) rfl (og rfl (op_bin rfl rfl rfl (fun x y w => b_add64 _ _ _ x y w (by omega)) rfl)) ?_
        refine rg_put (d := 7) (v := .d (.fl (.int .i64 (((j : Int) + 1))))) rfl (og rfl (op_assign rfl rfl rfl)) ?_
        refine rg_done rfl ?_
        show ∃ i, _ ∧ _ ∧ Imp _ _ _ _ _
        refine ⟨j + 1, (by omega), by omega, imp_forget rfl ⟨rfl, rfl, rfl, rfl, rfl, rfl, (by first | rfl | exact ci (by omega) | exact ci (by simp) | exact cd (by simp) | simp), (congrArg (fun z => AV.d (.fl (.int .i64 z))) (bl_n h5)), trivial⟩ ⟨rfl, trivial⟩⟩
    · skip
      have h6 := f_dec h3
      refine a_exit ?_
      show A _ _ _ _ _ _ _
      refine a_region ?_
      refine rg_put (d := 13) (v := .d (.fl (.int .i64 (k : Int)))) rfl (og rfl (op_move rfl rfl rfl)) ?_
      refine rg_put (d := 14) (v := .d (.fl (.int .i64 (((k : Int) + 1))))) rfl (og rfl (op_bin rfl rfl rfl (fun x y w => b_add64 _ _ _ x y w (by omega)) rfl)) ?_
      refine rg_put (d := 6) (v := .d (.fl (.int .i64 (((k : Int) + 1))))) rfl (og rfl (op_assign rfl rfl rfl)) ?_
      refine rg_done rfl ?_
      show ∃ i, _ ∧ _ ∧ Imp _ _ _ _ _
      refine ⟨k + 1, (by omega), by omega, imp_forget rfl ⟨rfl, rfl, rfl, rfl, (by first | rfl | exact ci (by omega) | exact ci (by simp) | exact cd (by simp) | simp), (by rw [show j = (ix l.e k).posts.length by omega]; rfl), trivial⟩ ⟨rfl, trivial⟩⟩
  · skip
    have h7 := f_dec h1
    refine a_exit ?_
    show A _ _ _ _ _ _ _
    refine a_rseq ?_
    refine rg_put (d := 50) (v := .d (.fl (.int .i64 (blE l.e b k)))) rfl (og rfl (op_move rfl rfl rfl)) ?_
    refine rg_put (d := 4) (v := .d (.fl (.int .i64 (blE l.e b k)))) rfl (og rfl (op_assign rfl rfl rfl)) ?_
    refine rg_done rfl ?_
    refine a_ret ?_
    show ∃ ds, ResL _ _ _ ds ∧ RV.of ds = _
    refine ⟨[.fl (.int .i64 (blE l.e b k))], (.cons (.tmp rfl (.d _)) .nil), ?_⟩
    have hkl : k = l.e.length := by omega
    rw [hkl]; rfl
set_option maxHeartbeats 4000000 in
set_option maxRecDepth 100000 in
theorem kd_l (a : Ac) : Ctr Tryd.prog 40 [.ag (eAc a)] (.d (.fl (.string (kd a)))) := by
  refine ctr (n := 9) (rs := #[.tmp 2]) (L := [(0, .d (.ag (eAc a)))]) Tryd.func40 rfl rfl rfl rfl rfl (fun w0 U0 => ?_)
  refine a_rseq ?_
  refine rg_nam (d := 1) (v := .pt 101 0) (m := 101) (nw := [(101, .bx 115 (eAc a))]) rfl (og rfl (of_eff (op_box 101 rfl rfl rfl rfl) rfl)) rfl ?_
  refine rg_put (d := 2) (v := .d (.fl (.string (⟨#[]⟩)))) rfl (og rfl (op_assign rfl rfl rfl)) ?_
  refine rg_done rfl ?_
  refine a_seq ?_
  refine a_block ?_
  refine a_rseq ?_
  refine rg_put (d := 4) (v := .pt 101 8) rfl (og rfl (of_eff (s_field_pt rfl Tryd.underlying115 rfl ti4 rfl rfl rfl) rfl)) ?_
  refine rg_put (d := 5) (v := .d (.fl (.bool a.exempt))) rfl (og rfl (op_load_pt rfl Tryd.underlying4 rfl rfl rfl rfl rfl)) ?_
  refine rg_put (d := 3) (v := .d (.fl (.bool a.exempt))) rfl (og rfl (op_assign rfl rfl rfl)) ?_
  refine rg_done rfl ?_
  refine a_cond rfl (fun h1 => ?_) (fun h1 => ?_)
  · skip
    refine a_rseq ?_
    refine rg_put (d := 2) (v := .d (.fl (.string (⟨#[101, 120, 101, 109, 112, 116]⟩)))) rfl (og rfl (op_assign rfl rfl rfl)) ?_
    refine rg_done rfl ?_
    refine a_ret ?_
    show ∃ ds, ResL _ _ _ ds ∧ RV.of ds = _
    refine ⟨[.fl (.string (⟨#[101, 120, 101, 109, 112, 116]⟩))], (.cons (.tmp rfl (.d _)) .nil), ?_⟩
    have hu : kd a = ⟨#[101, 120, 101, 109, 112, 116]⟩ := if_pos h1
    rw [hu]; rfl
  · skip
    refine a_rseq ?_
    refine rg_put (d := 7) (v := .pt 101 2) rfl (og rfl (of_eff (s_field_pt rfl Tryd.underlying115 rfl ti4 rfl rfl rfl) rfl)) ?_
    refine rg_put (d := 8) (v := .d (.fl (.bool a.prepay))) rfl (og rfl (op_load_pt rfl Tryd.underlying4 rfl rfl rfl rfl rfl)) ?_
    refine rg_put (d := 6) (v := .d (.fl (.bool a.prepay))) rfl (og rfl (op_assign rfl rfl rfl)) ?_
    refine rg_done rfl ?_
    refine a_cond rfl (fun h2 => ?_) (fun h2 => ?_)
    · skip
      refine a_rseq ?_
      refine rg_put (d := 2) (v := .d (.fl (.string (⟨#[112, 114, 101, 112, 97, 121]⟩)))) rfl (og rfl (op_assign rfl rfl rfl)) ?_
      refine rg_done rfl ?_
      refine a_ret ?_
      show ∃ ds, ResL _ _ _ ds ∧ RV.of ds = _
      refine ⟨[.fl (.string (⟨#[112, 114, 101, 112, 97, 121]⟩))], (.cons (.tmp rfl (.d _)) .nil), ?_⟩
      have hu : kd a = ⟨#[112, 114, 101, 112, 97, 121]⟩ := (if_neg (by rw [h1]; decide)).trans (if_pos h2)
      rw [hu]; rfl
    · skip
      refine a_skip ?_
      show A _ _ _ _ _ _ _
      refine a_rseq ?_
      refine rg_put (d := 2) (v := .d (.fl (.string (⟨#[112, 111, 115, 116, 112, 97, 121]⟩)))) rfl (og rfl (op_assign rfl rfl rfl)) ?_
      refine rg_done rfl ?_
      refine a_ret ?_
      show ∃ ds, ResL _ _ _ ds ∧ RV.of ds = _
      refine ⟨[.fl (.string (⟨#[112, 111, 115, 116, 112, 97, 121]⟩))], (.cons (.tmp rfl (.d _)) .nil), ?_⟩
      have hu : kd a = ⟨#[112, 111, 115, 116, 112, 97, 121]⟩ := (if_neg (by rw [h1]; decide)).trans (if_neg (by rw [h2]; decide))
      rw [hu]; rfl
set_option maxHeartbeats 4000000 in
set_option maxRecDepth 100000 in
theorem kd_r (a : Ac) : Ctr Tryd.prog 43 [.ag (eAc a)] (.d (.fl (.string (kd a)))) := by
  refine ctr (n := 7) (rs := #[.tmp 2]) (L := [(0, .d (.ag (eAc a)))]) Tryd.func43 rfl rfl rfl rfl rfl (fun w0 U0 => ?_)
  refine a_rseq ?_
  refine rg_nam (d := 1) (v := .pt 101 0) (m := 101) (nw := [(101, .bx 115 (eAc a))]) rfl (og rfl (of_eff (op_box 101 rfl rfl rfl rfl) rfl)) rfl ?_
  refine rg_put (d := 2) (v := .d (.fl (.string (⟨#[]⟩)))) rfl (og rfl (op_assign rfl rfl rfl)) ?_
  refine rg_done rfl ?_
  refine a_seq ?_
  refine a_rseq ?_
  refine rg_put (d := 3) (v := .pt 101 8) rfl (og rfl (of_eff (s_field_pt rfl Tryd.underlying115 rfl ti4 rfl rfl rfl) rfl)) ?_
  refine rg_put (d := 4) (v := .d (.fl (.bool a.exempt))) rfl (og rfl (op_load_pt rfl Tryd.underlying4 rfl rfl rfl rfl rfl)) ?_
  refine rg_done rfl ?_
  refine a_cond rfl (fun h1 => ?_) (fun h1 => ?_)
  · skip
    refine a_rseq ?_
    refine rg_put (d := 2) (v := .d (.fl (.string (⟨#[101, 120, 101, 109, 112, 116]⟩)))) rfl (og rfl (op_assign rfl rfl rfl)) ?_
    refine rg_done rfl ?_
    refine a_ret ?_
    show ∃ ds, ResL _ _ _ ds ∧ RV.of ds = _
    refine ⟨[.fl (.string (⟨#[101, 120, 101, 109, 112, 116]⟩))], (.cons (.tmp rfl (.d _)) .nil), ?_⟩
    have hu : kd a = ⟨#[101, 120, 101, 109, 112, 116]⟩ := if_pos h1
    rw [hu]; rfl
  · skip
    refine a_skip ?_
    show A _ _ _ _ _ _ _
    refine a_seq ?_
    refine a_rseq ?_
    refine rg_put (d := 5) (v := .pt 101 2) rfl (og rfl (of_eff (s_field_pt rfl Tryd.underlying115 rfl ti4 rfl rfl rfl) rfl)) ?_
    refine rg_put (d := 6) (v := .d (.fl (.bool a.prepay))) rfl (og rfl (op_load_pt rfl Tryd.underlying4 rfl rfl rfl rfl rfl)) ?_
    refine rg_done rfl ?_
    refine a_cond rfl (fun h2 => ?_) (fun h2 => ?_)
    · skip
      refine a_rseq ?_
      refine rg_put (d := 2) (v := .d (.fl (.string (⟨#[112, 114, 101, 112, 97, 121]⟩)))) rfl (og rfl (op_assign rfl rfl rfl)) ?_
      refine rg_done rfl ?_
      refine a_ret ?_
      show ∃ ds, ResL _ _ _ ds ∧ RV.of ds = _
      refine ⟨[.fl (.string (⟨#[112, 114, 101, 112, 97, 121]⟩))], (.cons (.tmp rfl (.d _)) .nil), ?_⟩
      have hu : kd a = ⟨#[112, 114, 101, 112, 97, 121]⟩ := (if_neg (by rw [h1]; decide)).trans (if_pos h2)
      rw [hu]; rfl
    · skip
      refine a_skip ?_
      show A _ _ _ _ _ _ _
      refine a_rseq ?_
      refine rg_put (d := 2) (v := .d (.fl (.string (⟨#[112, 111, 115, 116, 112, 97, 121]⟩)))) rfl (og rfl (op_assign rfl rfl rfl)) ?_
      refine rg_done rfl ?_
      refine a_ret ?_
      show ∃ ds, ResL _ _ _ ds ∧ RV.of ds = _
      refine ⟨[.fl (.string (⟨#[112, 111, 115, 116, 112, 97, 121]⟩))], (.cons (.tmp rfl (.d _)) .nil), ?_⟩
      have hu : kd a = ⟨#[112, 111, 115, 116, 112, 97, 121]⟩ := (if_neg (by rw [h1]; decide)).trans (if_neg (by rw [h2]; decide))
      rw [hu]; rfl
end Go.Proofs.YtglhonnmppclpaaDoor.Wk
