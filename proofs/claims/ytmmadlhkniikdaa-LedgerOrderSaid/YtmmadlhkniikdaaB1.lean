/- The check of an entry, both sides. No condition. -/
import Derived.Test.YtmmadlhkniikdaaTy
set_option linter.unusedSimpArgs false
set_option linter.unusedVariables false
namespace Go.Proofs.Ytmmadlhkniikdaa.Wk
open Go Go.RowKit Go.Proofs.Ytmmadlhkniikdaa.Av
theorem ne_self_b (a : Int) : (a != a) = false := by simp
theorem sEq_eq {a b : ByteArray} (h : sEq a b = true) : a = b := of_decide_eq_true h
theorem sEq_of {a b : ByteArray} (h : a = b) : sEq a b = true := decide_eq_true h
theorem nb {b : Bool} (h : ¬ b = true) : b = false := by cases b <;> simp at h ⊢
theorem nnb {b : Bool} (h : ¬ (!b) = true) : b = true := by cases b <;> simp at h ⊢

theorem ix_eq {α : Type} [Inhabited α] {l : List α} {i : Nat} (h : i < l.length) : l[i] = ix l i := by
  have := ix_get h
  rw [List.getElem?_eq_getElem h] at this
  injection this
theorem ix_mem {α : Type} [Inhabited α] {l : List α} {k : Nat} (h : k < l.length) : ix l k ∈ l := by rw [← ix_eq h]; exact List.getElem_mem h
theorem mem_ix {α : Type} [Inhabited α] {l : List α} {x : α} (h : x ∈ l) : ∃ k, k < l.length ∧ ix l k = x := by
  obtain ⟨j, hj, he⟩ := List.mem_iff_getElem.1 h
  exact ⟨j, hj, by rw [← ix_eq hj]; exact he⟩
theorem fnd_no {α : Type} [Inhabited α] {p : α → Bool} {l : List α} (h : ∀ q, q < l.length → p (ix l q) = false) : l.find? p = none := by
  rw [List.find?_eq_none]
  intro x hx
  obtain ⟨k, hk, he⟩ := mem_ix hx
  rw [← he, h k hk]; simp
theorem fnd_at {α : Type} [Inhabited α] {p : α → Bool} {l : List α} {k : Nat} (hk : k < l.length) (h : ∀ q, q < k → p (ix l q) = false) (hp : p (ix l k) = true) : l.find? p = some (ix l k) := by
  rw [List.find?_eq_some_iff_getElem]
  refine ⟨hp, k, hk, ix_eq hk, fun j hj => ?_⟩
  rw [ix_eq (by omega), h j hj]; rfl
theorem any_at {α : Type} [Inhabited α] {p : α → Bool} {l : List α} {k : Nat} (hk : k < l.length) (hp : p (ix l k) = true) : l.any p = true := by
  rw [List.any_eq_true]; exact ⟨_, ix_mem hk, hp⟩
theorem any_no {α : Type} [Inhabited α] {p : α → Bool} {l : List α} (h : ∀ q, q < l.length → p (ix l q) = false) : l.any p = false := by
  rw [List.any_eq_false]
  intro x hx
  obtain ⟨k, hk, he⟩ := mem_ix hx
  rw [← he, h k hk]; simp
theorem all_no {α : Type} [Inhabited α] {p : α → Bool} {l : List α} {k : Nat} (hk : k < l.length) (h : p (ix l k) = false) : l.all p = false := by
  rw [List.all_eq_false]; exact ⟨_, ix_mem hk, by rw [h]; simp⟩
theorem all_yes {α : Type} [Inhabited α] {p : α → Bool} {l : List α} (h : ∀ q, q < l.length → p (ix l q) = true) : l.all p = true := by
  rw [List.all_eq_true]
  intro x hx
  obtain ⟨k, hk, he⟩ := mem_ix hx
  rw [← he]; exact h k hk
def fe (f : Nat → Int) : Nat → Nat → Int
  | _, 0 => 0
  | i, n + 1 => if f i = 0 then fe f (i + 1) n else f i
theorem fe_at {f : Nat → Int} {k n : Nat} (h : k < n) : fe f k (n - k) = if f k = 0 then fe f (k + 1) (n - (k + 1)) else f k := by
  rw [show n - k = (n - (k + 1)) + 1 by omega]; rfl
theorem fe_end {f : Nat → Int} {k n : Nat} (h : ¬ k < n) : fe f k (n - k) = 0 := by
  rw [show n - k = 0 by omega]; rfl
theorem fe_no {f : Nat → Int} {k n : Nat} {c : Int} (h : k < n) (hc : c = fe f k (n - k)) (hb : f k = 0) : c = fe f (k + 1) (n - (k + 1)) := by rw [hc, fe_at h, if_pos hb]
theorem fe_yes {f : Nat → Int} {k n : Nat} {c e : Int} (h : k < n) (hc : c = fe f k (n - k)) (hb : f k = e) (he : e ≠ 0) : c = e := by rw [hc, fe_at h, hb, if_neg he]
def cF (x : Int) : Bool := decide (33 ≤ x) && decide (x ≤ 126)
theorem cF_no {x : Int} (h : x ≤ 32 ∨ 126 < x) : cF x = false := by simp only [cF, Bool.and_eq_false_iff, decide_eq_false_iff_not]; omega
theorem cF_yes {x : Int} (h : 33 ≤ x ∧ x ≤ 126) : cF x = true := by simp [cF]; omega
def Fldp (s : ByteArray) : Prop := ∀ q, q < s.size → cF ((bt s q).toNat : Int) = true
noncomputable def fldB (s : ByteArray) : Bool := (by classical exact decide (Fldp s)) && !(sEq s ⟨#[]⟩)
theorem fld_no {s : ByteArray} {k : Nat} (hk : k < s.size) (h : cF ((bt s k).toNat : Int) = false) : fldB s = false := by
  unfold fldB
  rw [@decide_eq_false _ (Classical.propDecidable _) (fun hp : Fldp s => by have := hp k hk; rw [h] at this; cases this)]; rfl
theorem fld_yes {s : ByteArray} (h : ∀ q, q < s.size → cF ((bt s q).toNat : Int) = true) : fldB s = !(sEq s ⟨#[]⟩) := by
  unfold fldB
  rw [@decide_eq_true _ (Classical.propDecidable _) (show Fldp s from h)]; rfl
def fit (n : Int) : Bool := decide (-1125899906842624 ≤ n) && decide (n ≤ 1125899906842624)
theorem fit_t {n : Int} (h : fit n = true) : -1125899906842624 ≤ n ∧ n ≤ 1125899906842624 := by simpa [fit] using h
noncomputable def po1 (l : List Po) (k : Nat) : Int := if fldB (ix l k).acc = false then 5 else if (ix l k).cents = 0 then 14 else if fit (ix l k).cents = false then 13 else 0
noncomputable def poE (l : List Po) : Int := fe (po1 l) 0 l.length
theorem po_f {l : List Po} {k : Nat} (h : fldB (ix l k).acc = false) : po1 l k = 5 := by unfold po1; rw [if_pos h]
theorem po_z {l : List Po} {k : Nat} (h : fldB (ix l k).acc = true) (h2 : (ix l k).cents = 0) : po1 l k = 14 := by unfold po1; rw [if_neg (by rw [h]; decide), if_pos h2]
theorem po_m {l : List Po} {k : Nat} (h : fldB (ix l k).acc = true) (h2 : (ix l k).cents ≠ 0) (h3 : fit (ix l k).cents = false) : po1 l k = 13 := by unfold po1; rw [if_neg (by rw [h]; decide), if_neg h2, if_pos h3]
theorem po_0 {l : List Po} {k : Nat} (h : fldB (ix l k).acc = true) (h2 : (ix l k).cents ≠ 0) (h3 : fit (ix l k).cents = true) : po1 l k = 0 := by unfold po1; rw [if_neg (by rw [h]; decide), if_neg h2, if_neg (by rw [h3]; decide)]
def sm (l : List Po) : Nat → Int
  | 0 => 0
  | k + 1 => sm l k + (ix l k).cents
noncomputable def lck (e : En) : Int := if fldB e.key = false then 5 else if e.time < 0 ∨ 68719476736 < e.time then 12 else if e.posts.length = 0 then 1 else if 1024 < e.posts.length then 3 else if poE e.posts ≠ 0 then poE e.posts else if sm e.posts e.posts.length ≠ 0 then 26 else 0
def sml (e : En) : Bool := !(decide (40 < (e.posts.length : Int)) || decide (100 < (e.key.size : Int))) && !(e.posts.any fun p => decide (100 < (p.acc.size : Int)))
theorem sml_0 {e : En} (h : (decide (40 < (e.posts.length : Int)) || decide (100 < (e.key.size : Int))) = true) : sml e = false := by unfold sml; rw [h]; rfl
theorem sml_k {e : En} {k : Nat} (hk : k < e.posts.length) (h : decide (100 < ((ix e.posts k).acc.size : Int)) = true) : sml e = false := by unfold sml; rw [any_at (p := fun p : Po => decide (100 < (p.acc.size : Int))) hk h, Bool.not_true, Bool.and_false]
theorem sml_y {e : En} (h : (decide (40 < (e.posts.length : Int)) || decide (100 < (e.key.size : Int))) = false) (hq : ∀ q, q < e.posts.length → decide (100 < ((ix e.posts q).acc.size : Int)) = false) : sml e = true := by unfold sml; rw [h, any_no (p := fun p : Po => decide (100 < (p.acc.size : Int))) hq]; rfl
theorem sml_t {e : En} (h : sml e = true) : e.posts.length ≤ 40 ∧ e.key.size ≤ 100 ∧ ∀ p ∈ e.posts, p.acc.size ≤ 100 := by
  unfold sml at h
  simp only [Bool.and_eq_true, Bool.not_eq_true', Bool.or_eq_false_iff, decide_eq_false_iff_not, List.any_eq_false, decide_eq_true_eq] at h
  exact ⟨by omega, by omega, fun p hp => by have := h.2 p hp; omega⟩

set_option maxHeartbeats 4000000 in
set_option maxRecDepth 100000 in
theorem fld32 (s : ByteArray) (hs : s.size ≤ 1000000) : Ctr Try.prog 32 [.fl (.string s)] (.d (.fl (.bool (fldB s)))) := by
  refine ctr (n := 22) (rs := #[.tmp 2]) (L := [(0, .d (.fl (.string s)))]) Try.func32 rfl rfl rfl rfl rfl (fun w0 U0 => ?_)
  refine a_rseq ?_
  refine rg_put (d := 2) (v := .d (.fl (.bool false))) rfl (og rfl (op_assign rfl rfl rfl)) ?_
  refine rg_done rfl ?_
  refine a_seq ?_
  refine a_rseq ?_
  refine rg_put (d := 4) (v := .d (.fl (.string s))) rfl (og rfl (op_move rfl rfl rfl)) ?_
  refine rg_put (d := 5) (v := .d (.fl (.int .i64 (s.size : Int)))) rfl (og rfl (op_len_str rfl Try.underlying9 rfl rfl)) ?_
  refine rg_put (d := 6) (v := .d (.fl (.int .i64 0))) rfl (og rfl (op_move rfl rfl rfl)) ?_
  refine rg_done rfl ?_
  refine a_block ?_
  refine a_loop (ι := Nat) (fun k => SS [(0, .d (.fl (.string s))), (5, .d (.fl (.int .i64 (s.size : Int)))), (6, .d (.fl (.int .i64 (k : Int))))] []) (fun k => k ≤ s.size ∧ ∀ q, q < k → (cF ((bt s q).toNat : Int)) = true) (fun k => s.size - k) 0 (⟨by omega, fun q h => by omega⟩) (imp_forget rfl ⟨rfl, rfl, (by first | rfl | exact ci (by omega) | exact ci (by simp) | exact cd (by simp) | simp), trivial⟩ trivial) (fun k hok => ?_)
  obtain ⟨hkk, hq⟩ := hok
  refine a_rseq ?_
  refine rg_put (d := 7) (v := .d (.fl (.bool ((decide ((k : Int) < (s.size : Int))))))) rfl (og rfl (op_bin rfl rfl rfl (b_lss _ _ _ _) rfl)) ?_
  refine rg_done rfl ?_
  refine a_seq ?_
  refine a_cond rfl (fun h1 => ?_) (fun h1 => ?_)
  · skip
    have h2 := t_dec h1
    refine a_skip ?_
    show A _ _ _ _ _ _ _
    refine a_seq ?_
    refine a_block ?_
    refine a_rseq ?_
    refine rg_put (d := 8) (v := .d (.fl (.int .i64 (k : Int)))) rfl (og rfl (op_move rfl rfl rfl)) ?_
    refine rg_put (d := 3) (v := .d (.fl (.int .i64 (k : Int)))) rfl (og rfl (op_assign rfl rfl rfl)) ?_
    refine rg_done rfl ?_
    refine a_rseq ?_
    refine rg_put (d := 9) (v := .d (.fl (.string s))) rfl (og rfl (op_move rfl rfl rfl)) ?_
    refine rg_put (d := 10) (v := .d (.fl (.int .i64 (k : Int)))) rfl (og rfl (op_move rfl rfl rfl)) ?_
    refine rg_put (d := 11) (v := .d (.fl (.int .u8 (((bt s k).toNat : Int))))) rfl (og rfl (op_strindex rfl Try.underlying9 rfl rfl (by omega) (byte_ix (by omega)) rfl)) ?_
    refine rg_put (d := 12) (v := .d (.fl (.bool ((decide (((bt s k).toNat : Int) ≤ 32)))))) rfl (og rfl (op_bin rfl rfl rfl (b_leq _ _ _ _) rfl)) ?_
    refine rg_put (d := 13) (v := .d (.fl (.bool ((decide (((bt s k).toNat : Int) ≤ 32)))))) rfl (og rfl (op_move rfl rfl rfl)) ?_
    rcases fot ((decide (((bt s k).toNat : Int) ≤ 32))) with h3 | h3
    · skip
      have h4 := f_dec h3
      refine rg_put (d := 14) (v := .d (.fl (.string s))) rfl (oy rfl rfl rfl h3 (op_move rfl rfl rfl)) ?_
      refine rg_put (d := 15) (v := .d (.fl (.int .i64 (k : Int)))) rfl (oy rfl rfl rfl h3 (op_move rfl rfl rfl)) ?_
      refine rg_put (d := 16) (v := .d (.fl (.int .u8 (((bt s k).toNat : Int))))) rfl (oy rfl rfl rfl h3 (op_strindex rfl Try.underlying9 rfl rfl (by omega) (byte_ix (by omega)) rfl)) ?_
      refine rg_put (d := 17) (v := .d (.fl (.bool ((decide (126 < ((bt s k).toNat : Int))))))) rfl (oy rfl rfl rfl h3 (op_bin rfl rfl rfl (b_gtr _ _ _ _) rfl)) ?_
      refine rg_put (d := 18) (v := .d (.fl (.bool ((decide (126 < ((bt s k).toNat : Int))))))) rfl (og rfl (op_pick rfl rfl (by rw [h3]; rfl) rfl)) ?_
      refine rg_done rfl ?_
      refine a_cond rfl (fun h5 => ?_) (fun h5 => ?_)
      · skip
        have h6 := t_dec h5
        refine a_rseq ?_
        refine rg_put (d := 2) (v := .d (.fl (.bool false))) rfl (og rfl (op_assign rfl rfl rfl)) ?_
        refine rg_done rfl ?_
        refine a_ret ?_
        show ∃ ds, ResL _ _ _ ds ∧ RV.of ds = _
        refine ⟨[.fl (.bool false)], (.cons (.tmp rfl (.d _)) .nil), ?_⟩
        rw [fld_no (k := k) (by omega) (cF_no (by omega))]; rfl
      · skip
        have h7 := f_dec h5
        refine a_skip ?_
        show A _ _ _ _ _ _ _
        refine a_region ?_
        refine rg_put (d := 19) (v := .d (.fl (.int .i64 (((k : Int) + 1))))) rfl (og rfl (op_bin rfl rfl rfl (fun x y w => b_add64 _ _ _ x y w (by omega)) rfl)) ?_
        refine rg_put (d := 6) (v := .d (.fl (.int .i64 (((k : Int) + 1))))) rfl (og rfl (op_move rfl rfl rfl)) ?_
        refine rg_done rfl ?_
        have hx : cF ((bt s k).toNat : Int) = true := cF_yes (by omega)
        show ∃ i, _ ∧ _ ∧ Imp _ _ _ _ _
        refine ⟨k + 1, ⟨by omega, fun q h => (Nat.lt_succ_iff_lt_or_eq.1 h).elim (hq q) (fun e => by rw [e]; exact hx)⟩, by omega, imp_forget rfl ⟨rfl, rfl, (by first | rfl | exact ci (by omega) | exact ci (by simp) | exact cd (by simp) | simp), trivial⟩ trivial⟩
    · skip
      have h8 := t_dec h3
      refine rg_put (d := 14) (v := .d (.fl undef)) rfl (on rfl rfl rfl h3) ?_
      refine rg_put (d := 15) (v := .d (.fl undef)) rfl (on rfl rfl rfl h3) ?_
      refine rg_put (d := 16) (v := .d (.fl undef)) rfl (on rfl rfl rfl h3) ?_
      refine rg_put (d := 17) (v := .d (.fl undef)) rfl (on rfl rfl rfl h3) ?_
      refine rg_put (d := 18) (v := .d (.fl (.bool true))) rfl (og rfl (op_pick rfl rfl (by rw [h3]; rfl) rfl)) ?_
      refine rg_done rfl ?_
      refine a_condK rfl rfl ?_
      refine a_rseq ?_
      refine rg_put (d := 2) (v := .d (.fl (.bool false))) rfl (og rfl (op_assign rfl rfl rfl)) ?_
      refine rg_done rfl ?_
      refine a_ret ?_
      show ∃ ds, ResL _ _ _ ds ∧ RV.of ds = _
      refine ⟨[.fl (.bool false)], (.cons (.tmp rfl (.d _)) .nil), ?_⟩
      rw [fld_no (k := k) (by omega) (cF_no (by omega))]; rfl
  · skip
    have h9 := f_dec h1
    refine a_exit ?_
    show A _ _ _ _ _ _ _
    refine a_rseq ?_
    refine rg_put (d := 20) (v := .d (.fl (.string s))) rfl (og rfl (op_move rfl rfl rfl)) ?_
    refine rg_put (d := 21) (v := .d (.fl (.bool ((!(sEq s (⟨#[]⟩))))))) rfl (og rfl (op_bin rfl rfl rfl (b_sne _ _ _) rfl)) ?_
    refine rg_put (d := 2) (v := .d (.fl (.bool ((!(sEq s (⟨#[]⟩))))))) rfl (og rfl (op_assign rfl rfl rfl)) ?_
    refine rg_done rfl ?_
    refine a_ret ?_
    show ∃ ds, ResL _ _ _ ds ∧ RV.of ds = _
    refine ⟨[.fl (.bool ((!(sEq s (⟨#[]⟩)))))], (.cons (.tmp rfl (.d _)) .nil), ?_⟩
    rw [fld_yes (fun q h => hq q (by omega))]; rfl
set_option maxHeartbeats 4000000 in
set_option maxRecDepth 100000 in
theorem fld34 (s : ByteArray) (hs : s.size ≤ 1000000) : Ctr Try.prog 34 [.fl (.string s)] (.d (.fl (.bool (fldB s)))) := by
  refine ctr (n := 22) (rs := #[.tmp 2]) (L := [(0, .d (.fl (.string s)))]) Try.func34 rfl rfl rfl rfl rfl (fun w0 U0 => ?_)
  refine a_rseq ?_
  refine rg_put (d := 2) (v := .d (.fl (.bool false))) rfl (og rfl (op_assign rfl rfl rfl)) ?_
  refine rg_done rfl ?_
  refine a_seq ?_
  refine a_rseq ?_
  refine rg_put (d := 3) (v := .d (.fl (.int .i64 0))) rfl (og rfl (op_assign rfl rfl rfl)) ?_
  refine rg_done rfl ?_
  refine a_block ?_
  refine a_loop (ι := Nat) (fun k => SS [(0, .d (.fl (.string s))), (3, .d (.fl (.int .i64 (k : Int))))] []) (fun k => k ≤ s.size ∧ ∀ q, q < k → (cF ((bt s q).toNat : Int)) = true) (fun k => s.size - k) 0 (⟨by omega, fun q h => by omega⟩) (imp_forget rfl ⟨rfl, (by first | rfl | exact ci (by omega) | exact ci (by simp) | exact cd (by simp) | simp), trivial⟩ trivial) (fun k hok => ?_)
  obtain ⟨hkk, hq⟩ := hok
  refine a_seq ?_
  refine a_rseq ?_
  refine rg_put (d := 4) (v := .d (.fl (.int .i64 (k : Int)))) rfl (og rfl (op_move rfl rfl rfl)) ?_
  refine rg_put (d := 5) (v := .d (.fl (.string s))) rfl (og rfl (op_move rfl rfl rfl)) ?_
  refine rg_put (d := 6) (v := .d (.fl (.int .i64 (s.size : Int)))) rfl (og rfl (op_len_str rfl Try.underlying9 rfl rfl)) ?_
  refine rg_put (d := 7) (v := .d (.fl (.bool ((decide ((k : Int) < (s.size : Int))))))) rfl (og rfl (op_bin rfl rfl rfl (b_lss _ _ _ _) rfl)) ?_
  refine rg_done rfl ?_
  refine a_cond rfl (fun h1 => ?_) (fun h1 => ?_)
  · skip
    have h2 := t_dec h1
    refine a_skip ?_
    show A _ _ _ _ _ _ _
    refine a_seq ?_
    refine a_block ?_
    refine a_rseq ?_
    refine rg_put (d := 10) (v := .d (.fl (.string s))) rfl (og rfl (op_move rfl rfl rfl)) ?_
    refine rg_put (d := 11) (v := .d (.fl (.int .i64 (k : Int)))) rfl (og rfl (op_move rfl rfl rfl)) ?_
    refine rg_put (d := 12) (v := .d (.fl (.int .u8 (((bt s k).toNat : Int))))) rfl (og rfl (op_strindex rfl Try.underlying9 rfl rfl (by omega) (byte_ix (by omega)) rfl)) ?_
    refine rg_put (d := 13) (v := .d (.fl (.bool ((decide (((bt s k).toNat : Int) < 33)))))) rfl (og rfl (op_bin rfl rfl rfl (b_lss _ _ _ _) rfl)) ?_
    refine rg_put (d := 14) (v := .d (.fl (.bool ((decide (((bt s k).toNat : Int) < 33)))))) rfl (og rfl (op_move rfl rfl rfl)) ?_
    rcases fot ((decide (((bt s k).toNat : Int) < 33))) with h3 | h3
    · skip
      have h4 := f_dec h3
      refine rg_put (d := 15) (v := .d (.fl (.string s))) rfl (oy rfl rfl rfl h3 (op_move rfl rfl rfl)) ?_
      refine rg_put (d := 16) (v := .d (.fl (.int .i64 (k : Int)))) rfl (oy rfl rfl rfl h3 (op_move rfl rfl rfl)) ?_
      refine rg_put (d := 17) (v := .d (.fl (.int .u8 (((bt s k).toNat : Int))))) rfl (oy rfl rfl rfl h3 (op_strindex rfl Try.underlying9 rfl rfl (by omega) (byte_ix (by omega)) rfl)) ?_
      refine rg_put (d := 18) (v := .d (.fl (.bool ((decide (126 < ((bt s k).toNat : Int))))))) rfl (oy rfl rfl rfl h3 (op_bin rfl rfl rfl (b_gtr _ _ _ _) rfl)) ?_
      refine rg_put (d := 19) (v := .d (.fl (.bool ((decide (126 < ((bt s k).toNat : Int))))))) rfl (og rfl (op_pick rfl rfl (by rw [h3]; rfl) rfl)) ?_
      refine rg_done rfl ?_
      refine a_cond rfl (fun h5 => ?_) (fun h5 => ?_)
      · skip
        have h6 := t_dec h5
        refine a_rseq ?_
        refine rg_put (d := 2) (v := .d (.fl (.bool false))) rfl (og rfl (op_assign rfl rfl rfl)) ?_
        refine rg_done rfl ?_
        refine a_ret ?_
        show ∃ ds, ResL _ _ _ ds ∧ RV.of ds = _
        refine ⟨[.fl (.bool false)], (.cons (.tmp rfl (.d _)) .nil), ?_⟩
        rw [fld_no (k := k) (by omega) (cF_no (by omega))]; rfl
      · skip
        have h7 := f_dec h5
        refine a_skip ?_
        show A _ _ _ _ _ _ _
        refine a_region ?_
        refine rg_put (d := 8) (v := .d (.fl (.int .i64 (k : Int)))) rfl (og rfl (op_move rfl rfl rfl)) ?_
        refine rg_put (d := 9) (v := .d (.fl (.int .i64 (((k : Int) + 1))))) rfl (og rfl (op_bin rfl rfl rfl (fun x y w => b_add64 _ _ _ x y w (by omega)) rfl)) ?_
        refine rg_put (d := 3) (v := .d (.fl (.int .i64 (((k : Int) + 1))))) rfl (og rfl (op_assign rfl rfl rfl)) ?_
        refine rg_done rfl ?_
        have hx : cF ((bt s k).toNat : Int) = true := cF_yes (by omega)
        show ∃ i, _ ∧ _ ∧ Imp _ _ _ _ _
        refine ⟨k + 1, ⟨by omega, fun q h => (Nat.lt_succ_iff_lt_or_eq.1 h).elim (hq q) (fun e => by rw [e]; exact hx)⟩, by omega, imp_forget rfl ⟨rfl, (by first | rfl | exact ci (by omega) | exact ci (by simp) | exact cd (by simp) | simp), trivial⟩ trivial⟩
    · skip
      have h8 := t_dec h3
      refine rg_put (d := 15) (v := .d (.fl undef)) rfl (on rfl rfl rfl h3) ?_
      refine rg_put (d := 16) (v := .d (.fl undef)) rfl (on rfl rfl rfl h3) ?_
      refine rg_put (d := 17) (v := .d (.fl undef)) rfl (on rfl rfl rfl h3) ?_
      refine rg_put (d := 18) (v := .d (.fl undef)) rfl (on rfl rfl rfl h3) ?_
      refine rg_put (d := 19) (v := .d (.fl (.bool true))) rfl (og rfl (op_pick rfl rfl (by rw [h3]; rfl) rfl)) ?_
      refine rg_done rfl ?_
      refine a_condK rfl rfl ?_
      refine a_rseq ?_
      refine rg_put (d := 2) (v := .d (.fl (.bool false))) rfl (og rfl (op_assign rfl rfl rfl)) ?_
      refine rg_done rfl ?_
      refine a_ret ?_
      show ∃ ds, ResL _ _ _ ds ∧ RV.of ds = _
      refine ⟨[.fl (.bool false)], (.cons (.tmp rfl (.d _)) .nil), ?_⟩
      rw [fld_no (k := k) (by omega) (cF_no (by omega))]; rfl
  · skip
    have h9 := f_dec h1
    refine a_exit ?_
    show A _ _ _ _ _ _ _
    refine a_rseq ?_
    refine rg_put (d := 20) (v := .d (.fl (.string s))) rfl (og rfl (op_move rfl rfl rfl)) ?_
    refine rg_put (d := 21) (v := .d (.fl (.bool ((!(sEq s (⟨#[]⟩))))))) rfl (og rfl (op_bin rfl rfl rfl (b_sne _ _ _) rfl)) ?_
    refine rg_put (d := 2) (v := .d (.fl (.bool ((!(sEq s (⟨#[]⟩))))))) rfl (og rfl (op_assign rfl rfl rfl)) ?_
    refine rg_done rfl ?_
    refine a_ret ?_
    show ∃ ds, ResL _ _ _ ds ∧ RV.of ds = _
    refine ⟨[.fl (.bool ((!(sEq s (⟨#[]⟩)))))], (.cons (.tmp rfl (.d _)) .nil), ?_⟩
    rw [fld_yes (fun q h => hq q (by omega))]; rfl
set_option maxHeartbeats 4000000 in
set_option maxRecDepth 100000 in
theorem fit33 (n : Int) : Ctr Try.prog 33 [.fl (.int .i64 n)] (.d (.fl (.bool (fit n)))) := by
  refine ctr (n := 9) (rs := #[.tmp 2]) (L := [(0, .d (.fl (.int .i64 n)))]) Try.func33 rfl rfl rfl rfl rfl (fun w0 U0 => ?_)
  refine a_rseq ?_
  refine rg_put (d := 2) (v := .d (.fl (.bool false))) rfl (og rfl (op_assign rfl rfl rfl)) ?_
  refine rg_done rfl ?_
  refine a_rseq ?_
  refine rg_put (d := 3) (v := .d (.fl (.int .i64 n))) rfl (og rfl (op_move rfl rfl rfl)) ?_
  refine rg_put (d := 4) (v := .d (.fl (.bool ((decide ((-1125899906842624) ≤ n)))))) rfl (og rfl (op_bin rfl rfl rfl (b_leq _ _ _ _) rfl)) ?_
  refine rg_put (d := 5) (v := .d (.fl (.bool ((decide ((-1125899906842624) ≤ n)))))) rfl (og rfl (op_move rfl rfl rfl)) ?_
  rcases fot ((decide ((-1125899906842624) ≤ n))) with h1 | h1
  · skip
    have h2 := f_dec h1
    refine rg_put (d := 6) (v := .d (.fl undef)) rfl (on rfl rfl rfl h1) ?_
    refine rg_put (d := 7) (v := .d (.fl undef)) rfl (on rfl rfl rfl h1) ?_
    refine rg_put (d := 8) (v := .d (.fl (.bool false))) rfl (og rfl (op_pick rfl rfl (by rw [h1]; rfl) rfl)) ?_
    refine rg_put (d := 2) (v := .d (.fl (.bool false))) rfl (og rfl (op_assign rfl rfl rfl)) ?_
    refine rg_done rfl ?_
    refine a_ret ?_
    show ∃ ds, ResL _ _ _ ds ∧ RV.of ds = _
    refine ⟨[.fl (.bool false)], (.cons (.tmp rfl (.d _)) .nil), ?_⟩
    first
      | (have hu : fit n = false := by
          unfold fit; simp only [h1, Bool.true_or, Bool.false_or, Bool.or_true, Bool.or_false, Bool.not_true, Bool.not_false, cond_true, cond_false, Bool.true_and, Bool.false_and, Bool.and_true, Bool.and_false] <;> rfl
         rw [hu]; rfl)
      | (exfalso; omega)
  · skip
    have h3 := t_dec h1
    refine rg_put (d := 6) (v := .d (.fl (.int .i64 n))) rfl (oy rfl rfl rfl h1 (op_move rfl rfl rfl)) ?_
    refine rg_put (d := 7) (v := .d (.fl (.bool ((decide (n ≤ 1125899906842624)))))) rfl (oy rfl rfl rfl h1 (op_bin rfl rfl rfl (b_leq _ _ _ _) rfl)) ?_
    refine rg_put (d := 8) (v := .d (.fl (.bool ((decide (n ≤ 1125899906842624)))))) rfl (og rfl (op_pick rfl rfl (by rw [h1]; rfl) rfl)) ?_
    refine rg_put (d := 2) (v := .d (.fl (.bool ((decide (n ≤ 1125899906842624)))))) rfl (og rfl (op_assign rfl rfl rfl)) ?_
    refine rg_done rfl ?_
    refine a_ret ?_
    show ∃ ds, ResL _ _ _ ds ∧ RV.of ds = _
    refine ⟨[.fl (.bool ((decide (n ≤ 1125899906842624))))], (.cons (.tmp rfl (.d _)) .nil), ?_⟩
    first
      | (have hu : fit n = (decide (n ≤ 1125899906842624)) := by
          unfold fit; simp only [h1, Bool.true_or, Bool.false_or, Bool.or_true, Bool.or_false, Bool.not_true, Bool.not_false, cond_true, cond_false, Bool.true_and, Bool.false_and, Bool.and_true, Bool.and_false] <;> rfl
         rw [hu]; rfl)
      | (exfalso; omega)
set_option maxHeartbeats 4000000 in
set_option maxRecDepth 100000 in
theorem fit35 (n : Int) : Ctr Try.prog 35 [.fl (.int .i64 n)] (.d (.fl (.bool (fit n)))) := by
  refine ctr (n := 9) (rs := #[.tmp 2]) (L := [(0, .d (.fl (.int .i64 n)))]) Try.func35 rfl rfl rfl rfl rfl (fun w0 U0 => ?_)
  refine a_rseq ?_
  refine rg_put (d := 2) (v := .d (.fl (.bool false))) rfl (og rfl (op_assign rfl rfl rfl)) ?_
  refine rg_done rfl ?_
  refine a_rseq ?_
  refine rg_put (d := 3) (v := .d (.fl (.int .i64 n))) rfl (og rfl (op_move rfl rfl rfl)) ?_
  refine rg_put (d := 4) (v := .d (.fl (.bool ((decide ((-1125899906842624) ≤ n)))))) rfl (og rfl (op_bin rfl rfl rfl (b_geq _ _ _ _) rfl)) ?_
  refine rg_put (d := 5) (v := .d (.fl (.bool ((decide ((-1125899906842624) ≤ n)))))) rfl (og rfl (op_move rfl rfl rfl)) ?_
  rcases fot ((decide ((-1125899906842624) ≤ n))) with h1 | h1
  · skip
    have h2 := f_dec h1
    refine rg_put (d := 6) (v := .d (.fl undef)) rfl (on rfl rfl rfl h1) ?_
    refine rg_put (d := 7) (v := .d (.fl undef)) rfl (on rfl rfl rfl h1) ?_
    refine rg_put (d := 8) (v := .d (.fl (.bool false))) rfl (og rfl (op_pick rfl rfl (by rw [h1]; rfl) rfl)) ?_
    refine rg_put (d := 2) (v := .d (.fl (.bool false))) rfl (og rfl (op_assign rfl rfl rfl)) ?_
    refine rg_done rfl ?_
    refine a_ret ?_
    show ∃ ds, ResL _ _ _ ds ∧ RV.of ds = _
    refine ⟨[.fl (.bool false)], (.cons (.tmp rfl (.d _)) .nil), ?_⟩
    first
      | (have hu : fit n = false := by
          unfold fit; simp only [h1, Bool.true_or, Bool.false_or, Bool.or_true, Bool.or_false, Bool.not_true, Bool.not_false, cond_true, cond_false, Bool.true_and, Bool.false_and, Bool.and_true, Bool.and_false] <;> rfl
         rw [hu]; rfl)
      | (exfalso; omega)
  · skip
    have h3 := t_dec h1
    refine rg_put (d := 6) (v := .d (.fl (.int .i64 n))) rfl (oy rfl rfl rfl h1 (op_move rfl rfl rfl)) ?_
    refine rg_put (d := 7) (v := .d (.fl (.bool ((decide (n ≤ 1125899906842624)))))) rfl (oy rfl rfl rfl h1 (op_bin rfl rfl rfl (b_leq _ _ _ _) rfl)) ?_
    refine rg_put (d := 8) (v := .d (.fl (.bool ((decide (n ≤ 1125899906842624)))))) rfl (og rfl (op_pick rfl rfl (by rw [h1]; rfl) rfl)) ?_
    refine rg_put (d := 2) (v := .d (.fl (.bool ((decide (n ≤ 1125899906842624)))))) rfl (og rfl (op_assign rfl rfl rfl)) ?_
    refine rg_done rfl ?_
    refine a_ret ?_
    show ∃ ds, ResL _ _ _ ds ∧ RV.of ds = _
    refine ⟨[.fl (.bool ((decide (n ≤ 1125899906842624))))], (.cons (.tmp rfl (.d _)) .nil), ?_⟩
    first
      | (have hu : fit n = (decide (n ≤ 1125899906842624)) := by
          unfold fit; simp only [h1, Bool.true_or, Bool.false_or, Bool.or_true, Bool.or_false, Bool.not_true, Bool.not_false, cond_true, cond_false, Bool.true_and, Bool.false_and, Bool.and_true, Bool.and_false] <;> rfl
         rw [hu]; rfl)
      | (exfalso; omega)
set_option maxHeartbeats 4000000 in
set_option maxRecDepth 100000 in
theorem lck11 (e : En) (hke : e.key.size ≤ 1000000) (ha : ∀ p ∈ e.posts, p.acc.size ≤ 1000000) : Ctr Try.prog 11 [.ag (eEn e)] (.d (.fl (.int .i64 (lck e)))) := by
  refine ctr (n := 58) (rs := #[.tmp 2]) (L := [(0, .d (.ag (eEn e)))]) Try.func11 rfl rfl rfl rfl rfl (fun w0 U0 => ?_)
  refine a_rseq ?_
  refine rg_nam (d := 1) (v := .pt 101 0) (m := 101) (nw := [(101, .bx 24 (eEn e))]) rfl (og rfl (of_eff (op_box 101 rfl rfl rfl rfl) rfl)) rfl ?_
  refine rg_put (d := 2) (v := .d (.fl (.int .i64 0))) rfl (og rfl (op_assign rfl rfl rfl)) ?_
  refine rg_done rfl ?_
  refine a_seq ?_
  refine a_block ?_
  refine a_rseq ?_
  refine rg_put (d := 7) (v := .pt 101 0) rfl (og rfl (of_eff (s_field_pt rfl Try.underlying24 rfl ti9 rfl rfl rfl) rfl)) ?_
  refine rg_put (d := 8) (v := .d (.fl (.string e.key))) rfl (og rfl (op_load_pt rfl Try.underlying9 rfl rfl rfl rfl rfl)) ?_
  refine rg_put (d := 9) (v := .d (.fl (.bool (fldB e.key)))) rfl (og rfl (op_call rfl Try.func32 nm32 rfl (.cons rfl (.d _) .nil) (fld32 e.key (by omega)) rfl)) ?_
  refine rg_put (d := 10) (v := .d (.fl (.bool ((!(fldB e.key)))))) rfl (og rfl (op_un rfl rfl (u_not _) rfl)) ?_
  refine rg_put (d := 6) (v := .d (.fl (.bool ((!(fldB e.key)))))) rfl (og rfl (op_assign rfl rfl rfl)) ?_
  refine rg_done rfl ?_
  refine a_cond rfl (fun h1 => ?_) (fun h1 => ?_)
  · skip
    have h2 := t_not h1
    refine a_rseq ?_
    refine rg_put (d := 2) (v := .d (.fl (.int .i64 5))) rfl (og rfl (op_assign rfl rfl rfl)) ?_
    refine rg_done rfl ?_
    refine a_ret ?_
    show ∃ ds, ResL _ _ _ ds ∧ RV.of ds = _
    refine ⟨[.fl (.int .i64 5)], (.cons (.tmp rfl (.d _)) .nil), ?_⟩
    unfold lck; rw [if_pos h2]; rfl
  · skip
    have h3 := f_not h1
    refine a_rseq ?_
    refine rg_put (d := 12) (v := .pt 101 1) rfl (og rfl (of_eff (s_field_pt rfl Try.underlying24 rfl ti3 rfl rfl rfl) rfl)) ?_
    refine rg_put (d := 13) (v := .d (.fl (.int .i64 e.time))) rfl (og rfl (op_load_pt rfl Try.underlying3 rfl rfl rfl rfl rfl)) ?_
    refine rg_put (d := 14) (v := .d (.fl (.bool ((decide (e.time < 0)))))) rfl (og rfl (op_bin rfl rfl rfl (b_lss _ _ _ _) rfl)) ?_
    refine rg_put (d := 15) (v := .d (.fl (.bool ((decide (e.time < 0)))))) rfl (og rfl (op_move rfl rfl rfl)) ?_
    rcases fot ((decide (e.time < 0))) with h4 | h4
    · skip
      have h5 := f_dec h4
      refine rg_put (d := 16) (v := .pt 101 1) rfl (oy rfl rfl rfl h4 (of_eff (s_field_pt rfl Try.underlying24 rfl ti3 rfl rfl rfl) rfl)) ?_
      refine rg_put (d := 17) (v := .d (.fl (.int .i64 e.time))) rfl (oy rfl rfl rfl h4 (op_load_pt rfl Try.underlying3 rfl rfl rfl rfl rfl)) ?_
      refine rg_put (d := 18) (v := .d (.fl (.bool ((decide (68719476736 < e.time)))))) rfl (oy rfl rfl rfl h4 (op_bin rfl rfl rfl (b_gtr _ _ _ _) rfl)) ?_
      refine rg_put (d := 19) (v := .d (.fl (.bool ((decide (68719476736 < e.time)))))) rfl (og rfl (op_pick rfl rfl (by rw [h4]; rfl) rfl)) ?_
      refine rg_put (d := 11) (v := .d (.fl (.bool ((decide (68719476736 < e.time)))))) rfl (og rfl (op_assign rfl rfl rfl)) ?_
      refine rg_done rfl ?_
      refine a_cond rfl (fun h6 => ?_) (fun h6 => ?_)
      · skip
        have h7 := t_dec h6
        refine a_rseq ?_
        refine rg_put (d := 2) (v := .d (.fl (.int .i64 12))) rfl (og rfl (op_assign rfl rfl rfl)) ?_
        refine rg_done rfl ?_
        refine a_ret ?_
        show ∃ ds, ResL _ _ _ ds ∧ RV.of ds = _
        refine ⟨[.fl (.int .i64 12)], (.cons (.tmp rfl (.d _)) .nil), ?_⟩
        unfold lck; rw [if_neg (by rw [h3]; decide), if_pos (by omega)]; rfl
      · skip
        have h8 := f_dec h6
        refine a_rseq ?_
        refine rg_put (d := 21) (v := .pt 101 2) rfl (og rfl (of_eff (s_field_pt rfl Try.underlying24 rfl ti22 rfl rfl rfl) rfl)) ?_
        refine rg_put (d := 22) (v := .d (.sl 2 (List.map ePo e.posts))) rfl (og rfl (op_load_pt rfl Try.underlying22 rfl rfl rfl rfl rfl)) ?_
        refine rg_put (d := 23) (v := .d (.fl (.int .i64 (e.posts.length : Int)))) rfl (og rfl (s_len rfl Try.underlying22 rfl rfl)) ?_
        refine rg_put (d := 24) (v := .d (.fl (.bool (((e.posts.length : Int) == 0))))) rfl (og rfl (op_bin rfl rfl rfl (b_eql _ _ _ _) rfl)) ?_
        refine rg_put (d := 20) (v := .d (.fl (.bool (((e.posts.length : Int) == 0))))) rfl (og rfl (op_assign rfl rfl rfl)) ?_
        refine rg_done rfl ?_
        refine a_cond rfl (fun h9 => ?_) (fun h9 => ?_)
        · skip
          have h10 := t_beq h9
          refine a_rseq ?_
          refine rg_put (d := 2) (v := .d (.fl (.int .i64 1))) rfl (og rfl (op_assign rfl rfl rfl)) ?_
          refine rg_done rfl ?_
          refine a_ret ?_
          show ∃ ds, ResL _ _ _ ds ∧ RV.of ds = _
          refine ⟨[.fl (.int .i64 1)], (.cons (.tmp rfl (.d _)) .nil), ?_⟩
          unfold lck; rw [if_neg (by rw [h3]; decide), if_neg (by omega), if_pos (by omega)]; rfl
        · skip
          have h11 := f_beq h9
          refine a_rseq ?_
          refine rg_put (d := 26) (v := .pt 101 2) rfl (og rfl (of_eff (s_field_pt rfl Try.underlying24 rfl ti22 rfl rfl rfl) rfl)) ?_
          refine rg_put (d := 27) (v := .d (.sl 2 (List.map ePo e.posts))) rfl (og rfl (op_load_pt rfl Try.underlying22 rfl rfl rfl rfl rfl)) ?_
          refine rg_put (d := 28) (v := .d (.fl (.int .i64 (e.posts.length : Int)))) rfl (og rfl (s_len rfl Try.underlying22 rfl rfl)) ?_
          refine rg_put (d := 29) (v := .d (.fl (.bool ((decide (1024 < (e.posts.length : Int))))))) rfl (og rfl (op_bin rfl rfl rfl (b_gtr _ _ _ _) rfl)) ?_
          refine rg_put (d := 25) (v := .d (.fl (.bool ((decide (1024 < (e.posts.length : Int))))))) rfl (og rfl (op_assign rfl rfl rfl)) ?_
          refine rg_done rfl ?_
          refine a_cond rfl (fun h12 => ?_) (fun h12 => ?_)
          · skip
            have h13 := t_dec h12
            refine a_rseq ?_
            refine rg_put (d := 2) (v := .d (.fl (.int .i64 3))) rfl (og rfl (op_assign rfl rfl rfl)) ?_
            refine rg_done rfl ?_
            refine a_ret ?_
            show ∃ ds, ResL _ _ _ ds ∧ RV.of ds = _
            refine ⟨[.fl (.int .i64 3)], (.cons (.tmp rfl (.d _)) .nil), ?_⟩
            unfold lck; rw [if_neg (by rw [h3]; decide), if_neg (by omega), if_neg (by omega), if_pos (by omega)]; rfl
          · skip
            have h14 := f_dec h12
            refine a_skip ?_
            show A _ _ _ _ _ _ _
            refine a_rseq ?_
            refine rg_put (d := 3) (v := .d (.fl (.int .i64 0))) rfl (og rfl (op_assign rfl rfl rfl)) ?_
            refine rg_done rfl ?_
            refine a_seq ?_
            refine a_rseq ?_
            have hl1 : e.posts.length ≤ 1024 := by omega
            refine rg_put (d := 30) (v := .pt 101 2) rfl (og rfl (of_eff (s_field_pt rfl Try.underlying24 rfl ti22 rfl rfl rfl) rfl)) ?_
            refine rg_put (d := 31) (v := .d (.sl 2 (List.map ePo e.posts))) rfl (og rfl (op_load_pt rfl Try.underlying22 rfl rfl rfl rfl rfl)) ?_
            refine rg_put (d := 32) (v := .d (.fl (.int .i64 (e.posts.length : Int)))) rfl (og rfl (s_len rfl Try.underlying22 rfl rfl)) ?_
            refine rg_put (d := 33) (v := .d (.fl (.int .i64 0))) rfl (og rfl (op_move rfl rfl rfl)) ?_
            refine rg_done rfl ?_
            refine a_block ?_
            refine a_loop (ι := Nat) (fun k => SS [(0, .d (.ag (eEn e))), (1, .pt 101 0), (6, .d (.fl (.bool ((!(fldB e.key)))))), (11, .d (.fl (.bool ((decide (68719476736 < e.time)))))), (20, .d (.fl (.bool (((e.posts.length : Int) == 0))))), (25, .d (.fl (.bool ((decide (1024 < (e.posts.length : Int))))))), (31, .d (.sl 2 (List.map ePo e.posts))), (32, .d (.fl (.int .i64 (e.posts.length : Int)))), (33, .d (.fl (.int .i64 (k : Int)))), (3, .d (.fl (.int .i64 (sm e.posts k))))] [(101, .bx 24 (eEn e))]) (fun k => k ≤ e.posts.length ∧ poE e.posts = fe (po1 e.posts) k (e.posts.length - k) ∧ (-(1125899906842624 * (k : Int)) ≤ sm e.posts k ∧ sm e.posts k ≤ 1125899906842624 * (k : Int))) (fun k => e.posts.length - k) 0 (⟨by omega, rfl, by simp [sm]⟩) (imp_forget rfl ⟨rfl, rfl, rfl, rfl, rfl, rfl, rfl, rfl, (by first | rfl | exact ci (by omega) | exact ci (by simp) | exact cd (by simp) | simp), rfl, trivial⟩ ⟨rfl, trivial⟩) (fun k hok => ?_)
            obtain ⟨hk, hc, hs1, hs2⟩ := hok
            refine a_rseq ?_
            refine rg_put (d := 34) (v := .d (.fl (.bool ((decide ((k : Int) < (e.posts.length : Int))))))) rfl (og rfl (op_bin rfl rfl rfl (b_lss _ _ _ _) rfl)) ?_
            refine rg_done rfl ?_
            refine a_seq ?_
            refine a_cond rfl (fun h15 => ?_) (fun h15 => ?_)
            · skip
              have h16 := t_dec h15
              refine a_skip ?_
              show A _ _ _ _ _ _ _
              refine a_seq ?_
              refine a_block ?_
              refine a_rseq ?_
              refine rg_put (d := 35) (v := .el ((ePo (ix e.posts k)))) rfl (og rfl (s_index rfl Try.underlying22 ti31 rfl rfl (by omega) (row_at (by omega)) rfl)) ?_
              refine rg_put (d := 36) (v := .d (.ag (ePo (ix e.posts k)))) rfl (og rfl (of_eff (s_load_els rfl Try.underlying31 rfl ti31 rfl rfl rfl) rfl)) ?_
              refine rg_nam (d := 5) (v := .pt 102 0) (m := 102) (nw := [(102, .bx 31 ([.fl (.string (⟨#[]⟩)), .fl (.int .i64 0)]))]) rfl (og rfl (of_eff (s_alloc 102 rfl ti31 (by kernel_rfl) rfl) rfl)) rfl ?_
              refine rg_sto (nw := [(102, .bx 31 ((ePo (ix e.posts k))))]) rfl (og rfl (of_eff (s_store rfl rfl ti31 rfl rfl rfl rfl rfl rfl) rfl)) ?_
              refine rg_done rfl ?_
              refine a_seq ?_
              refine a_block ?_
              refine a_rseq ?_
              refine rg_put (d := 38) (v := .pt 102 0) rfl (og rfl (of_eff (s_field_pt rfl Try.underlying31 rfl ti9 rfl rfl rfl) rfl)) ?_
              refine rg_put (d := 39) (v := .d (.fl (.string ((ix e.posts k).acc)))) rfl (og rfl (op_load_pt rfl Try.underlying9 rfl rfl rfl rfl rfl)) ?_
              refine rg_put (d := 40) (v := .d (.fl (.bool ((fldB ((ix e.posts k).acc)))))) rfl (og rfl (op_call rfl Try.func32 nm32 rfl (.cons rfl (.d _) .nil) (fld32 ((ix e.posts k).acc) (ha _ (ix_mem (by omega)))) rfl)) ?_
              refine rg_put (d := 41) (v := .d (.fl (.bool ((!((fldB ((ix e.posts k).acc)))))))) rfl (og rfl (op_un rfl rfl (u_not _) rfl)) ?_
              refine rg_put (d := 37) (v := .d (.fl (.bool ((!((fldB ((ix e.posts k).acc)))))))) rfl (og rfl (op_assign rfl rfl rfl)) ?_
              refine rg_done rfl ?_
              refine a_cond rfl (fun h17 => ?_) (fun h17 => ?_)
              · skip
                have h18 := t_not h17
                refine a_rseq ?_
                refine rg_put (d := 2) (v := .d (.fl (.int .i64 5))) rfl (og rfl (op_assign rfl rfl rfl)) ?_
                refine rg_done rfl ?_
                refine a_ret ?_
                show ∃ ds, ResL _ _ _ ds ∧ RV.of ds = _
                refine ⟨[.fl (.int .i64 5)], (.cons (.tmp rfl (.d _)) .nil), ?_⟩
                have hb : po1 e.posts k = 5 := po_f h18
                have he : poE e.posts = 5 := fe_yes (by omega) hc hb (by decide)
                unfold lck; rw [if_neg (by rw [h3]; decide), if_neg (by omega), if_neg (by omega), if_neg (by omega), if_pos (by rw [he]; decide), he]; rfl
              · skip
                have h19 := f_not h17
                refine a_rseq ?_
                refine rg_put (d := 43) (v := .pt 102 1) rfl (og rfl (of_eff (s_field_pt rfl Try.underlying31 rfl ti3 rfl rfl rfl) rfl)) ?_
                refine rg_put (d := 44) (v := .d (.fl (.int .i64 ((ix e.posts k).cents)))) rfl (og rfl (op_load_pt rfl Try.underlying3 rfl rfl rfl rfl rfl)) ?_
                refine rg_put (d := 45) (v := .d (.fl (.bool (((ix e.posts k).cents == 0))))) rfl (og rfl (op_bin rfl rfl rfl (b_eql _ _ _ _) rfl)) ?_
                refine rg_put (d := 42) (v := .d (.fl (.bool (((ix e.posts k).cents == 0))))) rfl (og rfl (op_assign rfl rfl rfl)) ?_
                refine rg_done rfl ?_
                refine a_cond rfl (fun h20 => ?_) (fun h20 => ?_)
                · skip
                  have h21 := t_beq h20
                  refine a_rseq ?_
                  refine rg_put (d := 2) (v := .d (.fl (.int .i64 14))) rfl (og rfl (op_assign rfl rfl rfl)) ?_
                  refine rg_done rfl ?_
                  refine a_ret ?_
                  show ∃ ds, ResL _ _ _ ds ∧ RV.of ds = _
                  refine ⟨[.fl (.int .i64 14)], (.cons (.tmp rfl (.d _)) .nil), ?_⟩
                  have hb : po1 e.posts k = 14 := po_z h19 (t_beq h20)
                  have he : poE e.posts = 14 := fe_yes (by omega) hc hb (by decide)
                  unfold lck; rw [if_neg (by rw [h3]; decide), if_neg (by omega), if_neg (by omega), if_neg (by omega), if_pos (by rw [he]; decide), he]; rfl
                · skip
                  have h22 := f_beq h20
                  refine a_rseq ?_
                  refine rg_put (d := 47) (v := .pt 102 1) rfl (og rfl (of_eff (s_field_pt rfl Try.underlying31 rfl ti3 rfl rfl rfl) rfl)) ?_
                  refine rg_put (d := 48) (v := .d (.fl (.int .i64 ((ix e.posts k).cents)))) rfl (og rfl (op_load_pt rfl Try.underlying3 rfl rfl rfl rfl rfl)) ?_
                  refine rg_put (d := 49) (v := .d (.fl (.bool ((fit ((ix e.posts k).cents)))))) rfl (og rfl (op_call rfl Try.func33 nm33 rfl (.cons rfl (.d _) .nil) (fit33 ((ix e.posts k).cents)) rfl)) ?_
                  refine rg_put (d := 50) (v := .d (.fl (.bool ((!((fit ((ix e.posts k).cents)))))))) rfl (og rfl (op_un rfl rfl (u_not _) rfl)) ?_
                  refine rg_put (d := 46) (v := .d (.fl (.bool ((!((fit ((ix e.posts k).cents)))))))) rfl (og rfl (op_assign rfl rfl rfl)) ?_
                  refine rg_done rfl ?_
                  refine a_cond rfl (fun h23 => ?_) (fun h23 => ?_)
                  · skip
                    have h24 := t_not h23
                    refine a_rseq ?_
                    refine rg_put (d := 2) (v := .d (.fl (.int .i64 13))) rfl (og rfl (op_assign rfl rfl rfl)) ?_
                    refine rg_done rfl ?_
                    refine a_ret ?_
                    show ∃ ds, ResL _ _ _ ds ∧ RV.of ds = _
                    refine ⟨[.fl (.int .i64 13)], (.cons (.tmp rfl (.d _)) .nil), ?_⟩
                    have hb : po1 e.posts k = 13 := po_m h19 (f_beq h20) h24
                    have he : poE e.posts = 13 := fe_yes (by omega) hc hb (by decide)
                    unfold lck; rw [if_neg (by rw [h3]; decide), if_neg (by omega), if_neg (by omega), if_neg (by omega), if_pos (by rw [he]; decide), he]; rfl
                  · skip
                    have h25 := f_not h23
                    refine a_skip ?_
                    show A _ _ _ _ _ _ _
                    refine a_region ?_
                    have hfit := fit_t h25
                    refine rg_put (d := 51) (v := .d (.fl (.int .i64 (sm e.posts k)))) rfl (og rfl (op_move rfl rfl rfl)) ?_
                    refine rg_put (d := 52) (v := .pt 102 1) rfl (og rfl (of_eff (s_field_pt rfl Try.underlying31 rfl ti3 rfl rfl rfl) rfl)) ?_
                    refine rg_put (d := 53) (v := .d (.fl (.int .i64 ((ix e.posts k).cents)))) rfl (og rfl (op_load_pt rfl Try.underlying3 rfl rfl rfl rfl rfl)) ?_
                    refine rg_put (d := 54) (v := .d (.fl (.int .i64 (((sm e.posts k) + (ix e.posts k).cents))))) rfl (og rfl (op_bin rfl rfl rfl (fun x y w => b_add64 _ _ _ x y w (by omega)) rfl)) ?_
                    refine rg_put (d := 3) (v := .d (.fl (.int .i64 (((sm e.posts k) + (ix e.posts k).cents))))) rfl (og rfl (op_assign rfl rfl rfl)) ?_
                    refine rg_done rfl ?_
                    show A _ _ _ _ _ _ _
                    refine a_region ?_
                    refine rg_put (d := 55) (v := .d (.fl (.int .i64 (((k : Int) + 1))))) rfl (og rfl (op_bin rfl rfl rfl (fun x y w => b_add64 _ _ _ x y w (by omega)) rfl)) ?_
                    refine rg_put (d := 33) (v := .d (.fl (.int .i64 (((k : Int) + 1))))) rfl (og rfl (op_move rfl rfl rfl)) ?_
                    refine rg_done rfl ?_
                    have hb : po1 e.posts k = 0 := po_0 h19 (f_beq h20) h25
                    have hsm : sm e.posts (k + 1) = sm e.posts k + (ix e.posts k).cents := rfl
                    show ∃ i, _ ∧ _ ∧ Imp _ _ _ _ _
                    refine ⟨k + 1, ⟨by omega, fe_no (by omega) hc hb, by omega⟩, by omega, imp_forget rfl ⟨rfl, rfl, rfl, rfl, rfl, rfl, rfl, rfl, (by first | rfl | exact ci (by omega) | exact ci (by simp) | exact cd (by simp) | simp), rfl, trivial⟩ ⟨rfl, trivial⟩⟩
            · skip
              have h26 := f_dec h15
              refine a_exit ?_
              show A _ _ _ _ _ _ _
              refine a_seq ?_
              refine a_rseq ?_
              refine rg_put (d := 56) (v := .d (.fl (.int .i64 (sm e.posts k)))) rfl (og rfl (op_move rfl rfl rfl)) ?_
              refine rg_put (d := 57) (v := .d (.fl (.bool (((sm e.posts k) != 0))))) rfl (og rfl (op_bin rfl rfl rfl (b_neq _ _ _ _) rfl)) ?_
              refine rg_done rfl ?_
              refine a_cond rfl (fun h27 => ?_) (fun h27 => ?_)
              · skip
                have h28 := t_bne h27
                refine a_rseq ?_
                refine rg_put (d := 2) (v := .d (.fl (.int .i64 26))) rfl (og rfl (op_assign rfl rfl rfl)) ?_
                refine rg_done rfl ?_
                refine a_ret ?_
                show ∃ ds, ResL _ _ _ ds ∧ RV.of ds = _
                refine ⟨[.fl (.int .i64 26)], (.cons (.tmp rfl (.d _)) .nil), ?_⟩
                have he : poE e.posts = 0 := by rw [fe_end (by omega)] at hc; exact hc
                have hlk : e.posts.length = k := by omega
                unfold lck; rw [if_neg (by rw [h3]; decide), if_neg (by omega), if_neg (by omega), if_neg (by omega), if_neg (by rw [he]; decide), if_pos (by rw [hlk]; exact t_bne h27)]; rfl
              · skip
                have h29 := f_bne h27
                refine a_skip ?_
                show A _ _ _ _ _ _ _
                refine a_rseq ?_
                refine rg_put (d := 2) (v := .d (.fl (.int .i64 0))) rfl (og rfl (op_assign rfl rfl rfl)) ?_
                refine rg_done rfl ?_
                refine a_ret ?_
                show ∃ ds, ResL _ _ _ ds ∧ RV.of ds = _
                refine ⟨[.fl (.int .i64 0)], (.cons (.tmp rfl (.d _)) .nil), ?_⟩
                have he : poE e.posts = 0 := by rw [fe_end (by omega)] at hc; exact hc
                have hlk : e.posts.length = k := by omega
                unfold lck; rw [if_neg (by rw [h3]; decide), if_neg (by omega), if_neg (by omega), if_neg (by omega), if_neg (by rw [he]; decide), if_neg (by rw [hlk]; have := f_bne h27; omega)]; rfl
    · skip
      have h30 := t_dec h4
      refine rg_put (d := 16) (v := .d (.fl undef)) rfl (on rfl rfl rfl h4) ?_
      refine rg_put (d := 17) (v := .d (.fl undef)) rfl (on rfl rfl rfl h4) ?_
      refine rg_put (d := 18) (v := .d (.fl undef)) rfl (on rfl rfl rfl h4) ?_
      refine rg_put (d := 19) (v := .d (.fl (.bool true))) rfl (og rfl (op_pick rfl rfl (by rw [h4]; rfl) rfl)) ?_
      refine rg_put (d := 11) (v := .d (.fl (.bool true))) rfl (og rfl (op_assign rfl rfl rfl)) ?_
      refine rg_done rfl ?_
      refine a_condK rfl rfl ?_
      refine a_rseq ?_
      refine rg_put (d := 2) (v := .d (.fl (.int .i64 12))) rfl (og rfl (op_assign rfl rfl rfl)) ?_
      refine rg_done rfl ?_
      refine a_ret ?_
      show ∃ ds, ResL _ _ _ ds ∧ RV.of ds = _
      refine ⟨[.fl (.int .i64 12)], (.cons (.tmp rfl (.d _)) .nil), ?_⟩
      unfold lck; rw [if_neg (by rw [h3]; decide), if_pos (by omega)]; rfl
set_option maxHeartbeats 4000000 in
set_option maxRecDepth 100000 in
theorem lck12 (e : En) (hke : e.key.size ≤ 1000000) (ha : ∀ p ∈ e.posts, p.acc.size ≤ 1000000) : Ctr Try.prog 12 [.ag (eEn e)] (.d (.fl (.int .i64 (lck e)))) := by
  refine ctr (n := 55) (rs := #[.tmp 2]) (L := [(0, .d (.ag (eEn e)))]) Try.func12 rfl rfl rfl rfl rfl (fun w0 U0 => ?_)
  refine a_rseq ?_
  refine rg_nam (d := 1) (v := .pt 101 0) (m := 101) (nw := [(101, .bx 24 (eEn e))]) rfl (og rfl (of_eff (op_box 101 rfl rfl rfl rfl) rfl)) rfl ?_
  refine rg_put (d := 2) (v := .d (.fl (.int .i64 0))) rfl (og rfl (op_assign rfl rfl rfl)) ?_
  refine rg_done rfl ?_
  refine a_seq ?_
  refine a_rseq ?_
  refine rg_put (d := 6) (v := .pt 101 0) rfl (og rfl (of_eff (s_field_pt rfl Try.underlying24 rfl ti9 rfl rfl rfl) rfl)) ?_
  refine rg_put (d := 7) (v := .d (.fl (.string e.key))) rfl (og rfl (op_load_pt rfl Try.underlying9 rfl rfl rfl rfl rfl)) ?_
  refine rg_put (d := 8) (v := .d (.fl (.bool (fldB e.key)))) rfl (og rfl (op_call rfl Try.func34 nm34 rfl (.cons rfl (.d _) .nil) (fld34 e.key (by omega)) rfl)) ?_
  refine rg_put (d := 9) (v := .d (.fl (.bool ((!(fldB e.key)))))) rfl (og rfl (op_un rfl rfl (u_not _) rfl)) ?_
  refine rg_done rfl ?_
  refine a_cond rfl (fun h1 => ?_) (fun h1 => ?_)
  · skip
    have h2 := t_not h1
    refine a_rseq ?_
    refine rg_put (d := 2) (v := .d (.fl (.int .i64 5))) rfl (og rfl (op_assign rfl rfl rfl)) ?_
    refine rg_done rfl ?_
    refine a_ret ?_
    show ∃ ds, ResL _ _ _ ds ∧ RV.of ds = _
    refine ⟨[.fl (.int .i64 5)], (.cons (.tmp rfl (.d _)) .nil), ?_⟩
    unfold lck; rw [if_pos h2]; rfl
  · skip
    have h3 := f_not h1
    refine a_skip ?_
    show A _ _ _ _ _ _ _
    refine a_seq ?_
    refine a_rseq ?_
    refine rg_put (d := 10) (v := .pt 101 1) rfl (og rfl (of_eff (s_field_pt rfl Try.underlying24 rfl ti3 rfl rfl rfl) rfl)) ?_
    refine rg_put (d := 11) (v := .d (.fl (.int .i64 e.time))) rfl (og rfl (op_load_pt rfl Try.underlying3 rfl rfl rfl rfl rfl)) ?_
    refine rg_put (d := 12) (v := .d (.fl (.bool ((decide (e.time < 0)))))) rfl (og rfl (op_bin rfl rfl rfl (b_lss _ _ _ _) rfl)) ?_
    refine rg_put (d := 13) (v := .d (.fl (.bool ((decide (e.time < 0)))))) rfl (og rfl (op_move rfl rfl rfl)) ?_
    rcases fot ((decide (e.time < 0))) with h4 | h4
    · skip
      have h5 := f_dec h4
      refine rg_put (d := 14) (v := .pt 101 1) rfl (oy rfl rfl rfl h4 (of_eff (s_field_pt rfl Try.underlying24 rfl ti3 rfl rfl rfl) rfl)) ?_
      refine rg_put (d := 15) (v := .d (.fl (.int .i64 e.time))) rfl (oy rfl rfl rfl h4 (op_load_pt rfl Try.underlying3 rfl rfl rfl rfl rfl)) ?_
      refine rg_put (d := 16) (v := .d (.fl (.bool ((decide (68719476736 < e.time)))))) rfl (oy rfl rfl rfl h4 (op_bin rfl rfl rfl (b_gtr _ _ _ _) rfl)) ?_
      refine rg_put (d := 17) (v := .d (.fl (.bool ((decide (68719476736 < e.time)))))) rfl (og rfl (op_pick rfl rfl (by rw [h4]; rfl) rfl)) ?_
      refine rg_done rfl ?_
      refine a_cond rfl (fun h6 => ?_) (fun h6 => ?_)
      · skip
        have h7 := t_dec h6
        refine a_rseq ?_
        refine rg_put (d := 2) (v := .d (.fl (.int .i64 12))) rfl (og rfl (op_assign rfl rfl rfl)) ?_
        refine rg_done rfl ?_
        refine a_ret ?_
        show ∃ ds, ResL _ _ _ ds ∧ RV.of ds = _
        refine ⟨[.fl (.int .i64 12)], (.cons (.tmp rfl (.d _)) .nil), ?_⟩
        unfold lck; rw [if_neg (by rw [h3]; decide), if_pos (by omega)]; rfl
      · skip
        have h8 := f_dec h6
        refine a_skip ?_
        show A _ _ _ _ _ _ _
        refine a_seq ?_
        refine a_rseq ?_
        refine rg_put (d := 18) (v := .pt 101 2) rfl (og rfl (of_eff (s_field_pt rfl Try.underlying24 rfl ti22 rfl rfl rfl) rfl)) ?_
        refine rg_put (d := 19) (v := .d (.sl 2 (List.map ePo e.posts))) rfl (og rfl (op_load_pt rfl Try.underlying22 rfl rfl rfl rfl rfl)) ?_
        refine rg_put (d := 20) (v := .d (.fl (.int .i64 (e.posts.length : Int)))) rfl (og rfl (s_len rfl Try.underlying22 rfl rfl)) ?_
        refine rg_put (d := 21) (v := .d (.fl (.bool (((e.posts.length : Int) == 0))))) rfl (og rfl (op_bin rfl rfl rfl (b_eql _ _ _ _) rfl)) ?_
        refine rg_done rfl ?_
        refine a_cond rfl (fun h9 => ?_) (fun h9 => ?_)
        · skip
          have h10 := t_beq h9
          refine a_rseq ?_
          refine rg_put (d := 2) (v := .d (.fl (.int .i64 1))) rfl (og rfl (op_assign rfl rfl rfl)) ?_
          refine rg_done rfl ?_
          refine a_ret ?_
          show ∃ ds, ResL _ _ _ ds ∧ RV.of ds = _
          refine ⟨[.fl (.int .i64 1)], (.cons (.tmp rfl (.d _)) .nil), ?_⟩
          unfold lck; rw [if_neg (by rw [h3]; decide), if_neg (by omega), if_pos (by omega)]; rfl
        · skip
          have h11 := f_beq h9
          refine a_skip ?_
          show A _ _ _ _ _ _ _
          refine a_seq ?_
          refine a_rseq ?_
          refine rg_put (d := 22) (v := .pt 101 2) rfl (og rfl (of_eff (s_field_pt rfl Try.underlying24 rfl ti22 rfl rfl rfl) rfl)) ?_
          refine rg_put (d := 23) (v := .d (.sl 2 (List.map ePo e.posts))) rfl (og rfl (op_load_pt rfl Try.underlying22 rfl rfl rfl rfl rfl)) ?_
          refine rg_put (d := 24) (v := .d (.fl (.int .i64 (e.posts.length : Int)))) rfl (og rfl (s_len rfl Try.underlying22 rfl rfl)) ?_
          refine rg_put (d := 25) (v := .d (.fl (.bool ((decide (1024 < (e.posts.length : Int))))))) rfl (og rfl (op_bin rfl rfl rfl (b_gtr _ _ _ _) rfl)) ?_
          refine rg_done rfl ?_
          refine a_cond rfl (fun h12 => ?_) (fun h12 => ?_)
          · skip
            have h13 := t_dec h12
            refine a_rseq ?_
            refine rg_put (d := 2) (v := .d (.fl (.int .i64 3))) rfl (og rfl (op_assign rfl rfl rfl)) ?_
            refine rg_done rfl ?_
            refine a_ret ?_
            show ∃ ds, ResL _ _ _ ds ∧ RV.of ds = _
            refine ⟨[.fl (.int .i64 3)], (.cons (.tmp rfl (.d _)) .nil), ?_⟩
            unfold lck; rw [if_neg (by rw [h3]; decide), if_neg (by omega), if_neg (by omega), if_pos (by omega)]; rfl
          · skip
            have h14 := f_dec h12
            refine a_skip ?_
            show A _ _ _ _ _ _ _
            refine a_rseq ?_
            refine rg_put (d := 3) (v := .d (.fl (.int .i64 0))) rfl (og rfl (op_assign rfl rfl rfl)) ?_
            refine rg_done rfl ?_
            refine a_seq ?_
            refine a_rseq ?_
            have hl1 : e.posts.length ≤ 1024 := by omega
            refine rg_put (d := 4) (v := .d (.fl (.int .i64 0))) rfl (og rfl (op_assign rfl rfl rfl)) ?_
            refine rg_done rfl ?_
            refine a_block ?_
            refine a_loop (ι := Nat) (fun k => SS [(0, .d (.ag (eEn e))), (1, .pt 101 0), (9, .d (.fl (.bool ((!(fldB e.key)))))), (17, .d (.fl (.bool ((decide (68719476736 < e.time)))))), (21, .d (.fl (.bool (((e.posts.length : Int) == 0))))), (25, .d (.fl (.bool ((decide (1024 < (e.posts.length : Int))))))), (4, .d (.fl (.int .i64 (k : Int)))), (3, .d (.fl (.int .i64 (sm e.posts k))))] [(101, .bx 24 (eEn e))]) (fun k => k ≤ e.posts.length ∧ poE e.posts = fe (po1 e.posts) k (e.posts.length - k) ∧ (-(1125899906842624 * (k : Int)) ≤ sm e.posts k ∧ sm e.posts k ≤ 1125899906842624 * (k : Int))) (fun k => e.posts.length - k) 0 (⟨by omega, rfl, by simp [sm]⟩) (imp_forget rfl ⟨rfl, rfl, rfl, rfl, rfl, rfl, (by first | rfl | exact ci (by omega) | exact ci (by simp) | exact cd (by simp) | simp), rfl, trivial⟩ ⟨rfl, trivial⟩) (fun k hok => ?_)
            obtain ⟨hk, hc, hs1, hs2⟩ := hok
            refine a_seq ?_
            refine a_rseq ?_
            refine rg_put (d := 26) (v := .d (.fl (.int .i64 (k : Int)))) rfl (og rfl (op_move rfl rfl rfl)) ?_
            refine rg_put (d := 27) (v := .pt 101 2) rfl (og rfl (of_eff (s_field_pt rfl Try.underlying24 rfl ti22 rfl rfl rfl) rfl)) ?_
            refine rg_put (d := 28) (v := .d (.sl 2 (List.map ePo e.posts))) rfl (og rfl (op_load_pt rfl Try.underlying22 rfl rfl rfl rfl rfl)) ?_
            refine rg_put (d := 29) (v := .d (.fl (.int .i64 (e.posts.length : Int)))) rfl (og rfl (s_len rfl Try.underlying22 rfl rfl)) ?_
            refine rg_put (d := 30) (v := .d (.fl (.bool ((decide ((k : Int) < (e.posts.length : Int))))))) rfl (og rfl (op_bin rfl rfl rfl (b_lss _ _ _ _) rfl)) ?_
            refine rg_done rfl ?_
            refine a_cond rfl (fun h15 => ?_) (fun h15 => ?_)
            · skip
              have h16 := t_dec h15
              refine a_skip ?_
              show A _ _ _ _ _ _ _
              refine a_seq ?_
              refine a_block ?_
              refine a_rseq ?_
              refine rg_put (d := 33) (v := .pt 101 2) rfl (og rfl (of_eff (s_field_pt rfl Try.underlying24 rfl ti22 rfl rfl rfl) rfl)) ?_
              refine rg_put (d := 34) (v := .d (.sl 2 (List.map ePo e.posts))) rfl (og rfl (op_load_pt rfl Try.underlying22 rfl rfl rfl rfl rfl)) ?_
              refine rg_put (d := 35) (v := .d (.fl (.int .i64 (k : Int)))) rfl (og rfl (op_move rfl rfl rfl)) ?_
              refine rg_put (d := 36) (v := .el ((ePo (ix e.posts k)))) rfl (og rfl (s_index rfl Try.underlying22 ti31 rfl rfl (by omega) (row_at (by omega)) rfl)) ?_
              refine rg_put (d := 37) (v := .d (.ag (ePo (ix e.posts k)))) rfl (og rfl (of_eff (s_load_els rfl Try.underlying31 rfl ti31 rfl rfl rfl) rfl)) ?_
              refine rg_nam (d := 5) (v := .pt 102 0) (m := 102) (nw := [(102, .bx 31 ([.fl (.string (⟨#[]⟩)), .fl (.int .i64 0)]))]) rfl (og rfl (of_eff (s_alloc 102 rfl ti31 (by kernel_rfl) rfl) rfl)) rfl ?_
              refine rg_sto (nw := [(102, .bx 31 ((ePo (ix e.posts k))))]) rfl (og rfl (of_eff (s_store rfl rfl ti31 rfl rfl rfl rfl rfl rfl) rfl)) ?_
              refine rg_done rfl ?_
              refine a_seq ?_
              refine a_rseq ?_
              refine rg_put (d := 38) (v := .pt 102 0) rfl (og rfl (of_eff (s_field_pt rfl Try.underlying31 rfl ti9 rfl rfl rfl) rfl)) ?_
              refine rg_put (d := 39) (v := .d (.fl (.string ((ix e.posts k).acc)))) rfl (og rfl (op_load_pt rfl Try.underlying9 rfl rfl rfl rfl rfl)) ?_
              refine rg_put (d := 40) (v := .d (.fl (.bool ((fldB ((ix e.posts k).acc)))))) rfl (og rfl (op_call rfl Try.func34 nm34 rfl (.cons rfl (.d _) .nil) (fld34 ((ix e.posts k).acc) (ha _ (ix_mem (by omega)))) rfl)) ?_
              refine rg_put (d := 41) (v := .d (.fl (.bool ((!((fldB ((ix e.posts k).acc)))))))) rfl (og rfl (op_un rfl rfl (u_not _) rfl)) ?_
              refine rg_done rfl ?_
              refine a_cond rfl (fun h17 => ?_) (fun h17 => ?_)
              · skip
                have h18 := t_not h17
                refine a_rseq ?_
                refine rg_put (d := 2) (v := .d (.fl (.int .i64 5))) rfl (og rfl (op_assign rfl rfl rfl)) ?_
                refine rg_done rfl ?_
                refine a_ret ?_
                show ∃ ds, ResL _ _ _ ds ∧ RV.of ds = _
                refine ⟨[.fl (.int .i64 5)], (.cons (.tmp rfl (.d _)) .nil), ?_⟩
                have hb : po1 e.posts k = 5 := po_f h18
                have he : poE e.posts = 5 := fe_yes (by omega) hc hb (by decide)
                unfold lck; rw [if_neg (by rw [h3]; decide), if_neg (by omega), if_neg (by omega), if_neg (by omega), if_pos (by rw [he]; decide), he]; rfl
              · skip
                have h19 := f_not h17
                refine a_skip ?_
                show A _ _ _ _ _ _ _
                refine a_seq ?_
                refine a_rseq ?_
                refine rg_put (d := 42) (v := .pt 102 1) rfl (og rfl (of_eff (s_field_pt rfl Try.underlying31 rfl ti3 rfl rfl rfl) rfl)) ?_
                refine rg_put (d := 43) (v := .d (.fl (.int .i64 ((ix e.posts k).cents)))) rfl (og rfl (op_load_pt rfl Try.underlying3 rfl rfl rfl rfl rfl)) ?_
                refine rg_put (d := 44) (v := .d (.fl (.bool (((ix e.posts k).cents == 0))))) rfl (og rfl (op_bin rfl rfl rfl (b_eql _ _ _ _) rfl)) ?_
                refine rg_done rfl ?_
                refine a_cond rfl (fun h20 => ?_) (fun h20 => ?_)
                · skip
                  have h21 := t_beq h20
                  refine a_rseq ?_
                  refine rg_put (d := 2) (v := .d (.fl (.int .i64 14))) rfl (og rfl (op_assign rfl rfl rfl)) ?_
                  refine rg_done rfl ?_
                  refine a_ret ?_
                  show ∃ ds, ResL _ _ _ ds ∧ RV.of ds = _
                  refine ⟨[.fl (.int .i64 14)], (.cons (.tmp rfl (.d _)) .nil), ?_⟩
                  have hb : po1 e.posts k = 14 := po_z h19 (t_beq h20)
                  have he : poE e.posts = 14 := fe_yes (by omega) hc hb (by decide)
                  unfold lck; rw [if_neg (by rw [h3]; decide), if_neg (by omega), if_neg (by omega), if_neg (by omega), if_pos (by rw [he]; decide), he]; rfl
                · skip
                  have h22 := f_beq h20
                  refine a_skip ?_
                  show A _ _ _ _ _ _ _
                  refine a_seq ?_
                  refine a_rseq ?_
                  refine rg_put (d := 45) (v := .pt 102 1) rfl (og rfl (of_eff (s_field_pt rfl Try.underlying31 rfl ti3 rfl rfl rfl) rfl)) ?_
                  refine rg_put (d := 46) (v := .d (.fl (.int .i64 ((ix e.posts k).cents)))) rfl (og rfl (op_load_pt rfl Try.underlying3 rfl rfl rfl rfl rfl)) ?_
                  refine rg_put (d := 47) (v := .d (.fl (.bool ((fit ((ix e.posts k).cents)))))) rfl (og rfl (op_call rfl Try.func35 nm35 rfl (.cons rfl (.d _) .nil) (fit35 ((ix e.posts k).cents)) rfl)) ?_
                  refine rg_put (d := 48) (v := .d (.fl (.bool ((!((fit ((ix e.posts k).cents)))))))) rfl (og rfl (op_un rfl rfl (u_not _) rfl)) ?_
                  refine rg_done rfl ?_
                  refine a_cond rfl (fun h23 => ?_) (fun h23 => ?_)
                  · skip
                    have h24 := t_not h23
                    refine a_rseq ?_
                    refine rg_put (d := 2) (v := .d (.fl (.int .i64 13))) rfl (og rfl (op_assign rfl rfl rfl)) ?_
                    refine rg_done rfl ?_
                    refine a_ret ?_
                    show ∃ ds, ResL _ _ _ ds ∧ RV.of ds = _
                    refine ⟨[.fl (.int .i64 13)], (.cons (.tmp rfl (.d _)) .nil), ?_⟩
                    have hb : po1 e.posts k = 13 := po_m h19 (f_beq h20) h24
                    have he : poE e.posts = 13 := fe_yes (by omega) hc hb (by decide)
                    unfold lck; rw [if_neg (by rw [h3]; decide), if_neg (by omega), if_neg (by omega), if_neg (by omega), if_pos (by rw [he]; decide), he]; rfl
                  · skip
                    have h25 := f_not h23
                    refine a_skip ?_
                    show A _ _ _ _ _ _ _
                    refine a_region ?_
                    have hfit := fit_t h25
                    refine rg_put (d := 49) (v := .d (.fl (.int .i64 (sm e.posts k)))) rfl (og rfl (op_move rfl rfl rfl)) ?_
                    refine rg_put (d := 50) (v := .pt 102 1) rfl (og rfl (of_eff (s_field_pt rfl Try.underlying31 rfl ti3 rfl rfl rfl) rfl)) ?_
                    refine rg_put (d := 51) (v := .d (.fl (.int .i64 ((ix e.posts k).cents)))) rfl (og rfl (op_load_pt rfl Try.underlying3 rfl rfl rfl rfl rfl)) ?_
                    refine rg_put (d := 52) (v := .d (.fl (.int .i64 (((sm e.posts k) + (ix e.posts k).cents))))) rfl (og rfl (op_bin rfl rfl rfl (fun x y w => b_add64 _ _ _ x y w (by omega)) rfl)) ?_
                    refine rg_put (d := 3) (v := .d (.fl (.int .i64 (((sm e.posts k) + (ix e.posts k).cents))))) rfl (og rfl (op_assign rfl rfl rfl)) ?_
                    refine rg_done rfl ?_
                    show A _ _ _ _ _ _ _
                    refine a_region ?_
                    refine rg_put (d := 31) (v := .d (.fl (.int .i64 (k : Int)))) rfl (og rfl (op_move rfl rfl rfl)) ?_
                    refine rg_put (d := 32) (v := .d (.fl (.int .i64 (((k : Int) + 1))))) rfl (og rfl (op_bin rfl rfl rfl (fun x y w => b_add64 _ _ _ x y w (by omega)) rfl)) ?_
                    refine rg_put (d := 4) (v := .d (.fl (.int .i64 (((k : Int) + 1))))) rfl (og rfl (op_assign rfl rfl rfl)) ?_
                    refine rg_done rfl ?_
                    have hb : po1 e.posts k = 0 := po_0 h19 (f_beq h20) h25
                    have hsm : sm e.posts (k + 1) = sm e.posts k + (ix e.posts k).cents := rfl
                    show ∃ i, _ ∧ _ ∧ Imp _ _ _ _ _
                    refine ⟨k + 1, ⟨by omega, fe_no (by omega) hc hb, by omega⟩, by omega, imp_forget rfl ⟨rfl, rfl, rfl, rfl, rfl, rfl, (by first | rfl | exact ci (by omega) | exact ci (by simp) | exact cd (by simp) | simp), rfl, trivial⟩ ⟨rfl, trivial⟩⟩
            · skip
              have h26 := f_dec h15
              refine a_exit ?_
              show A _ _ _ _ _ _ _
              refine a_seq ?_
              refine a_rseq ?_
              refine rg_put (d := 53) (v := .d (.fl (.int .i64 (sm e.posts k)))) rfl (og rfl (op_move rfl rfl rfl)) ?_
              refine rg_put (d := 54) (v := .d (.fl (.bool (((sm e.posts k) != 0))))) rfl (og rfl (op_bin rfl rfl rfl (b_neq _ _ _ _) rfl)) ?_
              refine rg_done rfl ?_
              refine a_cond rfl (fun h27 => ?_) (fun h27 => ?_)
              · skip
                have h28 := t_bne h27
                refine a_rseq ?_
                refine rg_put (d := 2) (v := .d (.fl (.int .i64 26))) rfl (og rfl (op_assign rfl rfl rfl)) ?_
                refine rg_done rfl ?_
                refine a_ret ?_
                show ∃ ds, ResL _ _ _ ds ∧ RV.of ds = _
                refine ⟨[.fl (.int .i64 26)], (.cons (.tmp rfl (.d _)) .nil), ?_⟩
                have he : poE e.posts = 0 := by rw [fe_end (by omega)] at hc; exact hc
                have hlk : e.posts.length = k := by omega
                unfold lck; rw [if_neg (by rw [h3]; decide), if_neg (by omega), if_neg (by omega), if_neg (by omega), if_neg (by rw [he]; decide), if_pos (by rw [hlk]; exact t_bne h27)]; rfl
              · skip
                have h29 := f_bne h27
                refine a_skip ?_
                show A _ _ _ _ _ _ _
                refine a_rseq ?_
                refine rg_put (d := 2) (v := .d (.fl (.int .i64 0))) rfl (og rfl (op_assign rfl rfl rfl)) ?_
                refine rg_done rfl ?_
                refine a_ret ?_
                show ∃ ds, ResL _ _ _ ds ∧ RV.of ds = _
                refine ⟨[.fl (.int .i64 0)], (.cons (.tmp rfl (.d _)) .nil), ?_⟩
                have he : poE e.posts = 0 := by rw [fe_end (by omega)] at hc; exact hc
                have hlk : e.posts.length = k := by omega
                unfold lck; rw [if_neg (by rw [h3]; decide), if_neg (by omega), if_neg (by omega), if_neg (by omega), if_neg (by rw [he]; decide), if_neg (by rw [hlk]; have := f_bne h27; omega)]; rfl
    · skip
      have h30 := t_dec h4
      refine rg_put (d := 14) (v := .d (.fl undef)) rfl (on rfl rfl rfl h4) ?_
      refine rg_put (d := 15) (v := .d (.fl undef)) rfl (on rfl rfl rfl h4) ?_
      refine rg_put (d := 16) (v := .d (.fl undef)) rfl (on rfl rfl rfl h4) ?_
      refine rg_put (d := 17) (v := .d (.fl (.bool true))) rfl (og rfl (op_pick rfl rfl (by rw [h4]; rfl) rfl)) ?_
      refine rg_done rfl ?_
      refine a_condK rfl rfl ?_
      refine a_rseq ?_
      refine rg_put (d := 2) (v := .d (.fl (.int .i64 12))) rfl (og rfl (op_assign rfl rfl rfl)) ?_
      refine rg_done rfl ?_
      refine a_ret ?_
      show ∃ ds, ResL _ _ _ ds ∧ RV.of ds = _
      refine ⟨[.fl (.int .i64 12)], (.cons (.tmp rfl (.d _)) .nil), ?_⟩
      unfold lck; rw [if_neg (by rw [h3]; decide), if_pos (by omega)]; rfl
set_option maxHeartbeats 4000000 in
set_option maxRecDepth 100000 in
theorem sml10 (e : En) : Ctr Try.prog 10 [.ag (eEn e)] (.d (.fl (.bool (sml e)))) := by
  refine ctr (n := 29) (rs := #[.tmp 2]) (L := [(0, .d (.ag (eEn e)))]) Try.func10 rfl rfl rfl rfl rfl (fun w0 U0 => ?_)
  refine a_rseq ?_
  refine rg_nam (d := 1) (v := .pt 101 0) (m := 101) (nw := [(101, .bx 24 (eEn e))]) rfl (og rfl (of_eff (op_box 101 rfl rfl rfl rfl) rfl)) rfl ?_
  refine rg_put (d := 2) (v := .d (.fl (.bool false))) rfl (og rfl (op_assign rfl rfl rfl)) ?_
  refine rg_done rfl ?_
  refine a_seq ?_
  refine a_rseq ?_
  refine rg_put (d := 4) (v := .pt 101 2) rfl (og rfl (of_eff (s_field_pt rfl Try.underlying24 rfl ti22 rfl rfl rfl) rfl)) ?_
  refine rg_put (d := 5) (v := .d (.sl 2 (List.map ePo e.posts))) rfl (og rfl (op_load_pt rfl Try.underlying22 rfl rfl rfl rfl rfl)) ?_
  refine rg_put (d := 6) (v := .d (.fl (.int .i64 (e.posts.length : Int)))) rfl (og rfl (s_len rfl Try.underlying22 rfl rfl)) ?_
  refine rg_put (d := 7) (v := .d (.fl (.bool ((decide (40 < (e.posts.length : Int))))))) rfl (og rfl (op_bin rfl rfl rfl (b_gtr _ _ _ _) rfl)) ?_
  refine rg_put (d := 8) (v := .d (.fl (.bool ((decide (40 < (e.posts.length : Int))))))) rfl (og rfl (op_move rfl rfl rfl)) ?_
  rcases fot ((decide (40 < (e.posts.length : Int)))) with h1 | h1
  · skip
    have h2 := f_dec h1
    refine rg_put (d := 9) (v := .pt 101 0) rfl (oy rfl rfl rfl h1 (of_eff (s_field_pt rfl Try.underlying24 rfl ti9 rfl rfl rfl) rfl)) ?_
    refine rg_put (d := 10) (v := .d (.fl (.string e.key))) rfl (oy rfl rfl rfl h1 (op_load_pt rfl Try.underlying9 rfl rfl rfl rfl rfl)) ?_
    refine rg_put (d := 11) (v := .d (.fl (.int .i64 (e.key.size : Int)))) rfl (oy rfl rfl rfl h1 (op_len_str rfl Try.underlying9 rfl rfl)) ?_
    refine rg_put (d := 12) (v := .d (.fl (.bool ((decide (100 < (e.key.size : Int))))))) rfl (oy rfl rfl rfl h1 (op_bin rfl rfl rfl (b_gtr _ _ _ _) rfl)) ?_
    refine rg_put (d := 13) (v := .d (.fl (.bool ((decide (100 < (e.key.size : Int))))))) rfl (og rfl (op_pick rfl rfl (by rw [h1]; rfl) rfl)) ?_
    refine rg_done rfl ?_
    refine a_cond rfl (fun h3 => ?_) (fun h3 => ?_)
    · skip
      have h4 := t_dec h3
      refine a_rseq ?_
      refine rg_put (d := 2) (v := .d (.fl (.bool false))) rfl (og rfl (op_assign rfl rfl rfl)) ?_
      refine rg_done rfl ?_
      refine a_ret ?_
      show ∃ ds, ResL _ _ _ ds ∧ RV.of ds = _
      refine ⟨[.fl (.bool false)], (.cons (.tmp rfl (.d _)) .nil), ?_⟩
      rw [sml_0 (by simp only [h1, h3, Bool.true_or, Bool.false_or, Bool.or_true, Bool.or_false, Bool.not_true, Bool.not_false, cond_true, cond_false, Bool.true_and, Bool.false_and, Bool.and_true, Bool.and_false] <;> rfl)]; rfl
    · skip
      have h5 := f_dec h3
      refine a_skip ?_
      show A _ _ _ _ _ _ _
      refine a_seq ?_
      refine a_rseq ?_
      refine rg_put (d := 3) (v := .d (.fl (.int .i64 0))) rfl (og rfl (op_assign rfl rfl rfl)) ?_
      refine rg_done rfl ?_
      refine a_block ?_
      refine a_loop (ι := Nat) (fun k => SS [(0, .d (.ag (eEn e))), (1, .pt 101 0), (13, .d (.fl (.bool ((decide (100 < (e.key.size : Int))))))), (3, .d (.fl (.int .i64 (k : Int))))] [(101, .bx 24 (eEn e))]) (fun k => k ≤ e.posts.length ∧ ∀ q, q < k → decide (100 < ((ix e.posts q).acc.size : Int)) = false) (fun k => e.posts.length - k) 0 (⟨by omega, fun q h => by omega⟩) (imp_forget rfl ⟨rfl, rfl, rfl, (by first | rfl | exact ci (by omega) | exact ci (by simp) | exact cd (by simp) | simp), trivial⟩ ⟨rfl, trivial⟩) (fun k hok => ?_)
      obtain ⟨hkk, hq⟩ := hok
      refine a_seq ?_
      refine a_rseq ?_
      refine rg_put (d := 14) (v := .d (.fl (.int .i64 (k : Int)))) rfl (og rfl (op_move rfl rfl rfl)) ?_
      refine rg_put (d := 15) (v := .pt 101 2) rfl (og rfl (of_eff (s_field_pt rfl Try.underlying24 rfl ti22 rfl rfl rfl) rfl)) ?_
      refine rg_put (d := 16) (v := .d (.sl 2 (List.map ePo e.posts))) rfl (og rfl (op_load_pt rfl Try.underlying22 rfl rfl rfl rfl rfl)) ?_
      refine rg_put (d := 17) (v := .d (.fl (.int .i64 (e.posts.length : Int)))) rfl (og rfl (s_len rfl Try.underlying22 rfl rfl)) ?_
      refine rg_put (d := 18) (v := .d (.fl (.bool ((decide ((k : Int) < (e.posts.length : Int))))))) rfl (og rfl (op_bin rfl rfl rfl (b_lss _ _ _ _) rfl)) ?_
      refine rg_done rfl ?_
      refine a_cond rfl (fun h6 => ?_) (fun h6 => ?_)
      · skip
        have h7 := t_dec h6
        refine a_skip ?_
        show A _ _ _ _ _ _ _
        refine a_seq ?_
        refine a_block ?_
        refine a_rseq ?_
        refine rg_put (d := 21) (v := .pt 101 2) rfl (og rfl (of_eff (s_field_pt rfl Try.underlying24 rfl ti22 rfl rfl rfl) rfl)) ?_
        refine rg_put (d := 22) (v := .d (.sl 2 (List.map ePo e.posts))) rfl (og rfl (op_load_pt rfl Try.underlying22 rfl rfl rfl rfl rfl)) ?_
        refine rg_put (d := 23) (v := .d (.fl (.int .i64 (k : Int)))) rfl (og rfl (op_move rfl rfl rfl)) ?_
        refine rg_put (d := 24) (v := .el ((ePo (ix e.posts k)))) rfl (og rfl (s_index rfl Try.underlying22 ti31 rfl rfl (by omega) (row_at (by omega)) rfl)) ?_
        refine rg_put (d := 25) (v := .el ((List.drop 0 ((ePo (ix e.posts k)))))) rfl (og rfl (of_eff (s_field_el rfl Try.underlying31 rfl ti9 rfl rfl rfl) rfl)) ?_
        refine rg_put (d := 26) (v := .d (.fl (.string ((ix e.posts k).acc)))) rfl (og rfl (op_load_el rfl Try.underlying9 rfl rfl rfl rfl)) ?_
        refine rg_put (d := 27) (v := .d (.fl (.int .i64 ((((ix e.posts k).acc).size : Int))))) rfl (og rfl (op_len_str rfl Try.underlying9 rfl rfl)) ?_
        refine rg_put (d := 28) (v := .d (.fl (.bool ((decide (100 < (((ix e.posts k).acc).size : Int))))))) rfl (og rfl (op_bin rfl rfl rfl (b_gtr _ _ _ _) rfl)) ?_
        refine rg_done rfl ?_
        refine a_cond rfl (fun h8 => ?_) (fun h8 => ?_)
        · skip
          have h9 := t_dec h8
          refine a_rseq ?_
          refine rg_put (d := 2) (v := .d (.fl (.bool false))) rfl (og rfl (op_assign rfl rfl rfl)) ?_
          refine rg_done rfl ?_
          refine a_ret ?_
          show ∃ ds, ResL _ _ _ ds ∧ RV.of ds = _
          refine ⟨[.fl (.bool false)], (.cons (.tmp rfl (.d _)) .nil), ?_⟩
          rw [sml_k (by omega) h8]; rfl
        · skip
          have h10 := f_dec h8
          refine a_skip ?_
          show A _ _ _ _ _ _ _
          refine a_region ?_
          refine rg_put (d := 19) (v := .d (.fl (.int .i64 (k : Int)))) rfl (og rfl (op_move rfl rfl rfl)) ?_
          refine rg_put (d := 20) (v := .d (.fl (.int .i64 (((k : Int) + 1))))) rfl (og rfl (op_bin rfl rfl rfl (fun x y w => b_add64 _ _ _ x y w (by omega)) rfl)) ?_
          refine rg_put (d := 3) (v := .d (.fl (.int .i64 (((k : Int) + 1))))) rfl (og rfl (op_assign rfl rfl rfl)) ?_
          refine rg_done rfl ?_
          have hx : decide (100 < ((ix e.posts k).acc.size : Int)) = false := h8
          show ∃ i, _ ∧ _ ∧ Imp _ _ _ _ _
          refine ⟨k + 1, ⟨by omega, fun q h => (Nat.lt_succ_iff_lt_or_eq.1 h).elim (hq q) (fun e => by rw [e]; exact hx)⟩, by omega, imp_forget rfl ⟨rfl, rfl, rfl, (by first | rfl | exact ci (by omega) | exact ci (by simp) | exact cd (by simp) | simp), trivial⟩ ⟨rfl, trivial⟩⟩
      · skip
        have h11 := f_dec h6
        refine a_exit ?_
        show A _ _ _ _ _ _ _
        refine a_rseq ?_
        refine rg_put (d := 2) (v := .d (.fl (.bool true))) rfl (og rfl (op_assign rfl rfl rfl)) ?_
        refine rg_done rfl ?_
        refine a_ret ?_
        show ∃ ds, ResL _ _ _ ds ∧ RV.of ds = _
        refine ⟨[.fl (.bool true)], (.cons (.tmp rfl (.d _)) .nil), ?_⟩
        rw [sml_y (by simp only [h1, h3] <;> rfl) (fun q h => hq q (by omega))]; rfl
  · skip
    have h12 := t_dec h1
    refine rg_put (d := 9) (v := .d (.fl undef)) rfl (on rfl rfl rfl h1) ?_
    refine rg_put (d := 10) (v := .d (.fl undef)) rfl (on rfl rfl rfl h1) ?_
    refine rg_put (d := 11) (v := .d (.fl undef)) rfl (on rfl rfl rfl h1) ?_
    refine rg_put (d := 12) (v := .d (.fl undef)) rfl (on rfl rfl rfl h1) ?_
    refine rg_put (d := 13) (v := .d (.fl (.bool true))) rfl (og rfl (op_pick rfl rfl (by rw [h1]; rfl) rfl)) ?_
    refine rg_done rfl ?_
    refine a_condK rfl rfl ?_
    refine a_rseq ?_
    refine rg_put (d := 2) (v := .d (.fl (.bool false))) rfl (og rfl (op_assign rfl rfl rfl)) ?_
    refine rg_done rfl ?_
    refine a_ret ?_
    show ∃ ds, ResL _ _ _ ds ∧ RV.of ds = _
    refine ⟨[.fl (.bool false)], (.cons (.tmp rfl (.d _)) .nil), ?_⟩
    rw [sml_0 (by simp only [h1, Bool.true_or, Bool.false_or, Bool.or_true, Bool.or_false, Bool.not_true, Bool.not_false, cond_true, cond_false, Bool.true_and, Bool.false_and, Bool.and_true, Bool.and_false] <;> rfl)]; rfl
end Go.Proofs.Ytmmadlhkniikdaa.Wk
