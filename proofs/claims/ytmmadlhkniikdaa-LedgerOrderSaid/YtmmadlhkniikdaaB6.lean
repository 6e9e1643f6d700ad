/- Ledgers of entries, their accounts' balances. Condition: few entries, amounts that fit. -/
import Derived.Test.YtmmadlhkniikdaaB5
set_option linter.unusedSimpArgs false
set_option linter.unusedVariables false
namespace Go.Proofs.Ytmmadlhkniikdaa.Wk
open Go Go.RowKit Go.Proofs.Ytmmadlhkniikdaa.Av
noncomputable def bld (l : List En) : Nat → List En
  | 0 => []
  | k + 1 => (pst (bld l k) (ix l k)).1
noncomputable def bR (l : List En) : Nat → Nat → List En × Bool
  | k, 0 => (bld l k, true)
  | k, n + 1 => bif sml (ix l k) then bR l (k + 1) n else (bld l k, false)
noncomputable def bdR (l : List En) : List En × Bool := if 40 < l.length then ([], false) else bR l 0 l.length
theorem bR_y {l : List En} {k : Nat} (hk : k < l.length) (h : sml (ix l k) = true) : bR l k (l.length - k) = bR l (k + 1) (l.length - (k + 1)) := by
  rw [show l.length - k = (l.length - (k + 1)) + 1 by omega]; simp only [bR, h, cond_true]
theorem bR_n {l : List En} {k : Nat} (hk : k < l.length) (h : sml (ix l k) = false) : bR l k (l.length - k) = (bld l k, false) := by
  rw [show l.length - k = (l.length - (k + 1)) + 1 by omega]; simp only [bR, h, cond_false]
theorem bR_e {l : List En} {k : Nat} (hk : ¬ k < l.length) (hl : k ≤ l.length) : bR l k (l.length - k) = (bld l l.length, true) := by
  rw [show l.length - k = 0 by omega, show k = l.length by omega]; rfl
theorem bR_t {l : List En} : ∀ n k, k + n = l.length → (bR l k n).2 = true → (∀ q, k ≤ q → q < l.length → sml (ix l q) = true) ∧ (bR l k n).1 = bld l l.length
  | 0, k, h, _ => ⟨fun q h1 h2 => by omega, by rw [show k = l.length by omega]; rfl⟩
  | n + 1, k, h, hb => by
    cases hs : sml (ix l k) with
    | false => simp only [bR, hs, cond_false] at hb; cases hb
    | true =>
      simp only [bR, hs, cond_true] at hb ⊢
      obtain ⟨h1, h2⟩ := bR_t n (k + 1) (by omega) hb
      refine ⟨fun q h3 h4 => ?_, h2⟩
      rcases Nat.lt_or_ge k q with e | e
      · exact h1 q (by omega) h4
      · rw [show q = k by omega]; exact hs
theorem bdR_t {l : List En} (h : (bdR l).2 = true) : l.length ≤ 40 ∧ (∀ q, q < l.length → sml (ix l q) = true) ∧ (bdR l).1 = bld l l.length := by
  unfold bdR at h ⊢
  by_cases hl : 40 < l.length
  · rw [if_pos hl] at h; cases h
  · rw [if_neg hl] at h ⊢
    obtain ⟨h1, h2⟩ := bR_t l.length 0 (by omega) h
    exact ⟨by omega, fun q hq => h1 q (by omega) hq, h2⟩
/-- an entry that was accepted -/
structure gdE (e : En) : Prop where
  s : sml e = true
  c : lck e = 0
theorem gdE.ok {e : En} (h : gdE e) : okE e := by
  obtain ⟨h1, h2, h3⟩ := sml_t h.s
  exact ok_of h1 h2 h3 h.c
theorem pst_cases (l : List En) (e : En) : ((pst l e).1 = l ∧ (pst l e).2 ≠ 0) ∨ ((pst l e).1 = l ++ [e] ∧ (pst l e).2 = 0 ∧ lck e = 0 ∧ l.any (kq e.key) = false) := by
  unfold pst
  by_cases h : lck e = 0
  · rw [if_neg (by omega)]
    by_cases h2 : l.any (kq e.key) = true
    · rw [if_pos h2]; exact .inl ⟨rfl, by simp⟩
    · rw [if_neg h2]
      by_cases h3 : e.posts.all (okp l e) = true
      · rw [if_pos h3]; exact .inr ⟨rfl, rfl, h, by simpa using h2⟩
      · rw [if_neg h3]; exact .inl ⟨rfl, by simp⟩
  · rw [if_pos h]; exact .inl ⟨rfl, h⟩
theorem bld_in {l : List En} (hs : ∀ q, q < l.length → sml (ix l q) = true) : ∀ k, k ≤ l.length → (bld l k).length ≤ k ∧ (∀ x ∈ bld l k, gdE x) ∧ ((bld l k).length = k → bld l k = l.take k)
  | 0, _ => ⟨Nat.le_refl _, fun x h => (by cases h), fun _ => by simp [bld]⟩
  | k + 1, hk => by
    obtain ⟨h1, h2, h3⟩ := bld_in hs k (by omega)
    rcases pst_cases (bld l k) (ix l k) with ⟨e, _⟩ | ⟨e, _, c, _⟩
    · have e' : bld l (k + 1) = bld l k := e
      rw [e']; exact ⟨by omega, h2, fun h => by omega⟩
    · have e' : bld l (k + 1) = bld l k ++ [ix l k] := e
      rw [e']
      refine ⟨by rw [List.length_append]; simp; omega, fun x hx => ?_, fun h => ?_⟩
      · rcases List.mem_append.1 hx with hx | hx
        · exact h2 x hx
        · rw [List.mem_singleton] at hx; rw [hx]; exact ⟨hs k (by omega), c⟩
      · rw [List.length_append] at h
        simp at h
        rw [h3 h, take_ix (by omega)]
theorem bld_ok {l : List En} (hl : l.length ≤ 42) (hs : ∀ q, q < l.length → sml (ix l q) = true) {k : Nat} (hk : k ≤ l.length) : okL (bld l k) := by
  obtain ⟨h1, h2, _⟩ := bld_in hs k hk
  exact ⟨by omega, fun x hx => (h2 x hx).ok⟩
/-! ### sums over accounts -/
def sA (l : List En) (u : List ByteArray) : Nat → Int
  | 0 => 0
  | k + 1 => sA l u k + bal l (ix u k)
def inP (u : List ByteArray) (p : Po) : Int := bif u.any (fun y => sEq y p.acc) then p.cents else 0
def sP (u : List ByteArray) (ps : List Po) : Nat → Int
  | 0 => 0
  | k + 1 => sP u ps k + inP u (ix ps k)
def sE (u : List ByteArray) (l : List En) : Nat → Int
  | 0 => 0
  | i + 1 => sE u l i + sP u (ix l i).posts (ix l i).posts.length
theorem sm_map {α : Type} (f g : α → Int) : ∀ u : List α, (u.map fun a => f a + g a).sum = (u.map f).sum + (u.map g).sum
  | [] => rfl
  | a :: u => by simp only [List.map_cons, List.sum_cons]; rw [sm_map f g u]; omega
theorem sm_one (p : Po) : ∀ u : List ByteArray, u.Nodup → (u.map fun a => bif sEq p.acc a then p.cents else 0).sum = inP u p
  | [], _ => rfl
  | a :: u, hn => by
    have ih := sm_one p u (List.nodup_cons.1 hn).2
    simp only [List.map_cons, List.sum_cons]
    rw [ih]
    unfold inP
    rw [List.any_cons]
    cases h : sEq p.acc a with
    | true =>
      have : u.any (fun y => sEq y p.acc) = false := List.any_eq_false.2 fun y hy he => (List.nodup_cons.1 hn).1 (by rw [← sEq_eq h, ← sEq_eq he]; exact hy)
      rw [this, sEq_of (sEq_eq h).symm]; simp
    | false =>
      have : sEq a p.acc = false := by
        cases hq : sEq a p.acc with
        | false => rfl
        | true => rw [sEq_of (sEq_eq hq).symm] at h; cases h
      rw [this]; simp
theorem sm_pb (u : List ByteArray) (hn : u.Nodup) (ps : List Po) : ∀ k, (u.map fun a => pb ps a k).sum = sP u ps k
  | 0 => by
    have : ∀ u : List ByteArray, (u.map fun a => pb ps a 0).sum = 0 := fun u => by
      induction u with
      | nil => rfl
      | cons a u ih => simp only [List.map_cons, List.sum_cons, ih]; rfl
    exact this u
  | k + 1 => by
    simp only [pb, sP]
    rw [sm_map (fun a => pb ps a k) (fun a => bif sEq (ix ps k).acc a then (ix ps k).cents else 0), sm_pb u hn ps k, sm_one _ u hn]
theorem sm_bl (u : List ByteArray) (hn : u.Nodup) (l : List En) : ∀ i, (u.map fun a => bl l a i).sum = sE u l i
  | 0 => by
    have : ∀ u : List ByteArray, (u.map fun a => bl l a 0).sum = 0 := fun u => by
      induction u with
      | nil => rfl
      | cons a u ih => simp only [List.map_cons, List.sum_cons, ih]; rfl
    exact this u
  | i + 1 => by
    simp only [bl, sE]
    rw [sm_map (fun a => bl l a i) (fun a => pb (ix l i).posts a (ix l i).posts.length), sm_bl u hn l i, sm_pb u hn]
theorem sA_sum (l : List En) (u : List ByteArray) : ∀ k, k ≤ u.length → sA l u k = ((u.take k).map (bal l)).sum
  | 0, _ => by simp [sA]
  | k + 1, hk => by
    rw [take_ix (by omega), List.map_append, List.sum_append, ← sA_sum l u k (by omega)]
    simp [sA]
theorem sA_E {l : List En} {u : List ByteArray} (hn : u.Nodup) {k : Nat} (hk : k ≤ u.length) : sA l u k = sE (u.take k) l l.length := by
  rw [sA_sum l u k hk]
  exact sm_bl _ (hn.sublist (List.take_sublist _ _)) l l.length
theorem sP_in {u : List ByteArray} {ps : List Po} (h : ∀ p ∈ ps, -1125899906842624 ≤ p.cents ∧ p.cents ≤ 1125899906842624) : ∀ k, k ≤ ps.length → -(1125899906842624 * (k : Int)) ≤ sP u ps k ∧ sP u ps k ≤ 1125899906842624 * (k : Int)
  | 0, _ => by simp [sP]
  | k + 1, hk => by
    have ih := sP_in h (u := u) k (by omega)
    have hc := h _ (ix_mem (by omega : k < ps.length))
    simp only [sP, inP]
    cases u.any (fun y => sEq y (ix ps k).acc) <;> simp only [cond_true, cond_false] <;> omega
theorem sE_in {u : List ByteArray} {l : List En} (h : ∀ x ∈ l, okE x) : ∀ i, i ≤ l.length → -(45035996273704960 * (i : Int)) ≤ sE u l i ∧ sE u l i ≤ 45035996273704960 * (i : Int)
  | 0, _ => by simp [sE]
  | i + 1, hi => by
    have ih := sE_in h (u := u) i (by omega)
    have he := h _ (ix_mem (by omega : i < l.length))
    have hc := sP_in he.c (u := u) (ix l i).posts.length (Nat.le_refl _)
    have := he.l
    simp only [sE]; omega
theorem sA_in {l : List En} (h : okL l) {u : List ByteArray} (hn : u.Nodup) {k : Nat} (hk : k ≤ u.length) : -1891511843495608320 ≤ sA l u k ∧ sA l u k ≤ 1891511843495608320 := by
  rw [sA_E hn hk]
  have := sE_in h.e (u := u.take k) l.length (Nat.le_refl _)
  have := h.n
  omega
theorem sP_all {u : List ByteArray} {ps : List Po} : ∀ k, (∀ q, q < k → (ix ps q).acc ∈ u) → sP u ps k = sm ps k
  | 0, _ => rfl
  | k + 1, h => by
    simp only [sP, sm]
    rw [sP_all k (fun q hq => h q (by omega))]
    unfold inP
    rw [List.any_eq_true.2 ⟨_, h k (by omega), by simp [sEq]⟩]; rfl
theorem sE_zero {l : List En} (hz : ∀ x ∈ l, gdE x) {u : List ByteArray} : ∀ i, i ≤ l.length → (∀ j, j < i → ∀ q, q < (ix l j).posts.length → (ix (ix l j).posts q).acc ∈ u) → sE u l i = 0
  | 0, _, _ => rfl
  | i + 1, hi, h => by
    simp only [sE]
    rw [sE_zero hz i (by omega) (fun j hj => h j (by omega)), sP_all _ (h i (by omega)), (lck_0 (hz _ (ix_mem (by omega : i < l.length))).c).2.1]; rfl
theorem sA_zero {l : List En} (hz : ∀ x ∈ l, gdE x) : sA l (srtS (acL l l.length)) (srtS (acL l l.length)).length = 0 := by
  have hp := srtS_perm (acL l l.length)
  rw [sA_E (hp.symm.nodup (acL_nd _ _)) (Nat.le_refl _), List.take_length]
  exact sE_zero hz _ (Nat.le_refl _) fun j hj q hq => hp.symm.subset ((acL_mem _).2 ⟨j, q, hj, hq, rfl⟩)
theorem tr_sm (ps : List Po) : ∀ k, ps1 gD ps k - ps1 gC ps k = sm ps k
  | 0 => rfl
  | k + 1 => by
    have := tr_sm ps k
    simp only [ps1, sm, gD, gC]; omega
theorem tr_eq {l : List En} (hz : ∀ x ∈ l, gdE x) : ∀ i, i ≤ l.length → es1 gD l i = es1 gC l i
  | 0, _ => rfl
  | i + 1, hi => by
    have ih := tr_eq hz i (by omega)
    have h1 := tr_sm (ix l i).posts (ix l i).posts.length
    have h2 := (lck_0 (hz _ (ix_mem (by omega : i < l.length))).c).2.1
    simp only [es1]; omega
/-! ### turned -/
theorem bl_sum (l : List En) (a : ByteArray) : ∀ k, k ≤ l.length → bl l a k = ((l.take k).map fun e => pb e.posts a e.posts.length).sum
  | 0, _ => by simp [bl]
  | k + 1, hk => by
    rw [take_ix (by omega), List.map_append, List.sum_append, ← bl_sum l a k (by omega)]
    simp [bl]
theorem bal_sum (l : List En) (a : ByteArray) : bal l a = (l.map fun e => pb e.posts a e.posts.length).sum := by
  unfold bal; rw [bl_sum l a _ (Nat.le_refl _), List.take_length]
theorem isum_perm {l m : List Int} (h : l.Perm m) : l.sum = m.sum := by
  induction h with
  | nil => rfl
  | cons x _ ih => simp only [List.sum_cons, ih]
  | swap x y l => simp only [List.sum_cons]; omega
  | trans _ _ h1 h2 => exact h1.trans h2
theorem bal_perm {l m : List En} (h : l.Perm m) (a : ByteArray) : bal l a = bal m a := by
  rw [bal_sum, bal_sum]; exact isum_perm (h.map _)
theorem acL_in {l : List En} {x : ByteArray} : x ∈ acL l l.length ↔ ∃ e ∈ l, ∃ p ∈ e.posts, p.acc = x := by
  rw [acL_mem]
  constructor
  · rintro ⟨j, q, h1, h2, h3⟩; exact ⟨_, ix_mem h1, _, ix_mem h2, h3⟩
  · rintro ⟨e, he, p, hp, h⟩
    obtain ⟨j, hj, rfl⟩ := mem_ix he
    obtain ⟨q, hq, rfl⟩ := mem_ix hp
    exact ⟨j, q, hj, hq, h⟩
theorem ac_perm {l m : List En} (h : l.Perm m) : srtS (acL l l.length) = srtS (acL m m.length) :=
  srtS_same (acL_nd _ _) (acL_nd _ _) fun x => by
    rw [acL_in, acL_in]
    exact ⟨fun ⟨e, he, k⟩ => ⟨e, h.subset he, k⟩, fun ⟨e, he, k⟩ => ⟨e, h.symm.subset he, k⟩⟩
theorem rev_take {l : List En} {n : Nat} (h : n < l.length) : (l.drop (n + 1)).reverse ++ [ix l n] = (l.drop n).reverse := by
  rw [List.drop_eq_getElem_cons h, ix_eq h, List.reverse_cons]
theorem fdE_app {l : List En} {e : En} (h : l.any (kq e.key) = false) : fdE (l ++ [e]) e.key = (e, true) := by
  unfold fdE
  have : (l ++ [e]).find? (kq e.key) = some e := by
    rw [List.find?_append]
    have h1 : l.find? (kq e.key) = none := List.find?_eq_none.2 fun x hx hq => by have := List.any_eq_false.1 h x hx; exact this hq
    rw [h1]
    simp [kq, sEq]
  rw [this]
theorem any_app {l : List En} {e : En} : (l ++ [e]).any (kq e.key) = true := List.any_eq_true.2 ⟨e, by simp, by simp [kq, sEq]⟩

theorem ix_take {α : Type} [Inhabited α] {l : List α} {q n : Nat} (h : q < n) : ix (l.take n) q = ix l q := by
  unfold ix
  rw [List.getD_eq_getElem?_getD, List.getD_eq_getElem?_getD, List.getElem?_take, if_pos h]
theorem bld_take {l : List En} {n : Nat} : ∀ {k}, k ≤ n → k ≤ l.length → bld (l.take n) k = bld l k
  | 0, _, _ => rfl
  | k + 1, h1, h2 => by simp only [bld]; rw [bld_take (by omega) (by omega), ix_take (by omega)]

theorem bR_go {l : List En} : ∀ {k}, k ≤ l.length → (∀ q, q < k → sml (ix l q) = true) → bR l 0 l.length = bR l k (l.length - k)
  | 0, _, _ => rfl
  | k + 1, hk, hq => by rw [bR_go (k := k) (by omega) (fun q h => hq q (by omega)), bR_y (by omega) (hq k (by omega))]

set_option maxHeartbeats 4000000 in
set_option maxRecDepth 100000 in
theorem bldC (l : List En) : Ctr Try.prog 14 [.sl 3 (List.map eEn l)] (.tu [.ag (eLe ⟨(bdR l).1⟩), .fl (.bool (bdR l).2)]) := by
  refine ctr (n := 33) (rs := #[.cell 2 35, .tmp 3]) (L := [(0, .d (.sl 3 (List.map eEn l)))]) Try.func14 rfl rfl rfl rfl rfl (fun w0 U0 => ?_)
  refine a_rseq ?_
  refine rg_nam (d := 2) (v := .pt 101 0) (m := 101) (nw := [(101, .bx 35 [.fl (.slice none 0 0)])]) rfl (og rfl (of_eff (s_alloc 101 rfl ti35 (by kernel_rfl) rfl) rfl)) rfl ?_
  refine rg_put (d := 3) (v := .d (.fl (.bool false))) rfl (og rfl (op_assign rfl rfl rfl)) ?_
  refine rg_done rfl ?_
  refine a_rseq ?_
  refine rg_nam (d := 4) (v := .pt 102 0) (m := 102) (nw := [(102, .bx 35 [.fl (.slice none 0 0)])]) rfl (og rfl (of_eff (s_alloc 102 rfl ti35 (by kernel_rfl) rfl) rfl)) rfl ?_
  refine rg_done rfl ?_
  refine a_seq ?_
  refine a_rseq ?_
  refine rg_imp (imp_bt 102 rfl) ?_
  refine rg_imp (imp_btnil 102 0 24 3 rfl rfl) ?_
  refine rg_imp (imp_leakBt 102 (ds := [.sl 3 (List.map eEn ([] : List En))]) rfl rfl rfl) ?_
  refine rg_put (d := 6) (v := .d (.sl 3 (List.map eEn l))) rfl (og rfl (op_move rfl rfl rfl)) ?_
  refine rg_put (d := 7) (v := .d (.fl (.int .i64 (l.length : Int)))) rfl (og rfl (s_len rfl Try.underlying33 rfl rfl)) ?_
  refine rg_put (d := 8) (v := .d (.fl (.bool ((decide (40 < (l.length : Int))))))) rfl (og rfl (op_bin rfl rfl rfl (b_gtr _ _ _ _) rfl)) ?_
  refine rg_done rfl ?_
  refine a_cond rfl (fun h1 => ?_) (fun h1 => ?_)
  · skip
    have h2 := t_dec h1
    refine a_rseq ?_
    refine rg_put (d := 9) (v := .d (.ag (eLe (Led.mk [])))) rfl (og rfl (of_eff (s_load_pts rfl Try.underlying35 rfl ti35 rfl rfl rfl rfl) rfl)) ?_
    refine rg_sto (nw := [(101, .bx 35 ((eLe (Led.mk []))))]) rfl (og rfl (of_eff (s_store rfl rfl ti35 rfl rfl rfl rfl rfl rfl) rfl)) ?_
    refine rg_put (d := 3) (v := .d (.fl (.bool false))) rfl (og rfl (op_assign rfl rfl rfl)) ?_
    refine rg_done rfl ?_
    refine a_ret ?_
    show ∃ ds, ResL _ _ _ ds ∧ RV.of ds = _
    refine ⟨[.ag [.sl 3 (List.map eEn ((Led.mk []).ents))], .fl (.bool false)], (.cons (.cellT rfl rfl Try.underlying35 rfl ti35 rfl (Cv.ag (xs := [.sl 3 (List.map eEn ((Led.mk []).ents))]) (ys := [.sl 3 (List.map eEn ((Led.mk []).ents))]) ⟨Cv.refl _, trivial⟩)) (.cons (.tmp rfl (.d _)) .nil)), ?_⟩
    rw [show bdR l = ([], false) from if_pos (by omega)]; rfl
  · skip
    have h3 := f_dec h1
    refine a_skip ?_
    show A _ _ _ _ _ _ _
    refine a_seq ?_
    refine a_rseq ?_
    refine rg_put (d := 5) (v := .d (.fl (.int .i64 0))) rfl (og rfl (op_assign rfl rfl rfl)) ?_
    refine rg_done rfl ?_
    refine a_block ?_
    refine a_loop (ι := Nat) (fun k => SS [(0, .d (.sl 3 (List.map eEn l))), (2, .pt 101 0), (4, .pt 102 0), (8, .d (.fl (.bool ((decide (40 < (l.length : Int))))))), (5, .d (.fl (.int .i64 (k : Int))))] [(101, .bx 35 [.fl (.slice none 0 0)]), (102, .bx 35 [.sl 3 (List.map eEn (bld l k))])]) (fun k => k ≤ l.length ∧ ∀ q, q < k → sml (ix l q) = true) (fun k => l.length - k) 0 (⟨by omega, fun q h => by omega⟩) (imp_forget rfl ⟨rfl, rfl, rfl, rfl, (by first | rfl | exact ci (by omega) | exact ci (by simp) | exact cd (by simp) | simp), trivial⟩ ⟨rfl, rfl, trivial⟩) (fun k hok => ?_)
    obtain ⟨hk, hq⟩ := hok
    refine a_seq ?_
    refine a_rseq ?_
    refine rg_put (d := 10) (v := .d (.fl (.int .i64 (k : Int)))) rfl (og rfl (op_move rfl rfl rfl)) ?_
    refine rg_put (d := 11) (v := .d (.sl 3 (List.map eEn l))) rfl (og rfl (op_move rfl rfl rfl)) ?_
    refine rg_put (d := 12) (v := .d (.fl (.int .i64 (l.length : Int)))) rfl (og rfl (s_len rfl Try.underlying33 rfl rfl)) ?_
    refine rg_put (d := 13) (v := .d (.fl (.bool ((decide ((k : Int) < (l.length : Int))))))) rfl (og rfl (op_bin rfl rfl rfl (b_lss _ _ _ _) rfl)) ?_
    refine rg_done rfl ?_
    refine a_cond rfl (fun h4 => ?_) (fun h4 => ?_)
    · skip
      have h5 := t_dec h4
      refine a_skip ?_
      show A _ _ _ _ _ _ _
      refine a_seq ?_
      refine a_block ?_
      refine a_seq ?_
      refine a_rseq ?_
      refine rg_put (d := 16) (v := .d (.sl 3 (List.map eEn l))) rfl (og rfl (op_move rfl rfl rfl)) ?_
      refine rg_put (d := 17) (v := .d (.fl (.int .i64 (k : Int)))) rfl (og rfl (op_move rfl rfl rfl)) ?_
      refine rg_put (d := 18) (v := .el ((eEn (ix l k)))) rfl (og rfl (s_index rfl Try.underlying33 ti24 rfl rfl (by omega) (row_at (by omega)) rfl)) ?_
      refine rg_put (d := 19) (v := .d (.ag (eEn (ix l k)))) rfl (og rfl (of_eff (s_load_els rfl Try.underlying24 rfl ti24 rfl rfl rfl) rfl)) ?_
      refine rg_put (d := 20) (v := .d (.fl (.bool ((sml (ix l k)))))) rfl (og rfl (op_call rfl Try.func10 nm10 rfl (.cons rfl (.d _) .nil) (sml10 (ix l k)) rfl)) ?_
      refine rg_put (d := 21) (v := .d (.fl (.bool ((!((sml (ix l k)))))))) rfl (og rfl (op_un rfl rfl (u_not _) rfl)) ?_
      refine rg_done rfl ?_
      refine a_cond rfl (fun h6 => ?_) (fun h6 => ?_)
      · skip
        have h7 := t_not h6
        refine a_rseq ?_
        refine rg_put (d := 22) (v := .d (.ag (eLe ((Led.mk (bld l k)))))) rfl (og rfl (of_eff (s_load_pts rfl Try.underlying35 rfl ti35 rfl rfl rfl rfl) rfl)) ?_
        refine rg_sto (nw := [(101, .bx 35 ((eLe ((Led.mk (bld l k))))))]) rfl (og rfl (of_eff (s_store rfl rfl ti35 rfl rfl rfl rfl rfl rfl) rfl)) ?_
        refine rg_put (d := 3) (v := .d (.fl (.bool false))) rfl (og rfl (op_assign rfl rfl rfl)) ?_
        refine rg_done rfl ?_
        refine a_ret ?_
        show ∃ ds, ResL _ _ _ ds ∧ RV.of ds = _
        refine ⟨[.ag [.sl 3 (List.map eEn (((Led.mk (bld l k))).ents))], .fl (.bool false)], (.cons (.cellT rfl rfl Try.underlying35 rfl ti35 rfl (Cv.ag (xs := [.sl 3 (List.map eEn (((Led.mk (bld l k))).ents))]) (ys := [.sl 3 (List.map eEn (((Led.mk (bld l k))).ents))]) ⟨Cv.refl _, trivial⟩)) (.cons (.tmp rfl (.d _)) .nil)), ?_⟩
        have hbd : bdR l = bR l 0 l.length := if_neg (by omega)
        rw [hbd, show bR l 0 l.length = (bld l k, false) from (bR_go (Nat.le_of_lt (by omega)) hq).trans (bR_n (by omega) h7)]; rfl
      · skip
        have h8 := f_not h6
        refine a_skip ?_
        show A _ _ _ _ _ _ _
        refine a_draw (by kernel_rfl) ?_
        have hsk := sml_t h8
        have hbb := bld_in (l := l.take (k + 1)) (fun q h => by rw [List.length_take] at h; rw [ix_take (by omega)]; rcases Nat.lt_succ_iff_lt_or_eq.1 (show q < k + 1 by omega) with e | e <;> first | exact hq q e | (rw [e]; exact h8)) k (by rw [List.length_take]; omega)
        have hbe : bld (l.take (k + 1)) k = bld l k := bld_take (by omega) (by omega)
        rw [hbe] at hbb
        have hbl := hbb.1
        have hbo : okL (bld l k) := ⟨by omega, fun x hx => (hbb.2.1 x hx).ok⟩
        refine dr_put (d := 24) (v := .d (.ag (eLe ((Led.mk (bld l k)))))) rfl (og rfl (of_eff (s_load_pts rfl Try.underlying35 rfl ti35 rfl rfl rfl rfl) rfl)) ?_
        refine dr_put (d := 25) (v := .d (.sl 3 (List.map eEn l))) rfl (og rfl (op_move rfl rfl rfl)) ?_
        refine dr_put (d := 26) (v := .d (.fl (.int .i64 (k : Int)))) rfl (og rfl (op_move rfl rfl rfl)) ?_
        refine dr_put (d := 27) (v := .el ((eEn (ix l k)))) rfl (og rfl (s_index rfl Try.underlying33 ti24 rfl rfl (by omega) (row_at (by omega)) rfl)) ?_
        refine dr_put (d := 28) (v := .d (.ag (eEn (ix l k)))) rfl (og rfl (of_eff (s_load_els rfl Try.underlying24 rfl ti24 rfl rfl rfl) rfl)) ?_
        refine dr_put (d := 29) (v := .tu [.ag (eLe ((Led.mk (pst ((Led.mk (bld l k))).ents (ix l k)).1))), .fl (.int .i64 ((pst ((Led.mk (bld l k))).ents (ix l k)).2))]) rfl (og rfl (op_call rfl Try.func16 nm16 rfl (.cons rfl (.d _) (.cons rfl (.d _) .nil)) (postR ((Led.mk (bld l k))) (ix l k) hbo (by have := hbl; show (bld l k).length ≤ 41; omega) hsk.1 hsk.2.1 hsk.2.2) rfl)) ?_
        refine dr_put (d := 23) (v := .tu [.ag (eLe ((Led.mk (pst ((Led.mk (bld l k))).ents (ix l k)).1))), .fl (.int .i64 ((pst ((Led.mk (bld l k))).ents (ix l k)).2))]) rfl (og rfl (op_move rfl rfl rfl)) ?_
        refine dr_put (d := 30) (v := .d (.ag (eLe ((Led.mk (pst ((Led.mk (bld l k))).ents (ix l k)).1))))) rfl (og rfl (op_extract rfl rfl rfl rfl)) ?_
        refine dr_put (d := 31) (v := .d (.fl (.int .i64 ((pst ((Led.mk (bld l k))).ents (ix l k)).2)))) rfl (og rfl (op_extract rfl rfl rfl rfl)) ?_
        refine dr_sto (nw := [(102, .bx 35 ((eLe ((Led.mk (pst ((Led.mk (bld l k))).ents (ix l k)).1)))))]) rfl (og rfl (of_eff (s_store rfl rfl ti35 rfl rfl rfl rfl rfl rfl) rfl)) ?_
        refine dr_done rfl (by kernel_rfl) (by kernel_rfl) ?_
        show A _ _ _ _ _ _ _
        refine a_region ?_
        refine rg_put (d := 14) (v := .d (.fl (.int .i64 (k : Int)))) rfl (og rfl (op_move rfl rfl rfl)) ?_
        refine rg_put (d := 15) (v := .d (.fl (.int .i64 (((k : Int) + 1))))) rfl (og rfl (op_bin rfl rfl rfl (fun x y w => b_add64 _ _ _ x y w (by omega)) rfl)) ?_
        refine rg_put (d := 5) (v := .d (.fl (.int .i64 (((k : Int) + 1))))) rfl (og rfl (op_assign rfl rfl rfl)) ?_
        refine rg_done rfl ?_
        have hx : sml (ix l k) = true := h8
        show ∃ i, _ ∧ _ ∧ Imp _ _ _ _ _
        refine ⟨k + 1, ⟨by omega, fun q h => (Nat.lt_succ_iff_lt_or_eq.1 h).elim (hq q) (fun e => by rw [e]; exact hx)⟩, by omega, imp_forget rfl ⟨rfl, rfl, rfl, rfl, (by first | rfl | exact ci (by omega) | exact ci (by simp) | exact cd (by simp) | simp), trivial⟩ ⟨rfl, rfl, trivial⟩⟩
    · skip
      have h9 := f_dec h4
      refine a_exit ?_
      show A _ _ _ _ _ _ _
      refine a_rseq ?_
      refine rg_put (d := 32) (v := .d (.ag (eLe ((Led.mk (bld l k)))))) rfl (og rfl (of_eff (s_load_pts rfl Try.underlying35 rfl ti35 rfl rfl rfl rfl) rfl)) ?_
      refine rg_sto (nw := [(101, .bx 35 ((eLe ((Led.mk (bld l k))))))]) rfl (og rfl (of_eff (s_store rfl rfl ti35 rfl rfl rfl rfl rfl rfl) rfl)) ?_
      refine rg_put (d := 3) (v := .d (.fl (.bool true))) rfl (og rfl (op_assign rfl rfl rfl)) ?_
      refine rg_done rfl ?_
      refine a_ret ?_
      show ∃ ds, ResL _ _ _ ds ∧ RV.of ds = _
      refine ⟨[.ag [.sl 3 (List.map eEn (((Led.mk (bld l k))).ents))], .fl (.bool true)], (.cons (.cellT rfl rfl Try.underlying35 rfl ti35 rfl (Cv.ag (xs := [.sl 3 (List.map eEn (((Led.mk (bld l k))).ents))]) (ys := [.sl 3 (List.map eEn (((Led.mk (bld l k))).ents))]) ⟨Cv.refl _, trivial⟩)) (.cons (.tmp rfl (.d _)) .nil)), ?_⟩
      have hbd : bdR l = bR l 0 l.length := if_neg (by omega)
      rw [hbd, show bR l 0 l.length = (bld l l.length, true) from (bR_go (by omega) hq).trans (bR_e (by omega) (by omega)), show l.length = k from by omega]; rfl
set_option maxHeartbeats 4000000 in
set_option maxRecDepth 100000 in
theorem pstL (l : List En) (hl : l.length ≤ 41) (hs : ∀ q, q < l.length → sml (ix l q) = true) : Ctr Try.prog 30 [.sl 3 (List.map eEn l)] (.d (.ag (eLe ⟨bld l l.length⟩))) := by
  refine ctr (n := 21) (rs := #[.cell 2 35]) (L := [(0, .d (.sl 3 (List.map eEn l)))]) Try.func30 rfl rfl rfl rfl rfl (fun w0 U0 => ?_)
  refine a_rseq ?_
  refine rg_nam (d := 2) (v := .pt 101 0) (m := 101) (nw := [(101, .bx 35 [.fl (.slice none 0 0)])]) rfl (og rfl (of_eff (s_alloc 101 rfl ti35 (by kernel_rfl) rfl) rfl)) rfl ?_
  refine rg_done rfl ?_
  refine a_rseq ?_
  refine rg_nam (d := 3) (v := .pt 102 0) (m := 102) (nw := [(102, .bx 35 [.fl (.slice none 0 0)])]) rfl (og rfl (of_eff (s_alloc 102 rfl ti35 (by kernel_rfl) rfl) rfl)) rfl ?_
  refine rg_done rfl ?_
  refine a_seq ?_
  refine a_rseq ?_
  refine rg_imp (imp_bt 102 rfl) ?_
  refine rg_imp (imp_btnil 102 0 24 3 rfl rfl) ?_
  refine rg_imp (imp_leakBt 102 (ds := [.sl 3 (List.map eEn ([] : List En))]) rfl rfl rfl) ?_
  refine rg_put (d := 4) (v := .d (.fl (.int .i64 0))) rfl (og rfl (op_assign rfl rfl rfl)) ?_
  refine rg_done rfl ?_
  refine a_block ?_
  refine a_loop (ι := Nat) (fun k => SS [(0, .d (.sl 3 (List.map eEn l))), (2, .pt 101 0), (3, .pt 102 0), (4, .d (.fl (.int .i64 (k : Int))))] [(101, .bx 35 [.fl (.slice none 0 0)]), (102, .bx 35 [.sl 3 (List.map eEn (bld l k))])]) (fun k => k ≤ l.length) (fun k => l.length - k) 0 (by omega) (imp_forget rfl ⟨rfl, rfl, rfl, (by first | rfl | exact ci (by omega) | exact ci (by simp) | exact cd (by simp) | simp), trivial⟩ ⟨rfl, rfl, trivial⟩) (fun k hok => ?_)
  have hk := hok
  refine a_seq ?_
  refine a_rseq ?_
  refine rg_put (d := 5) (v := .d (.fl (.int .i64 (k : Int)))) rfl (og rfl (op_move rfl rfl rfl)) ?_
  refine rg_put (d := 6) (v := .d (.sl 3 (List.map eEn l))) rfl (og rfl (op_move rfl rfl rfl)) ?_
  refine rg_put (d := 7) (v := .d (.fl (.int .i64 (l.length : Int)))) rfl (og rfl (s_len rfl Try.underlying33 rfl rfl)) ?_
  refine rg_put (d := 8) (v := .d (.fl (.bool ((decide ((k : Int) < (l.length : Int))))))) rfl (og rfl (op_bin rfl rfl rfl (b_lss _ _ _ _) rfl)) ?_
  refine rg_done rfl ?_
  refine a_cond rfl (fun h1 => ?_) (fun h1 => ?_)
  · skip
    have h2 := t_dec h1
    refine a_skip ?_
    show A _ _ _ _ _ _ _
    refine a_seq ?_
    refine a_block ?_
    refine a_draw (by kernel_rfl) ?_
    have hsk := sml_t (hs k (by omega))
    have hbl := (bld_in hs k (by omega)).1
    have hbo := bld_ok (by omega) hs (show k ≤ l.length by omega)
    refine dr_put (d := 12) (v := .d (.ag (eLe ((Led.mk (bld l k)))))) rfl (og rfl (of_eff (s_load_pts rfl Try.underlying35 rfl ti35 rfl rfl rfl rfl) rfl)) ?_
    refine dr_put (d := 13) (v := .d (.sl 3 (List.map eEn l))) rfl (og rfl (op_move rfl rfl rfl)) ?_
    refine dr_put (d := 14) (v := .d (.fl (.int .i64 (k : Int)))) rfl (og rfl (op_move rfl rfl rfl)) ?_
    refine dr_put (d := 15) (v := .el ((eEn (ix l k)))) rfl (og rfl (s_index rfl Try.underlying33 ti24 rfl rfl (by omega) (row_at (by omega)) rfl)) ?_
    refine dr_put (d := 16) (v := .d (.ag (eEn (ix l k)))) rfl (og rfl (of_eff (s_load_els rfl Try.underlying24 rfl ti24 rfl rfl rfl) rfl)) ?_
    refine dr_put (d := 17) (v := .tu [.ag (eLe ((Led.mk (pst ((Led.mk (bld l k))).ents (ix l k)).1))), .fl (.int .i64 ((pst ((Led.mk (bld l k))).ents (ix l k)).2))]) rfl (og rfl (op_call rfl Try.func15 nm15 rfl (.cons rfl (.d _) (.cons rfl (.d _) .nil)) (postC ((Led.mk (bld l k))) (ix l k) hbo (by have := hbl; show (bld l k).length ≤ 41; omega) hsk.1 hsk.2.1 hsk.2.2) rfl)) ?_
    refine dr_put (d := 11) (v := .tu [.ag (eLe ((Led.mk (pst ((Led.mk (bld l k))).ents (ix l k)).1))), .fl (.int .i64 ((pst ((Led.mk (bld l k))).ents (ix l k)).2))]) rfl (og rfl (op_move rfl rfl rfl)) ?_
    refine dr_put (d := 18) (v := .d (.ag (eLe ((Led.mk (pst ((Led.mk (bld l k))).ents (ix l k)).1))))) rfl (og rfl (op_extract rfl rfl rfl rfl)) ?_
    refine dr_put (d := 19) (v := .d (.fl (.int .i64 ((pst ((Led.mk (bld l k))).ents (ix l k)).2)))) rfl (og rfl (op_extract rfl rfl rfl rfl)) ?_
    refine dr_sto (nw := [(102, .bx 35 ((eLe ((Led.mk (pst ((Led.mk (bld l k))).ents (ix l k)).1)))))]) rfl (og rfl (of_eff (s_store rfl rfl ti35 rfl rfl rfl rfl rfl rfl) rfl)) ?_
    refine dr_done rfl (by kernel_rfl) (by kernel_rfl) ?_
    show A _ _ _ _ _ _ _
    refine a_region ?_
    refine rg_put (d := 9) (v := .d (.fl (.int .i64 (k : Int)))) rfl (og rfl (op_move rfl rfl rfl)) ?_
    refine rg_put (d := 10) (v := .d (.fl (.int .i64 (((k : Int) + 1))))) rfl (og rfl (op_bin rfl rfl rfl (fun x y w => b_add64 _ _ _ x y w (by omega)) rfl)) ?_
    refine rg_put (d := 4) (v := .d (.fl (.int .i64 (((k : Int) + 1))))) rfl (og rfl (op_assign rfl rfl rfl)) ?_
    refine rg_done rfl ?_
    show ∃ i, _ ∧ _ ∧ Imp _ _ _ _ _
    refine ⟨k + 1, (by omega), by omega, imp_forget rfl ⟨rfl, rfl, rfl, (by first | rfl | exact ci (by omega) | exact ci (by simp) | exact cd (by simp) | simp), trivial⟩ ⟨rfl, rfl, trivial⟩⟩
  · skip
    have h3 := f_dec h1
    refine a_exit ?_
    show A _ _ _ _ _ _ _
    refine a_rseq ?_
    refine rg_put (d := 20) (v := .d (.ag (eLe ((Led.mk (bld l k)))))) rfl (og rfl (of_eff (s_load_pts rfl Try.underlying35 rfl ti35 rfl rfl rfl rfl) rfl)) ?_
    refine rg_sto (nw := [(101, .bx 35 ((eLe ((Led.mk (bld l k))))))]) rfl (og rfl (of_eff (s_store rfl rfl ti35 rfl rfl rfl rfl rfl rfl) rfl)) ?_
    refine rg_done rfl ?_
    refine a_ret ?_
    show ∃ ds, ResL _ _ _ ds ∧ RV.of ds = _
    refine ⟨[.ag [.sl 3 (List.map eEn (((Led.mk (bld l k))).ents))]], (.cons (.cellT rfl rfl Try.underlying35 rfl ti35 rfl (Cv.ag (xs := [.sl 3 (List.map eEn (((Led.mk (bld l k))).ents))]) (ys := [.sl 3 (List.map eEn (((Led.mk (bld l k))).ents))]) ⟨Cv.refl _, trivial⟩)) .nil), ?_⟩
    rw [show l.length = k from by omega]; rfl
set_option maxHeartbeats 4000000 in
set_option maxRecDepth 100000 in
theorem zerC (x : Led) (hx : okL x.ents) (hz : ∀ y ∈ x.ents, gdE y) : Ctr Try.prog 31 [.ag (eLe x)] (.d (.fl (.bool true))) := by
  refine ctr (n := 36) (rs := #[.tmp 2]) (L := [(0, .d (.ag (eLe x)))]) Try.func31 rfl rfl rfl rfl rfl (fun w0 U0 => ?_)
  refine a_rseq ?_
  refine rg_nam (d := 1) (v := .pt 101 0) (m := 101) (nw := [(101, .bx 35 (eLe x))]) rfl (og rfl (of_eff (op_box 101 rfl rfl rfl rfl) rfl)) rfl ?_
  refine rg_put (d := 2) (v := .d (.fl (.bool false))) rfl (og rfl (op_assign rfl rfl rfl)) ?_
  refine rg_done rfl ?_
  refine a_rseq ?_
  refine rg_put (d := 3) (v := .d (.fl (.int .i64 0))) rfl (og rfl (op_assign rfl rfl rfl)) ?_
  refine rg_done rfl ?_
  refine a_rseq ?_
  refine rg_put (d := 8) (v := .d (.ag (eLe x))) rfl (og rfl (of_eff (s_load_pts rfl Try.underlying35 rfl ti35 rfl rfl rfl rfl) rfl)) ?_
  refine rg_put (d := 9) (v := .d (.sl 1 (List.map rS ((srtS (acL x.ents x.ents.length)))))) rfl (og rfl (op_call rfl Try.func26 nm26 rfl (.cons rfl (.d _) .nil) (accC x hx) rfl)) ?_
  refine rg_put (d := 4) (v := .d (.sl 1 (List.map rS ((srtS (acL x.ents x.ents.length)))))) rfl (og rfl (op_assign rfl rfl rfl)) ?_
  refine rg_done rfl ?_
  refine a_seq ?_
  refine a_rseq ?_
  have hnd : (srtS (acL x.ents x.ents.length)).Nodup := (srtS_perm _).symm.nodup (acL_nd _ _)
  have hul : (srtS (acL x.ents x.ents.length)).length ≤ 1680 := by rw [srtS_len]; have := acL_len hx.e x.ents.length (Nat.le_refl _); have := hx.n; omega
  refine rg_put (d := 5) (v := .d (.fl (.int .i64 0))) rfl (og rfl (op_assign rfl rfl rfl)) ?_
  refine rg_done rfl ?_
  refine a_block ?_
  refine a_loop (ι := Nat) (fun i => SS [(0, .d (.ag (eLe x))), (1, .pt 101 0), (2, .d (.fl (.bool false))), (4, .d (.sl 1 (List.map rS ((srtS (acL x.ents x.ents.length)))))), (5, .d (.fl (.int .i64 (i : Int)))), (3, .d (.fl (.int .i64 ((sA x.ents (srtS (acL x.ents x.ents.length)) i)))))] [(101, .bx 35 (eLe x))]) (fun i => i ≤ (srtS (acL x.ents x.ents.length)).length) (fun i => (srtS (acL x.ents x.ents.length)).length - i) 0 (by omega) (imp_forget rfl ⟨rfl, rfl, rfl, rfl, (by first | rfl | exact ci (by omega) | exact ci (by simp) | exact cd (by simp) | simp), rfl, trivial⟩ ⟨rfl, trivial⟩) (fun i hok => ?_)
  have hi := hok
  have hsa := sA_in hx hnd hi
  have hsa1 := hx.bl (ix (srtS (acL x.ents x.ents.length)) i) x.ents.length (Nat.le_refl _)
  have hsa2 : bal x.ents (ix (srtS (acL x.ents x.ents.length)) i) = bl x.ents (ix (srtS (acL x.ents x.ents.length)) i) x.ents.length := rfl
  refine a_seq ?_
  refine a_rseq ?_
  refine rg_put (d := 10) (v := .d (.fl (.int .i64 (i : Int)))) rfl (og rfl (op_move rfl rfl rfl)) ?_
  refine rg_put (d := 11) (v := .d (.sl 1 (List.map rS ((srtS (acL x.ents x.ents.length)))))) rfl (og rfl (op_move rfl rfl rfl)) ?_
  refine rg_put (d := 12) (v := .d (.fl (.int .i64 ((((srtS (acL x.ents x.ents.length))).length : Int))))) rfl (og rfl (s_len rfl Try.underlying53 rfl rfl)) ?_
  refine rg_put (d := 13) (v := .d (.fl (.bool ((decide ((i : Int) < (((srtS (acL x.ents x.ents.length))).length : Int))))))) rfl (og rfl (op_bin rfl rfl rfl (b_lss _ _ _ _) rfl)) ?_
  refine rg_done rfl ?_
  refine a_cond rfl (fun h1 => ?_) (fun h1 => ?_)
  · skip
    have h2 := t_dec h1
    refine a_skip ?_
    show A _ _ _ _ _ _ _
    refine a_seq ?_
    refine a_block ?_
    refine a_draw (by kernel_rfl) ?_
    refine dr_put (d := 16) (v := .d (.fl (.int .i64 ((sA x.ents (srtS (acL x.ents x.ents.length)) i))))) rfl (og rfl (op_move rfl rfl rfl)) ?_
    refine dr_put (d := 17) (v := .d (.ag (eLe x))) rfl (og rfl (of_eff (s_load_pts rfl Try.underlying35 rfl ti35 rfl rfl rfl rfl) rfl)) ?_
    refine dr_put (d := 18) (v := .d (.sl 1 (List.map rS ((srtS (acL x.ents x.ents.length)))))) rfl (og rfl (op_move rfl rfl rfl)) ?_
    refine dr_put (d := 19) (v := .d (.fl (.int .i64 (i : Int)))) rfl (og rfl (op_move rfl rfl rfl)) ?_
    refine dr_put (d := 20) (v := .el ((rS ((ix ((srtS (acL x.ents x.ents.length))) i))))) rfl (og rfl (s_index rfl Try.underlying53 ti9 rfl rfl (by omega) (row_at (by omega)) rfl)) ?_
    refine dr_put (d := 21) (v := .d (.fl (.string ((ix ((srtS (acL x.ents x.ents.length))) i))))) rfl (og rfl (op_load_el rfl Try.underlying9 rfl rfl rfl rfl)) ?_
    refine dr_put (d := 22) (v := .d (.fl (.int .i64 ((bal x.ents ((ix ((srtS (acL x.ents x.ents.length))) i))))))) rfl (og rfl (op_call rfl Try.func23 nm23 rfl (.cons rfl (.d _) (.cons rfl (.d _) .nil)) (balC x ((ix ((srtS (acL x.ents x.ents.length))) i)) hx) rfl)) ?_
    refine dr_put (d := 23) (v := .d (.fl (.int .i64 (((sA x.ents (srtS (acL x.ents x.ents.length)) i) + (bal x.ents ((ix ((srtS (acL x.ents x.ents.length))) i)))))))) rfl (og rfl (op_bin rfl rfl rfl (fun x y w => b_add64 _ _ _ x y w (by omega)) rfl)) ?_
    refine dr_put (d := 3) (v := .d (.fl (.int .i64 (((sA x.ents (srtS (acL x.ents x.ents.length)) i) + (bal x.ents ((ix ((srtS (acL x.ents x.ents.length))) i)))))))) rfl (og rfl (op_assign rfl rfl rfl)) ?_
    refine dr_done rfl (by kernel_rfl) (by kernel_rfl) ?_
    show A _ _ _ _ _ _ _
    refine a_region ?_
    refine rg_put (d := 14) (v := .d (.fl (.int .i64 (i : Int)))) rfl (og rfl (op_move rfl rfl rfl)) ?_
    refine rg_put (d := 15) (v := .d (.fl (.int .i64 (((i : Int) + 1))))) rfl (og rfl (op_bin rfl rfl rfl (fun x y w => b_add64 _ _ _ x y w (by omega)) rfl)) ?_
    refine rg_put (d := 5) (v := .d (.fl (.int .i64 (((i : Int) + 1))))) rfl (og rfl (op_assign rfl rfl rfl)) ?_
    refine rg_done rfl ?_
    show ∃ i, _ ∧ _ ∧ Imp _ _ _ _ _
    refine ⟨i + 1, (by omega), by omega, imp_forget rfl ⟨rfl, rfl, rfl, rfl, (by first | rfl | exact ci (by omega) | exact ci (by simp) | exact cd (by simp) | simp), rfl, trivial⟩ ⟨rfl, trivial⟩⟩
  · skip
    have h3 := f_dec h1
    refine a_exit ?_
    show A _ _ _ _ _ _ _
    refine a_rseq ?_
    refine rg_put (d := 25) (v := .d (.ag (eLe x))) rfl (og rfl (of_eff (s_load_pts rfl Try.underlying35 rfl ti35 rfl rfl rfl rfl) rfl)) ?_
    refine rg_put (d := 26) (v := .tu [.fl (.int .i64 (es1 gD x.ents x.ents.length)), .fl (.int .i64 (es1 gC x.ents x.ents.length))]) rfl (og rfl (op_call rfl Try.func20 nm20 rfl (.cons rfl (.d _) .nil) (triC x hx) rfl)) ?_
    refine rg_put (d := 24) (v := .tu [.fl (.int .i64 (es1 gD x.ents x.ents.length)), .fl (.int .i64 (es1 gC x.ents x.ents.length))]) rfl (og rfl (op_move rfl rfl rfl)) ?_
    refine rg_put (d := 27) (v := .d (.fl (.int .i64 (es1 gD x.ents x.ents.length)))) rfl (og rfl (op_extract rfl rfl rfl rfl)) ?_
    refine rg_put (d := 28) (v := .d (.fl (.int .i64 (es1 gC x.ents x.ents.length)))) rfl (og rfl (op_extract rfl rfl rfl rfl)) ?_
    refine rg_put (d := 6) (v := .d (.fl (.int .i64 (es1 gD x.ents x.ents.length)))) rfl (og rfl (op_assign rfl rfl rfl)) ?_
    refine rg_put (d := 7) (v := .d (.fl (.int .i64 (es1 gC x.ents x.ents.length)))) rfl (og rfl (op_assign rfl rfl rfl)) ?_
    refine rg_done rfl ?_
    refine a_rseq ?_
    have hil : i = (srtS (acL x.ents x.ents.length)).length := by omega
    rw [show (sA x.ents (srtS (acL x.ents x.ents.length)) i) = (0 : Int) from (by rw [hil]; exact sA_zero hz)]
    refine rg_put (d := 29) (v := .d (.fl (.int .i64 (0 : Int)))) rfl (og rfl (op_move rfl rfl rfl)) ?_
    refine rg_put (d := 30) (v := .d (.fl (.bool (((0 : Int) == 0))))) rfl (og rfl (op_bin rfl rfl rfl (b_eql _ _ _ _) rfl)) ?_
    refine rg_put (d := 31) (v := .d (.fl (.bool (((0 : Int) == 0))))) rfl (og rfl (op_move rfl rfl rfl)) ?_
    refine rg_put (d := 32) (v := .d (.fl (.int .i64 (es1 gD x.ents x.ents.length)))) rfl (oy rfl rfl rfl rfl (op_move rfl rfl rfl)) ?_
    refine rg_put (d := 33) (v := .d (.fl (.int .i64 (es1 gC x.ents x.ents.length)))) rfl (oy rfl rfl rfl rfl (op_move rfl rfl rfl)) ?_
    refine rg_put (d := 34) (v := .d (.fl (.bool (((es1 gD x.ents x.ents.length) == (es1 gC x.ents x.ents.length)))))) rfl (oy rfl rfl rfl rfl (op_bin rfl rfl rfl (b_eql _ _ _ _) rfl)) ?_
    refine rg_put (d := 35) (v := .d (.fl (.bool (((es1 gD x.ents x.ents.length) == (es1 gC x.ents x.ents.length)))))) rfl (og rfl (op_pick rfl rfl rfl rfl)) ?_
    refine rg_put (d := 2) (v := .d (.fl (.bool (((es1 gD x.ents x.ents.length) == (es1 gC x.ents x.ents.length)))))) rfl (og rfl (op_assign rfl rfl rfl)) ?_
    refine rg_done rfl ?_
    refine a_ret ?_
    show ∃ ds, ResL _ _ _ ds ∧ RV.of ds = _
    refine ⟨[.fl (.bool (((es1 gD x.ents x.ents.length) == (es1 gC x.ents x.ents.length))))], (.cons (.tmp rfl (.d _)) .nil), ?_⟩
    rw [show (es1 gD x.ents x.ents.length == es1 gC x.ents x.ents.length) = true from by rw [tr_eq hz _ (Nat.le_refl _)]; simp]; rfl
end Go.Proofs.Ytmmadlhkniikdaa.Wk
