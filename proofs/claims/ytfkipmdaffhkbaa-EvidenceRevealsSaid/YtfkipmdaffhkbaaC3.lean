/- The law of agreement. Condition: the arguments read as data. -/
import Derived.Test.YtfkipmdaffhkbaaC2
set_option linter.unusedSimpArgs false
set_option linter.unusedVariables false
namespace Go.Proofs.Ytfkipmdaffhkbaa.Wk
open Go Go.RowKit Go.Proofs.Ytfkipmdaffhkbaa.Av
def pkF (id : ByteArray) (l : List Im) : Pk := ⟨id, l, fits id l⟩
theorem bld_zero {id : ByteArray} {l : List Im} (h : (bld id l).2 = 0) : bld id l = (pkF id l, 0) := by
  unfold bld at h ⊢
  split at h
  · cases h
  · rename_i h1
    rw [if_neg h1]
    split at h
    · cases h
    · rename_i h2
      rw [if_neg h2]
      split at h
      · rename_i h3; exact absurd h h3
      · rename_i h3; rw [if_neg h3]; rfl
theorem imEq_eq {a b : Im} (h : imEq a b = true) : a = b := by
  unfold imEq at h
  simp only [Bool.and_eq_true, beq_iff_eq] at h
  obtain ⟨⟨⟨⟨h1, h2⟩, h3⟩, h4⟩, h5⟩ := h
  have e1 := sEq_eq h1
  have e5 := lEq_eq h5
  clear h1 h5
  cases a; cases b
  simp only at e1 h2 h3 h4 e5
  subst e1 h2 h3 h4 e5
  rfl
theorem fstD_cases (a b : List Im) : (∃ k, k < max a.length b.length ∧ fstD a b = k ∧ gd a b k = false ∧ ∀ q, q < k → gd a b q = true) ∨ (fstD a b = -1 ∧ ∀ q, q < max a.length b.length → gd a b q = true) := by
  by_cases h : ∃ k, k < max a.length b.length ∧ gd a b k = false
  · obtain ⟨k, hk⟩ := h
    have key : ∀ n, (∃ k, k < n ∧ k < max a.length b.length ∧ gd a b k = false) → ∃ k, k < max a.length b.length ∧ gd a b k = false ∧ ∀ q, q < k → gd a b q = true := by
      intro n
      induction n with
      | zero => rintro ⟨k, h, _⟩; omega
      | succ n ih =>
        rintro ⟨k, h1, h2, h3⟩
        by_cases h4 : ∃ k, k < n ∧ k < max a.length b.length ∧ gd a b k = false
        · exact ih h4
        · refine ⟨k, h2, h3, fun q hq => ?_⟩
          cases h5 : gd a b q with
          | true => rfl
          | false => exact absurd ⟨q, by omega, by omega, h5⟩ h4
    obtain ⟨j, h1, h2, h3⟩ := key (k + 1) ⟨k, by omega, hk.1, hk.2⟩
    exact .inl ⟨j, h1, fstD_at h1 h2 h3, h2, h3⟩
  · have h2 : ∀ q, q < max a.length b.length → gd a b q = true := fun q hq => by
      cases h5 : gd a b q with
      | true => rfl
      | false => exact absurd ⟨q, hq, h5⟩ h
    exact .inr ⟨fstD_none h2, h2⟩
theorem gd_parts {a b : List Im} {q : Nat} (h : gd a b q = true) : q < a.length ∧ q < b.length ∧ ix a q = ix b q := by
  unfold gd at h
  simp only [Bool.and_eq_true, decide_eq_true_eq] at h
  exact ⟨h.1.1, h.1.2, imEq_eq h.2⟩
theorem take_gd {a b : List Im} : ∀ n, (∀ q, q < n → gd a b q = true) → a.take n = b.take n ∧ n ≤ a.length ∧ n ≤ b.length
  | 0, _ => ⟨by simp, by omega, by omega⟩
  | n + 1, h => by
    obtain ⟨h1, h2, h3⟩ := take_gd n (fun q hq => h q (by omega))
    obtain ⟨g1, g2, g3⟩ := gd_parts (h n (by omega))
    exact ⟨by rw [take_ix g1, take_ix g2, h1, g3], by omega, by omega⟩
theorem fstD_neg {a b : List Im} (h : fstD a b < 0) : a = b := by
  rcases fstD_cases a b with ⟨k, _, h2, _⟩ | ⟨_, h2⟩
  · omega
  · obtain ⟨h3, h4, h5⟩ := take_gd (max a.length b.length) h2
    rw [List.take_of_length_le (by omega), List.take_of_length_le (by omega)] at h3
    exact h3
theorem fstD_nn {a b : List Im} (h : ¬ fstD a b < 0) : a.take (fstD a b).toNat = b.take (fstD a b).toNat ∧ fstD a b ≤ (a.length : Int) ∧ fstD a b ≤ (b.length : Int) := by
  rcases fstD_cases a b with ⟨k, _, h2, _, h4⟩ | ⟨h1, _⟩
  · obtain ⟨h5, h6, h7⟩ := take_gd k h4
    rw [h2]
    exact ⟨h5, by omega, by omega⟩
  · omega
theorem co_take (x : Int) (L : List (List Int)) (n : Nat) : ∀ K, n ≤ K → (co x L K).take n = co x L n
  | 0, h => by have : n = 0 := by omega
               subst this; rfl
  | K + 1, h => by
    rcases Nat.lt_or_ge K n with h1 | h1
    · have : n = K + 1 := by omega
      subst this
      exact List.take_of_length_le (by rw [co_len]; omega)
    · show (co x L K ++ [cl x L (K + 1)]).take n = _
      rw [List.take_append_of_le_length (by rw [co_len]; exact h1)]
      exact co_take x L n K h1
theorem fits_take {id : ByteArray} {l : List Im} {n : Nat} (h : n ≤ l.length) : (fits id l).take n = fits id (l.take n) := by
  unfold fits chn
  rw [List.length_map, List.length_map, List.length_take, Nat.min_eq_left h, co_take _ _ n _ h]
  have e : l.map dsc = (l.take n).map dsc ++ (l.drop n).map dsc := by rw [← List.map_append, List.take_append_drop]
  rw [e]
  exact co_app n (by simp; omega)
theorem agree_take {id : ByteArray} {a b : List Im} (h : ¬ fstD a b < 0) : lEq (((pkF id a).chain.drop 0).take ((fstD a b).toNat - 0)) (((pkF id b).chain.drop 0).take ((fstD a b).toNat - 0)) = true := by
  obtain ⟨h1, h2, h3⟩ := fstD_nn h
  have e1 : ((pkF id a).chain.drop 0).take ((fstD a b).toNat - 0) = fits id (a.take (fstD a b).toNat) := fits_take (by omega)
  have e2 : ((pkF id b).chain.drop 0).take ((fstD a b).toNat - 0) = fits id (b.take (fstD a b).toNat) := fits_take (by omega)
  rw [e1, e2, h1]
  exact lEq_refl _
theorem okp_pkF {id : ByteArray} {l : List Im} (hid : id.size ≤ 600) (hl : l.length ≤ 20) (hO : ∀ im ∈ l, Okd im) : Okp (pkF id l) :=
  ⟨by show id.size ≤ 1000; omega, by show l.length ≤ 2000; omega, by show (fits id l).length ≤ 100000; rw [fits_len]; omega, hO, fits_in _ _⟩
def oth (l : List Im) (k : Nat) (im : Im) : List Im := l.take k ++ [im] ++ l.drop (k + 1)
theorem oth_len {l : List Im} {k : Nat} {im : Im} (h : k < l.length) : (oth l k im).length = l.length := by simp [oth]; omega
theorem oth_lt {l : List Im} {k q : Nat} {im : Im} (h : k < l.length) (hq : q < k) : ix (oth l k im) q = ix l q := by
  unfold oth
  rw [List.append_assoc, ix_app (by simp; omega)]
  unfold ix; simp [List.getD, hq]
theorem oth_at {l : List Im} {k : Nat} {im : Im} (h : k < l.length) : ix (oth l k im) k = im := by
  have hl : (l.take k).length = k := by simp; omega
  unfold oth
  rw [ix_app (by simp; omega)]
  have := ix_snoc (l.take k) im
  rw [hl] at this
  exact this
theorem fst_oth {l : List Im} {k : Nat} {im : Im} (h : k < l.length) (hd : imEq (ix l k) im = false) : fstD l (oth l k im) = k := by
  refine fstD_at (by rw [oth_len h]; omega) ?_ (fun q hq => ?_)
  · unfold gd; rw [oth_at h, hd, Bool.and_false]
  · unfold gd; rw [oth_lt h hq, imEq_self, oth_len h, decide_eq_true (show q < l.length by omega)]; rfl
theorem ix_map {α β : Type} [Inhabited α] [Inhabited β] {f : α → β} {l : List α} {k : Nat} (h : k < l.length) : ix (l.map f) k = f (ix l k) := by
  have h1 := ix_get (l := l.map f) (i := k) (by simpa using h)
  rw [List.getElem?_map, ix_get h] at h1
  injection h1 with h1
  exact h1.symm
def lastK (id : ByteArray) (l : List Im) (k : Nat) : Int := cl (hsh (bys id)) (l.map dsc) k
theorem lastK_zero (id : ByteArray) (l : List Im) {k : Nat} (h : ¬ (0 : Int) < (k : Int)) : hsh (bys id) = lastK id l k := by
  have : k = 0 := by omega
  subst this; rfl
theorem lastK_pos {id : ByteArray} {l : List Im} {k j : Nat} (h : j + 1 = k) (hk : k ≤ l.length) : ix (pkF id l).chain j = lastK id l k := by
  subst h
  show ix (fits id l) j = _
  unfold fits chn lastK
  rw [List.length_map]
  exact ix_co _ _ (by omega)
theorem fits_at {id : ByteArray} {l : List Im} {k : Nat} (h : k < l.length) : ix (fits id l) k = jn (lastK id l k) (dgI (ix l k)) := by
  unfold fits chn
  rw [List.length_map, ix_co _ _ h]
  show jn _ _ = _
  rw [ix_map h]; rfl
theorem lastK_oth {id : ByteArray} {l : List Im} {k : Nat} {im : Im} (h : k < l.length) : lastK id (oth l k im) k = lastK id l k := by
  have e1 : l.map dsc = (l.take k).map dsc ++ (l.drop k).map dsc := by rw [← List.map_append, List.take_append_drop]
  have e2 : (oth l k im).map dsc = (l.take k).map dsc ++ ([im] ++ l.drop (k + 1)).map dsc := by unfold oth; rw [List.append_assoc, List.map_append]
  unfold lastK
  rw [e1, e2, cl_app k (by simp; omega), cl_app k (by simp; omega)]
theorem ver_same {id : ByteArray} {l : List Im} {k : Nat} {im : Im} (h : k < l.length) (hv : lEq (fits id l) (fits id (oth l k im)) = true) : (jn (lastK id l k) (dgI im) == jn (lastK id l k) (dgI (ix l k))) = true := by
  have h1 := fits_at (id := id) h
  have h2 := fits_at (id := id) (l := oth l k im) (k := k) (by rw [oth_len h]; exact h)
  rw [← lEq_eq hv, oth_at h, lastK_oth h, h1] at h2
  rw [h2]; exact eq_self_b _
theorem lastK_in (id : ByteArray) (l : List Im) (k : Nat) : 0 ≤ lastK id l k ∧ lastK id l k ≤ 18446744073709551615 := cl_in (hsh_in _) k
theorem oth_eq {l : List Im} {k : Nat} {im : Im} (h : k < l.length) : (((l.drop 0).take (k - 0)) ++ [im]) ++ ((l.drop (((k : Int) + 1)).toNat).take (l.length - (((k : Int) + 1)).toNat)) = oth l k im := by
  have e9 : (((k : Int) + 1)).toNat = k + 1 := by omega
  unfold oth
  rw [e9, List.take_of_length_le (l := l.drop (k + 1)) (by rw [List.length_drop]; omega)]
  rfl
theorem okd_oth {l : List Im} {k : Nat} {im : Im} (hO : ∀ x ∈ l, Okd x) (hI : Okd im) : ∀ x ∈ oth l k im, Okd x := by
  intro x hx
  unfold oth at hx
  rcases List.mem_append.1 hx with h | h
  · rcases List.mem_append.1 h with h | h
    · exact hO x (List.mem_of_mem_take h)
    · rw [List.mem_singleton.1 h]; exact hI
  · exact hO x (List.mem_of_mem_drop h)

set_option maxHeartbeats 4000000 in
set_option maxRecDepth 100000 in
theorem law9 (id : ByteArray) (a b : List Im) (hW : a.length ≤ 9223372036854775807 ∧ ∀ x ∈ a, okIm x) (hV : b.length ≤ 9223372036854775807 ∧ ∀ x ∈ b, okIm x) : Ctr Try.prog 9 [.fl (.string id), .sl 5 (List.map eIm a), .sl 5 (List.map eIm b)] (.d (.fl (.bool true))) := by
  refine ctr (n := 84) (rs := #[.tmp 6]) (L := [(0, .d (.fl (.string id))), (1, .d (.sl 5 (List.map eIm a))), (2, .d (.sl 5 (List.map eIm b)))]) Try.func9 rfl rfl rfl rfl rfl (fun w0 U0 => ?_)
  refine a_rseq ?_
  refine rg_put (d := 6) (v := .d (.fl (.bool false))) rfl (og rfl (op_assign rfl rfl rfl)) ?_
  refine rg_done rfl ?_
  refine a_seq ?_
  refine a_rseq ?_
  refine rg_put (d := 12) (v := .d (.sl 5 (List.map eIm a))) rfl (og rfl (op_move rfl rfl rfl)) ?_
  refine rg_put (d := 13) (v := .d (.fl (.bool (fewB a)))) rfl (og rfl (op_call rfl Try.func14 nm14 rfl (.cons rfl (.d _) .nil) (few14 a hW.1 (fun x hx => (hW.2 x hx).2.2.2.1.1)) rfl)) ?_
  refine rg_put (d := 14) (v := .d (.fl (.bool ((!(fewB a)))))) rfl (og rfl (op_un rfl rfl (u_not _) rfl)) ?_
  refine rg_put (d := 15) (v := .d (.fl (.bool ((!(fewB a)))))) rfl (og rfl (op_move rfl rfl rfl)) ?_
  rcases fot ((!(fewB a))) with h1 | h1
  · skip
    have h2 := f_not h1
    refine rg_put (d := 16) (v := .d (.sl 5 (List.map eIm b))) rfl (oy rfl rfl rfl h1 (op_move rfl rfl rfl)) ?_
    refine rg_put (d := 17) (v := .d (.fl (.bool (fewB b)))) rfl (oy rfl rfl rfl h1 (op_call rfl Try.func14 nm14 rfl (.cons rfl (.d _) .nil) (few14 b hV.1 (fun x hx => (hV.2 x hx).2.2.2.1.1)) rfl)) ?_
    refine rg_put (d := 18) (v := .d (.fl (.bool ((!(fewB b)))))) rfl (oy rfl rfl rfl h1 (op_un rfl rfl (u_not _) rfl)) ?_
    refine rg_put (d := 19) (v := .d (.fl (.bool ((!(fewB b)))))) rfl (og rfl (op_pick rfl rfl (by rw [h1]; rfl) rfl)) ?_
    refine rg_put (d := 20) (v := .d (.fl (.bool ((!(fewB b)))))) rfl (og rfl (op_move rfl rfl rfl)) ?_
    rcases fot ((!(fewB b))) with h3 | h3
    · skip
      have h4 := f_not h3
      refine rg_put (d := 21) (v := .d (.fl (.string id))) rfl (oy rfl rfl rfl h3 (op_move rfl rfl rfl)) ?_
      refine rg_put (d := 22) (v := .d (.fl (.int .i64 (id.size : Int)))) rfl (oy rfl rfl rfl h3 (op_len_str rfl Try.underlying9 rfl rfl)) ?_
      refine rg_put (d := 23) (v := .d (.fl (.bool ((decide (600 < (id.size : Int))))))) rfl (oy rfl rfl rfl h3 (op_bin rfl rfl rfl (b_gtr _ _ _ _) rfl)) ?_
      refine rg_put (d := 24) (v := .d (.fl (.bool ((decide (600 < (id.size : Int))))))) rfl (og rfl (op_pick rfl rfl (by rw [h3]; rfl) rfl)) ?_
      refine rg_done rfl ?_
      refine a_cond rfl (fun h5 => ?_) (fun h5 => ?_)
      · skip
        have h6 := t_dec h5
        refine a_rseq ?_
        refine rg_put (d := 25) (v := .d (.fl (.bool true))) rfl (og rfl (op_call rfl Try.func11 nm11 rfl .nil awake11 rfl)) ?_
        refine rg_put (d := 6) (v := .d (.fl (.bool true))) rfl (og rfl (op_assign rfl rfl rfl)) ?_
        refine rg_done rfl ?_
        refine a_ret ?_
        show ∃ ds, ResL _ _ _ ds ∧ RV.of ds = _
        refine ⟨[.fl (.bool true)], (.cons (.tmp rfl (.d _)) .nil), ?_⟩
        rfl
      · skip
        have h7 := f_dec h5
        refine a_skip ?_
        show A _ _ _ _ _ _ _
        refine a_rseq ?_
        obtain ⟨hOa, hla⟩ := okd_few hW.2 h2
        obtain ⟨hOb, hlb⟩ := okd_few hV.2 h4
        refine rg_put (d := 27) (v := .d (.fl (.string id))) rfl (og rfl (op_move rfl rfl rfl)) ?_
        refine rg_put (d := 28) (v := .d (.sl 5 (List.map eIm a))) rfl (og rfl (op_move rfl rfl rfl)) ?_
        refine rg_put (d := 29) (v := .tu [.ag (ePk ((bld id a).1)), .fl (.int .i64 ((bld id a).2))]) rfl (og rfl (op_call rfl Try.func15 nm15 rfl (.cons rfl (.d _) (.cons rfl (.d _) .nil)) (build15 id a (by omega) (by omega) hOa) rfl)) ?_
        refine rg_put (d := 26) (v := .tu [.ag (ePk ((bld id a).1)), .fl (.int .i64 ((bld id a).2))]) rfl (og rfl (op_move rfl rfl rfl)) ?_
        refine rg_put (d := 30) (v := .d (.ag (ePk ((bld id a).1)))) rfl (og rfl (op_extract rfl rfl rfl rfl)) ?_
        refine rg_put (d := 31) (v := .d (.fl (.int .i64 ((bld id a).2)))) rfl (og rfl (op_extract rfl rfl rfl rfl)) ?_
        refine rg_nam (d := 7) (v := .pt 101 0) (m := 101) (nw := [(101, .bx 33 ([.fl (.string (⟨#[]⟩)), .fl (.slice none 0 0), .fl (.slice none 0 0)]))]) rfl (og rfl (of_eff (s_alloc 101 rfl ti33 (by kernel_rfl) rfl) rfl)) rfl ?_
        refine rg_sto (nw := [(101, .bx 33 ((ePk ((bld id a).1))))]) rfl (og rfl (of_eff (s_store rfl rfl ti33 rfl rfl rfl rfl rfl rfl) rfl)) ?_
        refine rg_put (d := 8) (v := .d (.fl (.int .i64 ((bld id a).2)))) rfl (og rfl (op_assign rfl rfl rfl)) ?_
        refine rg_done rfl ?_
        refine a_rseq ?_
        refine rg_put (d := 33) (v := .d (.fl (.string id))) rfl (og rfl (op_move rfl rfl rfl)) ?_
        refine rg_put (d := 34) (v := .d (.sl 5 (List.map eIm b))) rfl (og rfl (op_move rfl rfl rfl)) ?_
        refine rg_put (d := 35) (v := .tu [.ag (ePk ((bld id b).1)), .fl (.int .i64 ((bld id b).2))]) rfl (og rfl (op_call rfl Try.func15 nm15 rfl (.cons rfl (.d _) (.cons rfl (.d _) .nil)) (build15 id b (by omega) (by omega) hOb) rfl)) ?_
        refine rg_put (d := 32) (v := .tu [.ag (ePk ((bld id b).1)), .fl (.int .i64 ((bld id b).2))]) rfl (og rfl (op_move rfl rfl rfl)) ?_
        refine rg_put (d := 36) (v := .d (.ag (ePk ((bld id b).1)))) rfl (og rfl (op_extract rfl rfl rfl rfl)) ?_
        refine rg_put (d := 37) (v := .d (.fl (.int .i64 ((bld id b).2)))) rfl (og rfl (op_extract rfl rfl rfl rfl)) ?_
        refine rg_nam (d := 9) (v := .pt 102 0) (m := 102) (nw := [(102, .bx 33 ([.fl (.string (⟨#[]⟩)), .fl (.slice none 0 0), .fl (.slice none 0 0)]))]) rfl (og rfl (of_eff (s_alloc 102 rfl ti33 (by kernel_rfl) rfl) rfl)) rfl ?_
        refine rg_sto (nw := [(102, .bx 33 ((ePk ((bld id b).1))))]) rfl (og rfl (of_eff (s_store rfl rfl ti33 rfl rfl rfl rfl rfl rfl) rfl)) ?_
        refine rg_put (d := 10) (v := .d (.fl (.int .i64 ((bld id b).2)))) rfl (og rfl (op_assign rfl rfl rfl)) ?_
        refine rg_done rfl ?_
        refine a_seq ?_
        refine a_rseq ?_
        refine rg_put (d := 38) (v := .d (.fl (.int .i64 ((bld id a).2)))) rfl (og rfl (op_move rfl rfl rfl)) ?_
        refine rg_put (d := 39) (v := .d (.fl (.bool (((bld id a).2 != 0))))) rfl (og rfl (op_bin rfl rfl rfl (b_neq _ _ _ _) rfl)) ?_
        refine rg_put (d := 40) (v := .d (.fl (.bool (((bld id a).2 != 0))))) rfl (og rfl (op_move rfl rfl rfl)) ?_
        rcases fot (((bld id a).2 != 0)) with h8 | h8
        · skip
          have h9 := f_bne h8
          refine rg_put (d := 41) (v := .d (.fl (.int .i64 ((bld id b).2)))) rfl (oy rfl rfl rfl h8 (op_move rfl rfl rfl)) ?_
          refine rg_put (d := 42) (v := .d (.fl (.bool (((bld id b).2 != 0))))) rfl (oy rfl rfl rfl h8 (op_bin rfl rfl rfl (b_neq _ _ _ _) rfl)) ?_
          refine rg_put (d := 43) (v := .d (.fl (.bool (((bld id b).2 != 0))))) rfl (og rfl (op_pick rfl rfl (by rw [h8]; rfl) rfl)) ?_
          refine rg_done rfl ?_
          refine a_cond rfl (fun h10 => ?_) (fun h10 => ?_)
          · skip
            have h11 := t_bne h10
            refine a_rseq ?_
            refine rg_put (d := 44) (v := .d (.fl (.bool true))) rfl (og rfl (op_call rfl Try.func11 nm11 rfl .nil awake11 rfl)) ?_
            refine rg_put (d := 6) (v := .d (.fl (.bool true))) rfl (og rfl (op_assign rfl rfl rfl)) ?_
            refine rg_done rfl ?_
            refine a_ret ?_
            show ∃ ds, ResL _ _ _ ds ∧ RV.of ds = _
            refine ⟨[.fl (.bool true)], (.cons (.tmp rfl (.d _)) .nil), ?_⟩
            rfl
          · skip
            have h12 := f_bne h10
            refine a_skip ?_
            show A _ _ _ _ _ _ _
            refine a_rseq ?_
            have hA : bld id a = (pkF id a, 0) := bld_zero (f_bne h8)
            have hB : bld id b = (pkF id b, 0) := bld_zero (f_bne h10)
            rw [hA, hB]
            have hn1 : (pkF id a).chain.length = a.length := fits_len _ _
            have hn2 : (pkF id b).chain.length = b.length := fits_len _ _
            refine rg_put (d := 45) (v := .d (.ag (ePk (((pkF id a)))))) rfl (og rfl (of_eff (s_load_pts rfl Try.underlying33 rfl ti33 rfl rfl rfl rfl) rfl)) ?_
            refine rg_put (d := 46) (v := .d (.ag (ePk (((pkF id b)))))) rfl (og rfl (of_eff (s_load_pts rfl Try.underlying33 rfl ti33 rfl rfl rfl rfl) rfl)) ?_
            refine rg_put (d := 47) (v := .d (.fl (.int .i64 (fstD a b)))) rfl (og rfl (op_call rfl Try.func23 nm23 rfl (.cons rfl (.d _) (.cons rfl (.d _) .nil)) (first23 (pkF id a) (pkF id b) (by show a.length ≤ 2000; omega) (by show b.length ≤ 2000; omega) (fun im hi => by have := (hOa im hi).l; omega)) rfl)) ?_
            refine rg_put (d := 11) (v := .d (.fl (.int .i64 (fstD a b)))) rfl (og rfl (op_assign rfl rfl rfl)) ?_
            refine rg_done rfl ?_
            refine a_seq ?_
            refine a_rseq ?_
            refine rg_put (d := 48) (v := .d (.fl (.int .i64 (fstD a b)))) rfl (og rfl (op_move rfl rfl rfl)) ?_
            refine rg_put (d := 49) (v := .d (.fl (.bool ((decide ((fstD a b) < 0)))))) rfl (og rfl (op_bin rfl rfl rfl (b_lss _ _ _ _) rfl)) ?_
            refine rg_done rfl ?_
            refine a_cond rfl (fun h13 => ?_) (fun h13 => ?_)
            · skip
              have h14 := t_dec h13
              refine a_rseq ?_
              refine rg_put (d := 50) (v := .pt 101 2) rfl (og rfl (of_eff (s_field_pt rfl Try.underlying33 rfl ti31 rfl rfl rfl) rfl)) ?_
              refine rg_put (d := 51) (v := .d (.sl 1 (List.map (rI .u64) (((pkF id a)).chain)))) rfl (og rfl (op_load_pt rfl Try.underlying31 rfl rfl rfl rfl rfl)) ?_
              refine rg_put (d := 52) (v := .pt 102 2) rfl (og rfl (of_eff (s_field_pt rfl Try.underlying33 rfl ti31 rfl rfl rfl) rfl)) ?_
              refine rg_put (d := 53) (v := .d (.sl 1 (List.map (rI .u64) (((pkF id b)).chain)))) rfl (og rfl (op_load_pt rfl Try.underlying31 rfl rfl rfl rfl rfl)) ?_
              refine rg_put (d := 54) (v := .d (.fl (.bool ((lEq (((pkF id a)).chain) (((pkF id b)).chain)))))) rfl (og rfl (op_call rfl Try.func27 nm27 rfl (.cons rfl (.d _) (.cons rfl (.d _) .nil)) (eqU27 (((pkF id a)).chain) (((pkF id b)).chain) (by first | omega | (simp only [List.length_take, List.length_drop]; omega))) rfl)) ?_
              refine rg_put (d := 55) (v := .d (.fl (.bool ((lEq (((pkF id a)).chain) (((pkF id b)).chain)))))) rfl (og rfl (op_move rfl rfl rfl)) ?_
              refine rg_put (d := 56) (v := .d (.fl (.bool true))) rfl (oy rfl rfl rfl (show lEq (pkF id a).chain (pkF id b).chain = true by rw [fstD_neg (t_dec h13)]; exact lEq_refl _) (op_call rfl Try.func11 nm11 rfl .nil awake11 rfl)) ?_
              refine rg_put (d := 57) (v := .d (.fl (.bool true))) rfl (og rfl (op_pick rfl rfl (by rw [(show lEq (pkF id a).chain (pkF id b).chain = true by rw [fstD_neg (t_dec h13)]; exact lEq_refl _)]; rfl) rfl)) ?_
              refine rg_put (d := 6) (v := .d (.fl (.bool true))) rfl (og rfl (op_assign rfl rfl rfl)) ?_
              refine rg_done rfl ?_
              refine a_ret ?_
              show ∃ ds, ResL _ _ _ ds ∧ RV.of ds = _
              refine ⟨[.fl (.bool true)], (.cons (.tmp rfl (.d _)) .nil), ?_⟩
              rfl
            · skip
              have h15 := f_dec h13
              refine a_skip ?_
              show A _ _ _ _ _ _ _
              refine a_dseq (by kernel_rfl) ?_
              have hnn := fstD_nn (f_dec h13)
              have hcs := agree_take (id := id) (f_dec h13)
              obtain ⟨_, hle1, hle2⟩ := hnn
              have hx1 : fstD a b ≤ (((pkF id a).chain.length : Nat) : Int) := by omega
              have hx2 : fstD a b ≤ (((pkF id b).chain.length : Nat) : Int) := by omega
              refine dr_put (d := 58) (v := .d (.fl (.int .i64 (fstD a b)))) rfl (og rfl (op_move rfl rfl rfl)) ?_
              refine dr_put (d := 59) (v := .pt 101 2) rfl (og rfl (of_eff (s_field_pt rfl Try.underlying33 rfl ti31 rfl rfl rfl) rfl)) ?_
              refine dr_put (d := 60) (v := .d (.sl 1 (List.map (rI .u64) (((pkF id a)).chain)))) rfl (og rfl (op_load_pt rfl Try.underlying31 rfl rfl rfl rfl rfl)) ?_
              refine dr_put (d := 61) (v := .d (.fl (.int .i64 (((((pkF id a)).chain).length : Int))))) rfl (og rfl (s_len rfl Try.underlying31 rfl rfl)) ?_
              refine dr_put (d := 62) (v := .d (.fl (.bool ((decide ((fstD a b) ≤ ((((pkF id a)).chain).length : Int))))))) rfl (og rfl (op_bin rfl rfl rfl (b_leq _ _ _ _) rfl)) ?_
              refine dr_put (d := 63) (v := .d (.fl (.bool ((decide ((fstD a b) ≤ ((((pkF id a)).chain).length : Int))))))) rfl (og rfl (op_move rfl rfl rfl)) ?_
              refine dr_put (d := 64) (v := .d (.fl (.int .i64 (fstD a b)))) rfl (oy rfl rfl rfl (decide_eq_true hx1) (op_move rfl rfl rfl)) ?_
              refine dr_put (d := 65) (v := .pt 102 2) rfl (oy rfl rfl rfl (decide_eq_true hx1) (of_eff (s_field_pt rfl Try.underlying33 rfl ti31 rfl rfl rfl) rfl)) ?_
              refine dr_put (d := 66) (v := .d (.sl 1 (List.map (rI .u64) (((pkF id b)).chain)))) rfl (oy rfl rfl rfl (decide_eq_true hx1) (op_load_pt rfl Try.underlying31 rfl rfl rfl rfl rfl)) ?_
              refine dr_put (d := 67) (v := .d (.fl (.int .i64 (((((pkF id b)).chain).length : Int))))) rfl (oy rfl rfl rfl (decide_eq_true hx1) (s_len rfl Try.underlying31 rfl rfl)) ?_
              refine dr_put (d := 68) (v := .d (.fl (.bool ((decide ((fstD a b) ≤ ((((pkF id b)).chain).length : Int))))))) rfl (oy rfl rfl rfl (decide_eq_true hx1) (op_bin rfl rfl rfl (b_leq _ _ _ _) rfl)) ?_
              refine dr_put (d := 69) (v := .d (.fl (.bool ((decide ((fstD a b) ≤ ((((pkF id b)).chain).length : Int))))))) rfl (og rfl (op_pick rfl rfl (by rw [(decide_eq_true hx1)]; rfl) rfl)) ?_
              refine dr_put (d := 70) (v := .d (.fl (.bool ((decide ((fstD a b) ≤ ((((pkF id b)).chain).length : Int))))))) rfl (og rfl (op_move rfl rfl rfl)) ?_
              refine dr_put (d := 71) (v := .pt 101 2) rfl (oy rfl rfl rfl (decide_eq_true hx2) (of_eff (s_field_pt rfl Try.underlying33 rfl ti31 rfl rfl rfl) rfl)) ?_
              refine dr_put (d := 72) (v := .d (.sl 1 (List.map (rI .u64) (((pkF id a)).chain)))) rfl (oy rfl rfl rfl (decide_eq_true hx2) (op_load_pt rfl Try.underlying31 rfl rfl rfl rfl rfl)) ?_
              refine dr_put (d := 73) (v := .d (.fl (.int .i64 (fstD a b)))) rfl (oy rfl rfl rfl (decide_eq_true hx2) (op_move rfl rfl rfl)) ?_
              refine dr_put (d := 74) (v := .d (.sl 1 (List.map (rI .u64) ((((((pkF id a)).chain).drop 0).take (((fstD a b)).toNat - 0)))))) rfl (oy rfl rfl rfl (decide_eq_true hx2) (s_slice rfl Try.underlying31 ti23 rfl (.no _) (.so (n := ((fstD a b)).toNat) _ rfl (by omega)) (by omega) (by omega) rfl)) ?_
              refine dr_put (d := 75) (v := .pt 102 2) rfl (oy rfl rfl rfl (decide_eq_true hx2) (of_eff (s_field_pt rfl Try.underlying33 rfl ti31 rfl rfl rfl) rfl)) ?_
              refine dr_put (d := 76) (v := .d (.sl 1 (List.map (rI .u64) (((pkF id b)).chain)))) rfl (oy rfl rfl rfl (decide_eq_true hx2) (op_load_pt rfl Try.underlying31 rfl rfl rfl rfl rfl)) ?_
              refine dr_put (d := 77) (v := .d (.fl (.int .i64 (fstD a b)))) rfl (oy rfl rfl rfl (decide_eq_true hx2) (op_move rfl rfl rfl)) ?_
              refine dr_put (d := 78) (v := .d (.sl 1 (List.map (rI .u64) ((((((pkF id b)).chain).drop 0).take (((fstD a b)).toNat - 0)))))) rfl (oy rfl rfl rfl (decide_eq_true hx2) (s_slice rfl Try.underlying31 ti23 rfl (.no _) (.so (n := ((fstD a b)).toNat) _ rfl (by omega)) (by omega) (by omega) rfl)) ?_
              refine dr_put (d := 79) (v := .d (.fl (.bool ((lEq ((((((pkF id a)).chain).drop 0).take (((fstD a b)).toNat - 0))) ((((((pkF id b)).chain).drop 0).take (((fstD a b)).toNat - 0)))))))) rfl (oy rfl rfl rfl (decide_eq_true hx2) (op_call rfl Try.func27 nm27 rfl (.cons rfl (.d _) (.cons rfl (.d _) .nil)) (eqU27 ((((((pkF id a)).chain).drop 0).take (((fstD a b)).toNat - 0))) ((((((pkF id b)).chain).drop 0).take (((fstD a b)).toNat - 0))) (by first | omega | (simp only [List.length_take, List.length_drop]; omega))) rfl)) ?_
              refine dr_put (d := 80) (v := .d (.fl (.bool ((lEq ((((((pkF id a)).chain).drop 0).take (((fstD a b)).toNat - 0))) ((((((pkF id b)).chain).drop 0).take (((fstD a b)).toNat - 0)))))))) rfl (og rfl (op_pick rfl rfl (by rw [(decide_eq_true hx2)]; rfl) rfl)) ?_
              refine dr_put (d := 81) (v := .d (.fl (.bool ((lEq ((((((pkF id a)).chain).drop 0).take (((fstD a b)).toNat - 0))) ((((((pkF id b)).chain).drop 0).take (((fstD a b)).toNat - 0)))))))) rfl (og rfl (op_move rfl rfl rfl)) ?_
              refine dr_put (d := 82) (v := .d (.fl (.bool true))) rfl (oy rfl rfl rfl hcs (op_call rfl Try.func11 nm11 rfl .nil awake11 rfl)) ?_
              refine dr_put (d := 83) (v := .d (.fl (.bool true))) rfl (og rfl (op_pick rfl rfl (by rw [hcs]; rfl) rfl)) ?_
              refine dr_put (d := 6) (v := .d (.fl (.bool true))) rfl (og rfl (op_assign rfl rfl rfl)) ?_
              refine dr_done rfl (sepB_of [0, 0, 2, 6, 15, 31, 63, 63, 191, 447, 1023, 2047, 4095, 8191, 16383, 8191, 65535, 8191, 139263, 8191, 925695, 2097151, 4194303, 8388607, 16777215, 33554431, 67108863] (by kernel_rfl)) (by kernel_rfl) ?_
              refine a_ret ?_
              show ∃ ds, ResL _ _ _ ds ∧ RV.of ds = _
              refine ⟨[.fl (.bool true)], (.cons (.tmp rfl (.d _)) .nil), ?_⟩
              rfl
        · skip
          have h16 := t_bne h8
          refine rg_put (d := 41) (v := .d (.fl undef)) rfl (on rfl rfl rfl h8) ?_
          refine rg_put (d := 42) (v := .d (.fl undef)) rfl (on rfl rfl rfl h8) ?_
          refine rg_put (d := 43) (v := .d (.fl (.bool true))) rfl (og rfl (op_pick rfl rfl (by rw [h8]; rfl) rfl)) ?_
          refine rg_done rfl ?_
          refine a_condK rfl rfl ?_
          refine a_rseq ?_
          refine rg_put (d := 44) (v := .d (.fl (.bool true))) rfl (og rfl (op_call rfl Try.func11 nm11 rfl .nil awake11 rfl)) ?_
          refine rg_put (d := 6) (v := .d (.fl (.bool true))) rfl (og rfl (op_assign rfl rfl rfl)) ?_
          refine rg_done rfl ?_
          refine a_ret ?_
          show ∃ ds, ResL _ _ _ ds ∧ RV.of ds = _
          refine ⟨[.fl (.bool true)], (.cons (.tmp rfl (.d _)) .nil), ?_⟩
          rfl
    · skip
      have h17 := t_not h3
      refine rg_put (d := 21) (v := .d (.fl undef)) rfl (on rfl rfl rfl h3) ?_
      refine rg_put (d := 22) (v := .d (.fl undef)) rfl (on rfl rfl rfl h3) ?_
      refine rg_put (d := 23) (v := .d (.fl undef)) rfl (on rfl rfl rfl h3) ?_
      refine rg_put (d := 24) (v := .d (.fl (.bool true))) rfl (og rfl (op_pick rfl rfl (by rw [h3]; rfl) rfl)) ?_
      refine rg_done rfl ?_
      refine a_condK rfl rfl ?_
      refine a_rseq ?_
      refine rg_put (d := 25) (v := .d (.fl (.bool true))) rfl (og rfl (op_call rfl Try.func11 nm11 rfl .nil awake11 rfl)) ?_
      refine rg_put (d := 6) (v := .d (.fl (.bool true))) rfl (og rfl (op_assign rfl rfl rfl)) ?_
      refine rg_done rfl ?_
      refine a_ret ?_
      show ∃ ds, ResL _ _ _ ds ∧ RV.of ds = _
      refine ⟨[.fl (.bool true)], (.cons (.tmp rfl (.d _)) .nil), ?_⟩
      rfl
  · skip
    have h18 := t_not h1
    refine rg_put (d := 16) (v := .d (.fl undef)) rfl (on rfl rfl rfl h1) ?_
    refine rg_put (d := 17) (v := .d (.fl undef)) rfl (on rfl rfl rfl h1) ?_
    refine rg_put (d := 18) (v := .d (.fl undef)) rfl (on rfl rfl rfl h1) ?_
    refine rg_put (d := 19) (v := .d (.fl (.bool true))) rfl (og rfl (op_pick rfl rfl (by rw [h1]; rfl) rfl)) ?_
    refine rg_put (d := 20) (v := .d (.fl (.bool true))) rfl (og rfl (op_move rfl rfl rfl)) ?_
    refine rg_put (d := 21) (v := .d (.fl undef)) rfl (on rfl rfl rfl rfl) ?_
    refine rg_put (d := 22) (v := .d (.fl undef)) rfl (on rfl rfl rfl rfl) ?_
    refine rg_put (d := 23) (v := .d (.fl undef)) rfl (on rfl rfl rfl rfl) ?_
    refine rg_put (d := 24) (v := .d (.fl (.bool true))) rfl (og rfl (op_pick rfl rfl rfl rfl)) ?_
    refine rg_done rfl ?_
    refine a_condK rfl rfl ?_
    refine a_rseq ?_
    refine rg_put (d := 25) (v := .d (.fl (.bool true))) rfl (og rfl (op_call rfl Try.func11 nm11 rfl .nil awake11 rfl)) ?_
    refine rg_put (d := 6) (v := .d (.fl (.bool true))) rfl (og rfl (op_assign rfl rfl rfl)) ?_
    refine rg_done rfl ?_
    refine a_ret ?_
    show ∃ ds, ResL _ _ _ ds ∧ RV.of ds = _
    refine ⟨[.fl (.bool true)], (.cons (.tmp rfl (.d _)) .nil), ?_⟩
    rfl
end Go.Proofs.Ytfkipmdaffhkbaa.Wk
