/- The law of a hold that ends. No condition. -/
import Derived.Test.YteplcjhnmmpicaaA20
import Derived.Test.YteplcjhnmmpicaaLawB
import Derived.Test.YteplcjhnmmpicaaAv26
import Derived.Test.YteplcjhnmmpicaaA21
set_option linter.unusedSimpArgs false
set_option linter.unusedVariables false
namespace Go.Proofs.Yteplcjhnmmpicaa.Wk
open Go Go.RowKit Go.Proofs.Yteplcjhnmmpicaa.Av
theorem idx_yes {α : Type} [Inhabited α] {p : α → Bool} {l : List α} (h : ¬ idx p l < 0) : (idx p l).toNat < l.length ∧ p (ix l (idx p l).toNat) = true ∧ ∀ q, q < (idx p l).toNat → p (ix l q) = false := by
  cases hf : l.findIdx? p with
  | none => exact absurd (show idx p l < 0 by unfold idx; rw [hf]; show (-1 : Int) < 0; decide) h
  | some i =>
    have hi : idx p l = (i : Int) := by unfold idx; rw [hf]
    obtain ⟨h1, h2, h3⟩ := List.findIdx?_eq_some_iff_getElem.1 hf
    rw [hi]
    refine ⟨by simpa using h1, ?_, fun q hq => ?_⟩
    · rw [ix_eq h1] at h2; simpa using h2
    · have hq' : q < i := by simpa using hq
      have := h3 q hq'
      rw [ix_eq (by omega)] at this
      simpa using this
theorem idx_neg {α : Type} [Inhabited α] {p : α → Bool} {l : List α} (h : idx p l < 0) : ∀ q, q < l.length → p (ix l q) = false := by
  cases hf : l.findIdx? p with
  | some i =>
    have hi : idx p l = (i : Int) := by unfold idx; rw [hf]
    omega
  | none =>
    intro q hq
    rw [List.findIdx?_eq_none_iff] at hf
    exact hf _ (ix_mem hq)
theorem ix_set_at {α : Type} [Inhabited α] {l : List α} {i : Nat} {x : α} (h : i < l.length) : ix (l.set i x) i = x := by
  have h1 := ix_get (l := l.set i x) (i := i) (by simpa using h)
  rw [List.getElem?_set_self h] at h1
  exact (Option.some.inj h1).symm
theorem ix_set_other {α : Type} [Inhabited α] {l : List α} {i q : Nat} {x : α} (hq : q < l.length) (h : i ≠ q) : ix (l.set i x) q = ix l q := by
  have h1 := ix_get (l := l.set i x) (i := q) (by simpa using hq)
  rw [List.getElem?_set_ne h, ix_get hq] at h1
  exact (Option.some.inj h1).symm
theorem set_ix {α : Type} [Inhabited α] {l : List α} {i : Nat} (h : i < l.length) : l.set i (ix l i) = l := by
  rw [← ix_eq h, List.set_getElem_self]
theorem hld_err {l : List Im} {id r : ByteArray} (h : (hld l id r).2 ≠ 0) : (hld l id r).1 = l := by
  unfold hld at h ⊢
  split
  · rfl
  · rename_i h1
    rw [if_neg h1] at h
    split
    · rfl
    · rename_i h2
      rw [if_neg h2] at h
      split
      · rfl
      · rename_i h3
        rw [if_neg h3] at h
        split
        · rfl
        · rename_i h4
          rw [if_neg h4] at h
          exact absurd rfl h
theorem hld_ok {l : List Im} {id r : ByteArray} (h : (hld l id r).2 = 0) : ∃ i, i < l.length ∧ sEq (ix l i).id id = true ∧ (∀ q, q < i → sEq (ix l q).id id = false) ∧ (∀ q, q < (ix l i).hold.length → sEq r (ix (ix l i).hold q) = false) ∧ (hld l id r).1 = l.set i (addR (ix l i) r) := by
  unfold hld at h ⊢
  split at h
  · cases h
  · rename_i h1
    rw [if_neg h1]
    split at h
    · cases h
    · rename_i h2
      rw [if_neg h2]
      split at h
      · cases h
      · rename_i h3
        rw [if_neg h3]
        split at h
        · cases h
        · rename_i h4
          rw [if_neg h4]
          obtain ⟨a1, a2, a3⟩ := idx_yes (p := fun x : Im => sEq x.id id) (l := l) (fun hc => h2 (decide_eq_true hc))
          refine ⟨(ifind l id).toNat, a1, a2, a3, ?_, rfl⟩
          unfold has at h3
          exact idx_neg (p := fun x => sEq r x) (by simpa using h3)
theorem held_len {l : List Im} {id r : ByteArray} : (hld l id r).1.length = l.length := by
  by_cases h : (hld l id r).2 = 0
  · obtain ⟨i, _, _, _, _, e⟩ := hld_ok h
    rw [e]; simp
  · rw [hld_err h]
theorem held_hold {l : List Im} {id r : ByteArray} {n : Nat} (hb : ∀ q, q < l.length → (ix l q).hold.length ≤ n) : ∀ q, q < (hld l id r).1.length → (ix (hld l id r).1 q).hold.length ≤ n + 1 := by
  intro q hq
  by_cases h : (hld l id r).2 = 0
  · obtain ⟨i, hi, _, _, _, e⟩ := hld_ok h
    rw [held_len] at hq
    rw [e]
    by_cases hqi : i = q
    · subst hqi
      rw [ix_set_at hi]
      have := hb i hi
      simp [addR]; omega
    · rw [ix_set_other hq hqi]
      have := hb q hq; omega
  · rw [hld_err h] at hq ⊢
    have := hb q hq; omega
theorem held_is {l : List Im} {id r : ByteArray} (h : (hld l id r).2 = 0) : ∃ i, i < (hld l id r).1.length ∧ sEq (ix (hld l id r).1 i).id id = true := by
  obtain ⟨i, hi, h2, _, _, e⟩ := hld_ok h
  refine ⟨i, by rw [held_len]; exact hi, ?_⟩
  rw [e, ix_set_at hi]; exact h2
theorem held_at {l : List Im} {id r : ByteArray} (h : (hld l id r).2 = 0) {k : Nat} (hk : k < (hld l id r).1.length) (hy : sEq (ix (hld l id r).1 k).id id = true) (hn : ∀ q, q < k → sEq (ix (hld l id r).1 q).id id = false) : 0 < (ix (hld l id r).1 k).hold.length := by
  obtain ⟨i, hi, h2, h3, _, e⟩ := hld_ok h
  rw [held_len] at hk
  rw [e] at hy hn ⊢
  rcases Nat.lt_trichotomy k i with hki | hki | hki
  · rw [ix_set_other hk (by omega), h3 k hki] at hy; cases hy
  · subst hki
    rw [ix_set_at hi]; simp [addR]
  · have := hn i hki
    rw [ix_set_at hi] at this
    have h5 : sEq (ix l i).id id = false := this
    rw [h2] at h5; cases h5
theorem unt_held {l : List Kp} {im : Im} {c : Int} (h : 0 < im.hold.length) : ((unt l im c).2 != 0) = true := by
  unfold unt
  split
  · rename_i h1; exact h1
  · split
    · rfl
    · split
      · rfl
      · rw [if_pos (by simp; exact h)]; rfl
theorem rel_hld {l : List Im} {id r : ByteArray} (h : (hld l id r).2 = 0) : rel (hld l id r).1 id r = (l, 0) := by
  obtain ⟨i, hi, h2, h3, h4, e⟩ := hld_ok h
  rw [e]
  have f1 : ifind (l.set i (addR (ix l i) r)) id = (i : Int) := by
    refine idx_at (by simpa using hi) (fun q hq => ?_) ?_
    · rw [ix_set_other (by omega) (by omega)]; exact h3 q hq
    · rw [ix_set_at hi]; exact h2
  have f2 : idx (fun x => sEq r x) (addR (ix l i) r).hold = ((ix l i).hold.length : Int) := by
    have ha : (addR (ix l i) r).hold = (ix l i).hold ++ [r] := rfl
    rw [ha]
    refine idx_at (by simp) (fun q hq => ?_) ?_
    · have h5 : ix ((ix l i).hold ++ [r]) q = ix (ix l i).hold q := by
        have a1 := ix_get (l := (ix l i).hold ++ [r]) (i := q) (by simp; omega)
        rw [List.getElem?_append_left hq, ix_get hq] at a1
        exact (Option.some.inj a1).symm
      rw [h5]; exact h4 q hq
    · have h5 : ix ((ix l i).hold ++ [r]) (ix l i).hold.length = r := by
        have a1 := ix_get (l := (ix l i).hold ++ [r]) (i := (ix l i).hold.length) (by simp)
        rw [List.getElem?_append_right (Nat.le_refl _)] at a1
        simpa using a1.symm
      rw [h5]; exact eq_self_s r
  have f3 : delR (addR (ix l i) r) (ix l i).hold.length = ix l i := by
    have ha : (addR (ix l i) r).hold = (ix l i).hold ++ [r] := rfl
    unfold delR
    rw [ha, List.take_left, List.drop_of_length_le (by simp), List.append_nil]
    rfl
  unfold rel
  rw [f1]
  rw [if_neg (by simp), show ((i : Int)).toNat = i from rfl, ix_set_at hi, f2, if_neg (by simp), show (((ix l i).hold.length : Int)).toNat = (ix l i).hold.length from rfl, f3, List.set_set, set_ix hi]
theorem hold_e {l : List Im} {id reason : ByteArray} (h : (hld l id reason).2 ≠ 0) (hl : l.length ≤ 1000) (hb : ∀ q, q < l.length → (ix l q).hold.length ≤ 1000) : Ctr Try.prog 21 [.sl 5 (List.map eIm l), .fl (.string id), .fl (.string reason)] (.tu [.sl 5 (List.map eIm l), .fl (.int .i64 (hld l id reason).2)]) := by
  have := ret_hold l id reason hl hb
  rwa [hld_err h] at this
theorem hold_0 {l : List Im} {id reason : ByteArray} (h : (hld l id reason).2 = 0) (hl : l.length ≤ 1000) (hb : ∀ q, q < l.length → (ix l q).hold.length ≤ 1000) : Ctr Try.prog 21 [.sl 5 (List.map eIm l), .fl (.string id), .fl (.string reason)] (.tu [.sl 5 (List.map eIm (hld l id reason).1), .fl (.int .i64 0)]) := by
  have := ret_hold l id reason hl hb
  rwa [h] at this
theorem rel_0 {l : List Im} {id reason : ByteArray} (h : (hld l id reason).2 = 0) (hl : l.length ≤ 900) (hb : ∀ q, q < l.length → (ix l q).hold.length ≤ 900) : Ctr Try.prog 23 [.sl 5 (List.map eIm (hld l id reason).1), .fl (.string id), .fl (.string reason)] (.tu [.sl 5 (List.map eIm l), .fl (.int .i64 0)]) := by
  have := ret_rel (hld l id reason).1 id reason (by rw [held_len]; omega) (fun q hq => by have := held_hold (r := reason) (id := id) hb q hq; omega)
  rwa [rel_hld h] at this

set_option maxHeartbeats 4000000 in
set_option maxRecDepth 100000 in
theorem law7 (s : Sto) (id reason : ByteArray) : Ctr Try.prog 7 [.ag (eSto s), .fl (.string id), .fl (.string reason)] (.d (.fl (.bool true))) := by
  refine ctr (n := 82) (rs := #[.tmp 6]) (L := [(0, .d (.ag (eSto s))), (1, .d (.fl (.string id))), (2, .d (.fl (.string reason)))]) Try.func7 rfl rfl rfl rfl rfl (fun w0 U0 => ?_)
  refine a_rseq ?_
  refine rg_nam (d := 3) (v := .pt 101 0) (m := 101) (nw := [(101, .bx 39 (eSto s))]) rfl (og rfl (of_eff (op_box 101 rfl rfl rfl rfl) rfl)) rfl ?_
  refine rg_put (d := 6) (v := .d (.fl (.bool false))) rfl (og rfl (op_assign rfl rfl rfl)) ?_
  refine rg_done rfl ?_
  refine a_seq ?_
  refine a_rseq ?_
  refine rg_put (d := 15) (v := .d (.ag (eSto s))) rfl (og rfl (of_eff (s_load_pts rfl Try.underlying39 rfl ti39 rfl rfl rfl rfl) rfl)) ?_
  refine rg_put (d := 16) (v := .d (.fl (.bool (gre s)))) rfl (og rfl (op_call rfl Try.func14 nm14 rfl (.cons rfl (.d _) .nil) (great_is s) rfl)) ?_
  refine rg_done rfl ?_
  refine a_cond rfl (fun h1 => ?_) (fun h1 => ?_)
  · skip
    refine a_rseq ?_
    refine rg_put (d := 17) (v := .d (.fl (.bool true))) rfl (og rfl (op_call rfl Try.func9 nm9 rfl .nil awake_true rfl)) ?_
    refine rg_put (d := 6) (v := .d (.fl (.bool true))) rfl (og rfl (op_assign rfl rfl rfl)) ?_
    refine rg_done rfl ?_
    refine a_ret ?_
    show ∃ ds, ResL _ _ _ ds ∧ RV.of ds = _
    refine ⟨[.fl (.bool true)], (.cons (.tmp rfl (.d _)) .nil), ?_⟩
    rfl
  · skip
    refine a_skip ?_
    show A _ _ _ _ _ _ _
    refine a_rseq ?_
    obtain ⟨g1, g2, g3, g4⟩ := gre_f h1
    refine rg_put (d := 19) (v := .pt 101 1) rfl (og rfl (of_eff (s_field_pt rfl Try.underlying39 rfl ti36 rfl rfl rfl) rfl)) ?_
    refine rg_put (d := 20) (v := .d (.sl 5 (List.map eIm s.images))) rfl (og rfl (op_load_pt rfl Try.underlying36 rfl rfl rfl rfl rfl)) ?_
    refine rg_put (d := 21) (v := .d (.fl (.string id))) rfl (og rfl (op_move rfl rfl rfl)) ?_
    refine rg_put (d := 22) (v := .d (.fl (.string reason))) rfl (og rfl (op_move rfl rfl rfl)) ?_
    rcases fot (((hld s.images id reason).2 != 0)) with h2 | h2
    · skip
      have he0 := f_bne h2
      have hln := held_len (l := s.images) (id := id) (r := reason)
      have hlen0 : (((hld s.images id reason).1.length : Int) != (s.images.length : Int)) = false := by rw [hln]; exact ne_self_b _
      have h3 := f_bne h2
      refine rg_put (d := 23) (v := .tu [.sl 5 (List.map eIm ((hld s.images id reason).1)), .fl (.int .i64 0)]) rfl (og rfl (op_call rfl Try.func21 nm21 rfl (.cons rfl (.d _) (.cons rfl (.d _) (.cons rfl (.d _) .nil))) (hold_0 (f_bne h2) (by omega) (fun q h => by have := g4 q h; omega)) rfl)) ?_
      refine rg_put (d := 18) (v := .tu [.sl 5 (List.map eIm ((hld s.images id reason).1)), .fl (.int .i64 0)]) rfl (og rfl (op_move rfl rfl rfl)) ?_
      refine rg_put (d := 24) (v := .d (.sl 5 (List.map eIm ((hld s.images id reason).1)))) rfl (og rfl (op_extract rfl rfl rfl rfl)) ?_
      refine rg_put (d := 25) (v := .d (.fl (.int .i64 0))) rfl (og rfl (op_extract rfl rfl rfl rfl)) ?_
      refine rg_put (d := 7) (v := .d (.sl 5 (List.map eIm ((hld s.images id reason).1)))) rfl (og rfl (op_assign rfl rfl rfl)) ?_
      refine rg_put (d := 8) (v := .d (.fl (.int .i64 0))) rfl (og rfl (op_assign rfl rfl rfl)) ?_
      refine rg_done rfl ?_
      refine a_seq ?_
      refine a_rseq ?_
      refine rg_put (d := 26) (v := .d (.fl (.int .i64 0))) rfl (og rfl (op_move rfl rfl rfl)) ?_
      refine rg_put (d := 27) (v := .d (.fl (.bool (0 != 0)))) rfl (og rfl (op_bin rfl rfl rfl (b_neq _ _ _ _) rfl)) ?_
      refine rg_done rfl ?_
      refine a_condF rfl (ne_self_b _) ?_
      refine a_skip ?_
      show A _ _ _ _ _ _ _
      refine a_rseq ?_
      refine rg_put (d := 36) (v := .d (.sl 5 (List.map eIm ((hld s.images id reason).1)))) rfl (og rfl (op_move rfl rfl rfl)) ?_
      refine rg_put (d := 37) (v := .d (.fl (.string id))) rfl (og rfl (op_move rfl rfl rfl)) ?_
      refine rg_put (d := 38) (v := .d (.fl (.string reason))) rfl (og rfl (op_move rfl rfl rfl)) ?_
      refine rg_put (d := 39) (v := .tu [.sl 5 (List.map eIm s.images), .fl (.int .i64 0)]) rfl (og rfl (op_call rfl Try.func23 nm23 rfl (.cons rfl (.d _) (.cons rfl (.d _) (.cons rfl (.d _) .nil))) (rel_0 he0 (by omega) (fun q h => by have := g4 q h; omega)) rfl)) ?_
      refine rg_put (d := 35) (v := .tu [.sl 5 (List.map eIm s.images), .fl (.int .i64 0)]) rfl (og rfl (op_move rfl rfl rfl)) ?_
      refine rg_put (d := 40) (v := .d (.sl 5 (List.map eIm s.images))) rfl (og rfl (op_extract rfl rfl rfl rfl)) ?_
      refine rg_put (d := 41) (v := .d (.fl (.int .i64 0))) rfl (og rfl (op_extract rfl rfl rfl rfl)) ?_
      refine rg_put (d := 9) (v := .d (.sl 5 (List.map eIm s.images))) rfl (og rfl (op_assign rfl rfl rfl)) ?_
      refine rg_put (d := 10) (v := .d (.fl (.int .i64 0))) rfl (og rfl (op_assign rfl rfl rfl)) ?_
      refine rg_done rfl ?_
      refine a_seq ?_
      refine a_rseq ?_
      refine rg_put (d := 42) (v := .d (.fl (.int .i64 0))) rfl (og rfl (op_move rfl rfl rfl)) ?_
      refine rg_put (d := 43) (v := .d (.fl (.bool (0 != 0)))) rfl (og rfl (op_bin rfl rfl rfl (b_neq _ _ _ _) rfl)) ?_
      refine rg_put (d := 44) (v := .d (.fl (.bool (0 != 0)))) rfl (og rfl (op_move rfl rfl rfl)) ?_
      refine rg_put (d := 45) (v := .d (.sl 5 (List.map eIm s.images))) rfl (oy rfl rfl rfl (ne_self_b _) (op_move rfl rfl rfl)) ?_
      refine rg_put (d := 46) (v := .pt 101 1) rfl (oy rfl rfl rfl (ne_self_b _) (of_eff (s_field_pt rfl Try.underlying39 rfl ti36 rfl rfl rfl) rfl)) ?_
      refine rg_put (d := 47) (v := .d (.sl 5 (List.map eIm s.images))) rfl (oy rfl rfl rfl (ne_self_b _) (op_load_pt rfl Try.underlying36 rfl rfl rfl rfl rfl)) ?_
      refine rg_put (d := 48) (v := .d (.fl (.bool true))) rfl (oy rfl rfl rfl (ne_self_b _) (op_call rfl Try.func19 nm19 rfl (.cons rfl (.d _) (.cons rfl (.d _) .nil)) (same_self s.images (by omega) (fun q h => by have := g4 q h; omega)) rfl)) ?_
      refine rg_put (d := 49) (v := .d (.fl (.bool (!true)))) rfl (oy rfl rfl rfl (ne_self_b _) (op_un rfl rfl (u_not _) rfl)) ?_
      refine rg_put (d := 50) (v := .d (.fl (.bool (!true)))) rfl (og rfl (op_pick rfl rfl (by rw [(ne_self_b _)]; rfl) rfl)) ?_
      refine rg_put (d := 51) (v := .d (.fl (.bool (!true)))) rfl (og rfl (op_move rfl rfl rfl)) ?_
      refine rg_put (d := 52) (v := .d (.sl 5 (List.map eIm ((hld s.images id reason).1)))) rfl (oy rfl rfl rfl (not_f rfl) (op_move rfl rfl rfl)) ?_
      refine rg_put (d := 53) (v := .d (.fl (.int .i64 ((((hld s.images id reason).1).length : Int))))) rfl (oy rfl rfl rfl (not_f rfl) (s_len rfl Try.underlying36 rfl rfl)) ?_
      refine rg_put (d := 54) (v := .pt 101 1) rfl (oy rfl rfl rfl (not_f rfl) (of_eff (s_field_pt rfl Try.underlying39 rfl ti36 rfl rfl rfl) rfl)) ?_
      refine rg_put (d := 55) (v := .d (.sl 5 (List.map eIm s.images))) rfl (oy rfl rfl rfl (not_f rfl) (op_load_pt rfl Try.underlying36 rfl rfl rfl rfl rfl)) ?_
      refine rg_put (d := 56) (v := .d (.fl (.int .i64 (s.images.length : Int)))) rfl (oy rfl rfl rfl (not_f rfl) (s_len rfl Try.underlying36 rfl rfl)) ?_
      refine rg_put (d := 57) (v := .d (.fl (.bool (((((hld s.images id reason).1).length : Int) != (s.images.length : Int)))))) rfl (oy rfl rfl rfl (not_f rfl) (op_bin rfl rfl rfl (b_neq _ _ _ _) rfl)) ?_
      refine rg_put (d := 58) (v := .d (.fl (.bool (((((hld s.images id reason).1).length : Int) != (s.images.length : Int)))))) rfl (og rfl (op_pick rfl rfl (by rw [(not_f rfl)]; rfl) rfl)) ?_
      refine rg_done rfl ?_
      refine a_condF rfl hlen0 ?_
      refine a_skip ?_
      show A _ _ _ _ _ _ _
      refine a_seq ?_
      refine a_rseq ?_
      refine rg_put (d := 59) (v := .d (.sl 5 (List.map eIm ((hld s.images id reason).1)))) rfl (og rfl (op_move rfl rfl rfl)) ?_
      refine rg_put (d := 60) (v := .d (.fl (.int .i64 ((((hld s.images id reason).1).length : Int))))) rfl (og rfl (s_len rfl Try.underlying36 rfl rfl)) ?_
      refine rg_put (d := 61) (v := .d (.fl (.int .i64 0))) rfl (og rfl (op_move rfl rfl rfl)) ?_
      refine rg_done rfl ?_
      refine a_block ?_
      refine a_loop (ι := Nat) (fun k => SS [(0, .d (.ag (eSto s))), (1, .d (.fl (.string id))), (2, .d (.fl (.string reason))), (3, .pt 101 0), (7, .d (.sl 5 (List.map eIm ((hld s.images id reason).1)))), (8, .d (.fl (.int .i64 0))), (9, .d (.sl 5 (List.map eIm s.images))), (10, .d (.fl (.int .i64 0))), (16, .d (.fl (.bool (gre s)))), (27, .d (.fl (.bool (0 != 0)))), (58, .d (.fl (.bool (((((hld s.images id reason).1).length : Int) != (s.images.length : Int)))))), (59, .d (.sl 5 (List.map eIm ((hld s.images id reason).1)))), (60, .d (.fl (.int .i64 ((((hld s.images id reason).1).length : Int))))), (61, .d (.fl (.int .i64 (k : Int))))] [(101, .bx 39 (eSto s))]) (fun k => k ≤ (hld s.images id reason).1.length ∧ ∀ q, q < k → sEq (ix (hld s.images id reason).1 q).id id = false) (fun k => (hld s.images id reason).1.length - k) 0 (⟨by omega, fun q h => by omega⟩) (imp_forget rfl ⟨rfl, rfl, rfl, rfl, rfl, rfl, rfl, rfl, rfl, rfl, rfl, rfl, rfl, (by first | rfl | exact ci (by omega) | exact ci (by simp) | exact cd (by simp) | simp), trivial⟩ ⟨rfl, trivial⟩) (fun k hok => ?_)
      obtain ⟨hk, hq⟩ := hok
      refine a_rseq ?_
      refine rg_put (d := 62) (v := .d (.fl (.bool ((decide ((k : Int) < (((hld s.images id reason).1).length : Int))))))) rfl (og rfl (op_bin rfl rfl rfl (b_lss _ _ _ _) rfl)) ?_
      refine rg_done rfl ?_
      refine a_seq ?_
      refine a_cond rfl (fun h4 => ?_) (fun h4 => ?_)
      · skip
        have h5 := t_dec h4
        refine a_skip ?_
        show A _ _ _ _ _ _ _
        refine a_seq ?_
        refine a_block ?_
        refine a_rseq ?_
        refine rg_put (d := 63) (v := .el ((eIm ((ix ((hld s.images id reason).1) k))))) rfl (og rfl (s_index rfl Try.underlying36 ti26 rfl rfl (by omega) (row_at (by omega)) rfl)) ?_
        refine rg_put (d := 64) (v := .d (.ag (eIm (((ix ((hld s.images id reason).1) k)))))) rfl (og rfl (of_eff (s_load_els rfl Try.underlying26 rfl ti26 rfl rfl rfl) rfl)) ?_
        refine rg_nam (d := 12) (v := .pt 102 0) (m := 102) (nw := [(102, .bx 26 ([.fl (.string (⟨#[]⟩)), .fl (.int .i64 0), .fl (.int .i64 0), .fl (.slice none 0 0), .fl (.int .u64 0)]))]) rfl (og rfl (of_eff (s_alloc 102 rfl ti26 (by kernel_rfl) rfl) rfl)) rfl ?_
        refine rg_sto (nw := [(102, .bx 26 ((eIm (((ix ((hld s.images id reason).1) k))))))]) rfl (og rfl (of_eff (s_store rfl rfl ti26 rfl rfl rfl rfl rfl rfl) rfl)) ?_
        refine rg_done rfl ?_
        refine a_seq ?_
        refine a_rseq ?_
        refine rg_put (d := 65) (v := .pt 102 0) rfl (og rfl (of_eff (s_field_pt rfl Try.underlying26 rfl ti9 rfl rfl rfl) rfl)) ?_
        refine rg_put (d := 66) (v := .d (.fl (.string ((((ix ((hld s.images id reason).1) k))).id)))) rfl (og rfl (op_load_pt rfl Try.underlying9 rfl rfl rfl rfl rfl)) ?_
        refine rg_put (d := 67) (v := .d (.fl (.string id))) rfl (og rfl (op_move rfl rfl rfl)) ?_
        refine rg_put (d := 68) (v := .d (.fl (.bool ((!(sEq ((((ix ((hld s.images id reason).1) k))).id) id)))))) rfl (og rfl (op_bin rfl rfl rfl (b_sne _ _ _) rfl)) ?_
        refine rg_done rfl ?_
        refine a_cond rfl (fun h6 => ?_) (fun h6 => ?_)
        · skip
          have h7 := t_not h6
          refine a_exit ?_
          show A _ _ _ _ _ _ _
          refine a_region ?_
          refine rg_put (d := 81) (v := .d (.fl (.int .i64 (((k : Int) + 1))))) rfl (og rfl (op_bin rfl rfl rfl (fun x y w => b_add64 _ _ _ x y w (by omega)) rfl)) ?_
          refine rg_put (d := 61) (v := .d (.fl (.int .i64 (((k : Int) + 1))))) rfl (og rfl (op_move rfl rfl rfl)) ?_
          refine rg_done rfl ?_
          show ∃ i, _ ∧ _ ∧ Imp _ _ _ _ _
          refine ⟨k + 1, ⟨by omega, fun q h => by
            rcases Nat.lt_succ_iff_lt_or_eq.1 h with h | h
            · exact hq q h
            · subst h; exact (by simpa using h7)⟩, by omega, imp_forget rfl ⟨rfl, rfl, rfl, rfl, rfl, rfl, rfl, rfl, rfl, rfl, rfl, rfl, rfl, (by first | rfl | exact ci (by omega) | exact ci (by simp) | exact cd (by simp) | simp), trivial⟩ ⟨rfl, trivial⟩⟩
        · skip
          have h8 := f_not h6
          refine a_skip ?_
          show A _ _ _ _ _ _ _
          refine a_rseq ?_
          have hpos := held_at he0 (k := k) (by omega) (by simpa using h8) hq
          refine rg_put (d := 70) (v := .pt 101 0) rfl (og rfl (of_eff (s_field_pt rfl Try.underlying39 rfl ti22 rfl rfl rfl) rfl)) ?_
          refine rg_put (d := 71) (v := .d (.sl 3 (List.map eKp s.rules))) rfl (og rfl (op_load_pt rfl Try.underlying22 rfl rfl rfl rfl rfl)) ?_
          refine rg_put (d := 72) (v := .d (.ag (eIm ((((ix ((hld s.images id reason).1) k))))))) rfl (og rfl (of_eff (s_load_pts rfl Try.underlying26 rfl ti26 rfl rfl rfl rfl) rfl)) ?_
          refine rg_put (d := 73) (v := .tu [.fl (.int .i64 ((unt s.rules ((((ix ((hld s.images id reason).1) k)))) 0).1)), .fl (.int .i64 ((unt s.rules ((((ix ((hld s.images id reason).1) k)))) 0).2))]) rfl (og rfl (op_call rfl Try.func10 nm10 rfl (.cons rfl (.d _) (.cons rfl (.d _) (.cons rfl (.d _) .nil))) (ret_until s.rules ((((ix ((hld s.images id reason).1) k)))) 0) rfl)) ?_
          refine rg_put (d := 69) (v := .tu [.fl (.int .i64 ((unt s.rules ((((ix ((hld s.images id reason).1) k)))) 0).1)), .fl (.int .i64 ((unt s.rules ((((ix ((hld s.images id reason).1) k)))) 0).2))]) rfl (og rfl (op_move rfl rfl rfl)) ?_
          refine rg_put (d := 74) (v := .d (.fl (.int .i64 ((unt s.rules ((((ix ((hld s.images id reason).1) k)))) 0).1)))) rfl (og rfl (op_extract rfl rfl rfl rfl)) ?_
          refine rg_put (d := 75) (v := .d (.fl (.int .i64 ((unt s.rules ((((ix ((hld s.images id reason).1) k)))) 0).2)))) rfl (og rfl (op_extract rfl rfl rfl rfl)) ?_
          refine rg_put (d := 13) (v := .d (.fl (.int .i64 ((unt s.rules ((((ix ((hld s.images id reason).1) k)))) 0).1)))) rfl (og rfl (op_assign rfl rfl rfl)) ?_
          refine rg_put (d := 14) (v := .d (.fl (.int .i64 ((unt s.rules ((((ix ((hld s.images id reason).1) k)))) 0).2)))) rfl (og rfl (op_assign rfl rfl rfl)) ?_
          refine rg_done rfl ?_
          refine a_rseq ?_
          refine rg_put (d := 76) (v := .d (.fl (.int .i64 ((unt s.rules ((((ix ((hld s.images id reason).1) k)))) 0).2)))) rfl (og rfl (op_move rfl rfl rfl)) ?_
          refine rg_put (d := 77) (v := .d (.fl (.bool (((unt s.rules ((((ix ((hld s.images id reason).1) k)))) 0).2 != 0))))) rfl (og rfl (op_bin rfl rfl rfl (b_neq _ _ _ _) rfl)) ?_
          refine rg_put (d := 78) (v := .d (.fl (.bool (((unt s.rules ((((ix ((hld s.images id reason).1) k)))) 0).2 != 0))))) rfl (og rfl (op_move rfl rfl rfl)) ?_
          refine rg_put (d := 79) (v := .d (.fl (.bool true))) rfl (oy rfl rfl rfl (unt_held hpos) (op_call rfl Try.func9 nm9 rfl .nil awake_true rfl)) ?_
          refine rg_put (d := 80) (v := .d (.fl (.bool true))) rfl (og rfl (op_pick rfl rfl (by rw [(unt_held hpos)]; rfl) rfl)) ?_
          refine rg_put (d := 6) (v := .d (.fl (.bool true))) rfl (og rfl (op_assign rfl rfl rfl)) ?_
          refine rg_done rfl ?_
          refine a_ret ?_
          show ∃ ds, ResL _ _ _ ds ∧ RV.of ds = _
          refine ⟨[.fl (.bool true)], (.cons (.tmp rfl (.d _)) .nil), ?_⟩
          rfl
      · skip
        have h9 := f_dec h4
        refine a_exit ?_
        show A _ _ _ _ _ _ _
        refine a_rseq ?_
        refine rg_put (d := 6) (v := .d (.fl (.bool false))) rfl (og rfl (op_assign rfl rfl rfl)) ?_
        refine rg_done rfl ?_
        refine a_ret ?_
        show ∃ ds, ResL _ _ _ ds ∧ RV.of ds = _
        refine ⟨[.fl (.bool false)], (.cons (.tmp rfl (.d _)) .nil), ?_⟩
        exfalso
        obtain ⟨i, hi1, hi2⟩ := held_is he0
        rw [hq i (by omega)] at hi2; cases hi2
    · skip
      have h10 := t_bne h2
      refine rg_put (d := 23) (v := .tu [.sl 5 (List.map eIm s.images), .fl (.int .i64 ((hld s.images id reason).2))]) rfl (og rfl (op_call rfl Try.func21 nm21 rfl (.cons rfl (.d _) (.cons rfl (.d _) (.cons rfl (.d _) .nil))) (hold_e (t_bne h2) (by omega) (fun q h => by have := g4 q h; omega)) rfl)) ?_
      refine rg_put (d := 18) (v := .tu [.sl 5 (List.map eIm s.images), .fl (.int .i64 ((hld s.images id reason).2))]) rfl (og rfl (op_move rfl rfl rfl)) ?_
      refine rg_put (d := 24) (v := .d (.sl 5 (List.map eIm s.images))) rfl (og rfl (op_extract rfl rfl rfl rfl)) ?_
      refine rg_put (d := 25) (v := .d (.fl (.int .i64 ((hld s.images id reason).2)))) rfl (og rfl (op_extract rfl rfl rfl rfl)) ?_
      refine rg_put (d := 7) (v := .d (.sl 5 (List.map eIm s.images))) rfl (og rfl (op_assign rfl rfl rfl)) ?_
      refine rg_put (d := 8) (v := .d (.fl (.int .i64 ((hld s.images id reason).2)))) rfl (og rfl (op_assign rfl rfl rfl)) ?_
      refine rg_done rfl ?_
      refine a_seq ?_
      refine a_rseq ?_
      refine rg_put (d := 26) (v := .d (.fl (.int .i64 ((hld s.images id reason).2)))) rfl (og rfl (op_move rfl rfl rfl)) ?_
      refine rg_put (d := 27) (v := .d (.fl (.bool (((hld s.images id reason).2 != 0))))) rfl (og rfl (op_bin rfl rfl rfl (b_neq _ _ _ _) rfl)) ?_
      refine rg_done rfl ?_
      refine a_condK rfl h2 ?_
      refine a_rseq ?_
      refine rg_put (d := 28) (v := .d (.sl 5 (List.map eIm s.images))) rfl (og rfl (op_move rfl rfl rfl)) ?_
      refine rg_put (d := 29) (v := .pt 101 1) rfl (og rfl (of_eff (s_field_pt rfl Try.underlying39 rfl ti36 rfl rfl rfl) rfl)) ?_
      refine rg_put (d := 30) (v := .d (.sl 5 (List.map eIm s.images))) rfl (og rfl (op_load_pt rfl Try.underlying36 rfl rfl rfl rfl rfl)) ?_
      refine rg_put (d := 31) (v := .d (.fl (.bool true))) rfl (og rfl (op_call rfl Try.func19 nm19 rfl (.cons rfl (.d _) (.cons rfl (.d _) .nil)) (same_self s.images (by omega) (fun q h => by have := g4 q h; omega)) rfl)) ?_
      refine rg_put (d := 32) (v := .d (.fl (.bool true))) rfl (og rfl (op_move rfl rfl rfl)) ?_
      refine rg_put (d := 33) (v := .d (.fl (.bool true))) rfl (oy rfl rfl rfl rfl (op_call rfl Try.func9 nm9 rfl .nil awake_true rfl)) ?_
      refine rg_put (d := 34) (v := .d (.fl (.bool true))) rfl (og rfl (op_pick rfl rfl rfl rfl)) ?_
      refine rg_put (d := 6) (v := .d (.fl (.bool true))) rfl (og rfl (op_assign rfl rfl rfl)) ?_
      refine rg_done rfl ?_
      refine a_ret ?_
      show ∃ ds, ResL _ _ _ ds ∧ RV.of ds = _
      refine ⟨[.fl (.bool true)], (.cons (.tmp rfl (.d _)) .nil), ?_⟩
      rfl
end Go.Proofs.Yteplcjhnmmpicaa.Wk
