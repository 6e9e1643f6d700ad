/- Differences: the mathematics. No condition. -/
import Derived.Test.YtakmjlpciicaiaaGreatDoorC2
import Derived.Test.YtakmjlpciicaiaaGreatDoorB6
set_option linter.unusedSimpArgs false
set_option linter.unusedVariables false
namespace Go.Proofs.YtakmjlpciicaiaaGreatDoor.Wk
open Go Go.RowKit Go.Proofs.YtakmjlpciicaiaaGreatDoor.Av
theorem has_iff {l : List Psg} {x : Psg} : hasB l x = true ↔ x ∈ l := by
  refine ⟨fun h => ?_, has_of⟩
  obtain ⟨y, hy, he⟩ := List.any_eq_true.1 h
  have : y = x := cp_0 (by simpa using he)
  rw [← this]; exact hy
theorem has_no {l : List Psg} {x : Psg} : hasB l x = false ↔ x ∉ l := by rw [← has_iff]; cases hasB l x <;> simp
theorem dd_mem {l : List Psg} : ∀ n, n ≤ l.length → ∀ q, q < n → ix l q ∈ dd l n
  | 0, _, q, h => by omega
  | n + 1, h, q, hq => by
    have ih := dd_mem (l := l) n (by omega)
    cases hb : (decide (n = 0) || !(cp (ix l n) (ix l (n - 1)) == 0)) with
    | true =>
      simp only [dd, hb, cond_true]
      rcases Nat.lt_succ_iff_lt_or_eq.1 hq with e | e
      · exact List.mem_append_left _ (ih q e)
      · rw [e]; simp
    | false =>
      simp only [dd, hb, cond_false]
      rcases Nat.lt_succ_iff_lt_or_eq.1 hq with e | e
      · exact ih q e
      · simp only [Bool.or_eq_false_iff, decide_eq_false_iff_not, Bool.not_eq_false'] at hb
        have e2 : ix l n = ix l (n - 1) := cp_0 (by simpa using hb.2)
        have h0 := hb.1; rw [e, e2]; exact ih (n - 1) (by omega)
theorem dd_last {l : List Psg} : ∀ n, 0 < n → n ≤ l.length → ∃ r, dd l n = r ++ [ix l (n - 1)]
  | 0, h, _ => by omega
  | 1, _, _ => ⟨[], by rw [dd_new (.inl rfl)]; rfl⟩
  | n + 2, _, h => by
    obtain ⟨r, hr⟩ := dd_last (l := l) (n + 1) (by omega) (by omega)
    cases hb : (cp (ix l (n + 1)) (ix l (n + 1 - 1)) == 0) with
    | true =>
      have e : ix l (n + 1) = ix l (n + 1 - 1) := cp_0 (by simpa using hb)
      exact ⟨r, by rw [dd_old (by omega) hb, hr, show n + 2 - 1 = n + 1 from rfl, e]⟩
    | false => exact ⟨dd l (n + 1), by rw [dd_new (.inr hb)]; rfl⟩
theorem dd_asc {l : List Psg} (hs : l.Pairwise (fun x y => cp x y ≤ 0)) : ∀ n, n ≤ l.length → (dd l n).Pairwise (fun x y => cp x y < 0)
  | 0, _ => by simp [dd]
  | n + 1, h => by
    have ih := dd_asc hs n (by omega)
    by_cases h0 : n = 0
    · subst h0; rw [dd_new (.inl rfl)]; simp [dd]
    cases hb : (cp (ix l n) (ix l (n - 1)) == 0) with
    | true => rw [dd_old h0 hb]; exact ih
    | false =>
      rw [dd_new (.inr hb), List.pairwise_append]
      refine ⟨ih, List.pairwise_singleton _ _, fun a ha b hb' => ?_⟩
      rw [List.mem_singleton] at hb'
      subst hb'
      have hle : cp (ix l (n - 1)) (ix l n) ≤ 0 := by
        have := List.pairwise_iff_getElem.1 hs (n - 1) n (by omega) (by omega) (by omega)
        rwa [ix_eq (by omega), ix_eq (by omega)] at this
      have hne : cp (ix l n) (ix l (n - 1)) ≠ 0 := by simpa using hb
      have hlt : cp (ix l (n - 1)) (ix l n) < 0 := by have := cp_neg (ix l n) (ix l (n - 1)); omega
      obtain ⟨r, hr⟩ := dd_last (l := l) n (by omega) (by omega)
      rw [hr] at ha ih
      rcases List.mem_append.1 ha with ha | ha
      · have h1 : cp a (ix l (n - 1)) < 0 := (List.pairwise_append.1 ih).2.2 a ha _ (by simp)
        have h2 := cp_tq a (ix l (n - 1)) (ix l n) (by omega) hle
        have h3 := h2.1
        by_cases e : cp a (ix l n) = 0
        · have ea := cp_0 e
          rw [ea] at h1
          have := cp_neg (ix l n) (ix l (n - 1)); omega
        · omega
      · rw [List.mem_singleton] at ha; rw [ha]; exact hlt
noncomputable def dfl (l : List Psg) : List Psg := dd (srt l) (srt l).length
theorem dfl_mem {l : List Psg} {x : Psg} : x ∈ dfl l ↔ x ∈ l := by
  unfold dfl
  constructor
  · intro h; exact (srt_perm l).subset (dd_sub _ (Nat.le_refl _) x h)
  · intro h
    obtain ⟨q, hq, rfl⟩ := List.getElem_of_mem ((srt_perm l).symm.subset h)
    rw [ix_eq hq]; exact dd_mem _ (Nat.le_refl _) q hq
theorem dfl_asc (l : List Psg) : (dfl l).Pairwise (fun x y => cp x y < 0) := dd_asc (srt_pw l) _ (Nat.le_refl _)
theorem dfl_len (l : List Psg) : (dfl l).length ≤ l.length := by have := dd_len (srt l) (srt l).length; rw [srt_len] at this; unfold dfl; rw [srt_len]; exact this
def wo (a b : List Psg) : List Psg := a.filter fun x => !(hasB b x)
theorem asc_nodup {l : List Psg} (h : l.Pairwise (fun x y => cp x y < 0)) : l.Nodup := h.imp (fun {x y} h e => by rw [e, cp_self] at h; omega)
def rs (a b : List Psg) : Nat → List Psg
  | 0 => []
  | n + 1 => bif !(hasB b (ix a n)) && !(hasB (rs a b n) (ix a n)) then rs a b n ++ [ix a n] else rs a b n
theorem rs_yes {a b : List Psg} {n : Nat} (h1 : hasB b (ix a n) = false) (h2 : hasB (rs a b n) (ix a n) = false) : rs a b (n + 1) = rs a b n ++ [ix a n] := by simp only [rs, h1, h2, Bool.not_false, Bool.and_self, cond_true]
theorem rs_no1 {a b : List Psg} {n : Nat} (h1 : hasB b (ix a n) = true) : rs a b (n + 1) = rs a b n := by simp only [rs, h1, Bool.not_true, Bool.false_and, cond_false]
theorem rs_no2 {a b : List Psg} {n : Nat} (h2 : hasB (rs a b n) (ix a n) = true) : rs a b (n + 1) = rs a b n := by simp only [rs, h2, Bool.not_true, Bool.and_false, cond_false]
theorem rs_len (a b : List Psg) : ∀ n, (rs a b n).length ≤ n
  | 0 => by simp [rs]
  | n + 1 => by
    have := rs_len a b n
    simp only [rs]
    cases (!(hasB b (ix a n)) && !(hasB (rs a b n) (ix a n))) <;> simp only [cond_true, cond_false, List.length_append, List.length_singleton] <;> omega
theorem rs_mem {a b : List Psg} {x : Psg} : ∀ n, n ≤ a.length → (x ∈ rs a b n ↔ x ∈ a.take n ∧ x ∉ b)
  | 0, _ => by simp [rs]
  | n + 1, h => by
    have ih := rs_mem (a := a) (b := b) (x := x) n (by omega)
    rw [take_ix (by omega), List.mem_append, List.mem_singleton]
    cases h1 : hasB b (ix a n) with
    | true =>
      rw [rs_no1 h1, ih]
      have hb := has_iff.1 h1
      exact ⟨fun h => ⟨.inl h.1, h.2⟩, fun h => ⟨h.1.elim id (fun e => absurd (e ▸ hb) h.2), h.2⟩⟩
    | false =>
      have hb := has_no.1 h1
      cases h2 : hasB (rs a b n) (ix a n) with
      | true =>
        rw [rs_no2 h2, ih]
        have hr := (rs_mem (a := a) (b := b) (x := ix a n) n (by omega)).1 (has_iff.1 h2)
        exact ⟨fun h => ⟨.inl h.1, h.2⟩, fun h => ⟨h.1.elim id (fun e => by rw [e]; exact hr.1), h.2⟩⟩
      | false =>
        rw [rs_yes h1 h2, List.mem_append, List.mem_singleton, ih]
        exact ⟨fun h => h.elim (fun h => ⟨.inl h.1, h.2⟩) (fun e => ⟨.inr e, by rw [e]; exact hb⟩), fun h => h.1.elim (fun q => .inl ⟨q, h.2⟩) .inr⟩
theorem rs_nodup {a b : List Psg} : ∀ n, (rs a b n).Nodup
  | 0 => by simp [rs]
  | n + 1 => by
    have ih := rs_nodup (a := a) (b := b) n
    cases h1 : hasB b (ix a n) with
    | true => rw [rs_no1 h1]; exact ih
    | false =>
      cases h2 : hasB (rs a b n) (ix a n) with
      | true => rw [rs_no2 h2]; exact ih
      | false =>
        rw [rs_yes h1 h2, List.nodup_append]
        exact ⟨ih, by simp, fun x hx y hy e => by rw [List.mem_singleton] at hy; exact has_no.1 h2 (by rw [← hy, ← e]; exact hx)⟩
theorem rs_wo (a b : List Psg) : srt (rs a b a.length) = wo (dfl a) (dfl b) := by
  have hasc : (wo (dfl a) (dfl b)).Pairwise (fun x y => cp x y < 0) := (dfl_asc a).sublist List.filter_sublist
  refine (srt_eq (l := rs a b a.length) (l' := wo (dfl a) (dfl b)) ?_ (hasc.imp (fun h => by omega))).symm
  refine (List.perm_ext_iff_of_nodup (asc_nodup hasc) (rs_nodup _)).2 (fun x => ?_)
  rw [rs_mem _ (Nat.le_refl _), List.take_of_length_le (Nat.le_refl _)]
  unfold wo
  rw [List.mem_filter, dfl_mem, Bool.not_eq_true', has_no, dfl_mem]
theorem wo_len (a b : List Psg) : (wo (dfl a) (dfl b)).length ≤ a.length := Nat.le_trans (List.length_filter_le _ _) (dfl_len a)
theorem wo_sub {a b : List Psg} {x : Psg} (h : x ∈ wo (dfl a) (dfl b)) : x ∈ a := dfl_mem.1 (List.mem_filter.1 h).1
theorem wo_gone {a b : List Psg} {x : Psg} (h : x ∈ a) : hasB (wo (dfl a) (dfl b)) x = !(hasB b x) := by
  cases hb : hasB b x with
  | true => exact has_no.2 (fun hm => by have := (List.mem_filter.1 hm).2; rw [Bool.not_eq_true', has_no, dfl_mem] at this; exact this (has_iff.1 hb))
  | false => exact has_of (List.mem_filter.2 ⟨dfl_mem.2 h, by rw [Bool.not_eq_true', has_no, dfl_mem]; exact has_no.1 hb⟩)
theorem wo_come {a b : List Psg} {x : Psg} (h : x ∈ a) : hasB (wo (dfl b) (dfl a)) x = false := has_no.2 (fun hm => by
  have := (List.mem_filter.1 hm).2
  rw [Bool.not_eq_true', has_no, dfl_mem] at this
  exact this h)
theorem wo_self (a : List Psg) : wo (dfl a) (dfl a) = [] := List.filter_eq_nil_iff.2 (fun x hx => by
  have := has_of hx
  rw [this]; simp)
def ps (l : List Psg) (x : Psg) : Nat := (l.takeWhile fun y => decide (cp y x < 0)).length
theorem ps_eq {x : Psg} : ∀ {l : List Psg} {i : Nat}, i ≤ l.length → (∀ q, q < i → cp (ix l q) x < 0) → (i < l.length → ¬ cp (ix l i) x < 0) → ps l x = i
  | [], i, h, _, _ => by simp at h; subst h; rfl
  | y :: r, 0, _, _, h => by
    have : ¬ cp y x < 0 := h (by simp)
    simp [ps, this]
  | y :: r, i + 1, h, hq, hn => by
    have h0 : cp y x < 0 := hq 0 (by omega)
    have ih := ps_eq (x := x) (l := r) (i := i) (by simpa using h) (fun q h => hq (q + 1) (by omega)) (fun h => hn (by simpa using h))
    unfold ps at *
    simp [h0, ih]
theorem ps_has {l : List Psg} {x : Psg} {i : Nat} (hs : l.Pairwise (fun x y => cp x y < 0)) (hi : i ≤ l.length) (hq : ∀ q, q < i → cp (ix l q) x < 0) (hn : i < l.length → ¬ cp (ix l i) x < 0) : hasB l x = (decide (i < l.length) && (cp (ix l i) x == 0)) := by
  cases hb : hasB l x with
  | false =>
    by_cases h : i < l.length
    · rw [decide_eq_true h, Bool.true_and]
      have : ¬ cp (ix l i) x = 0 := fun e => has_no.1 hb (by rw [← cp_0 e]; exact ix_mem h)
      simpa using this
    · rw [decide_eq_false h]; rfl
  | true =>
    obtain ⟨q, hq1, he⟩ := List.getElem_of_mem (has_iff.1 hb)
    rw [ix_eq hq1] at he
    have hz : cp (ix l q) x = 0 := by rw [he]; exact cp_self x
    have h1 : i ≤ q := by
      rcases Nat.lt_or_ge q i with h | h
      · have := hq q h; omega
      · exact h
    have h2 : i < l.length := by omega
    have h3 : i = q := by
      rcases Nat.eq_or_lt_of_le h1 with h | h
      · exact h
      · have h4 := List.pairwise_iff_getElem.1 hs i q h2 hq1 h
        rw [ix_eq h2, ix_eq hq1, he] at h4
        exact absurd h4 (hn h2)
    rw [decide_eq_true h2, h3, hz]; rfl
theorem bs_lo {l : List Psg} {x : Psg} {m : Nat} (hs : l.Pairwise (fun x y => cp x y < 0)) (hm : m < l.length) (hc : cp (ix l m) x < 0) (q : Nat) (hq : q ≤ m) : cp (ix l q) x < 0 := by
  rcases Nat.eq_or_lt_of_le hq with e | e
  · rw [e]; exact hc
  · have h1 := List.pairwise_iff_getElem.1 hs q m (by omega) hm e
    rw [ix_eq (by omega), ix_eq hm] at h1
    have := cp_tq (ix l q) (ix l m) x (by omega) (by omega)
    exact this.2.2 (.inl h1)
theorem bs_hi {l : List Psg} {x : Psg} {m : Nat} (hs : l.Pairwise (fun x y => cp x y < 0)) (hc : ¬ cp (ix l m) x < 0) (q : Nat) (hq : m ≤ q) (hl : q < l.length) : ¬ cp (ix l q) x < 0 := by
  rcases Nat.eq_or_lt_of_le hq with e | e
  · rw [← e]; exact hc
  · have h1 := List.pairwise_iff_getElem.1 hs m q (by omega) hl e
    rw [ix_eq (by omega), ix_eq hl] at h1
    intro h
    exact hc ((cp_tq (ix l m) (ix l q) x (by omega) (by omega)).2.2 (.inl h1))
theorem half_eq (a : Int) : a / 2 ^ min ((1 : Int)).toNat IntKind.u64.bits = a / 2 := by
  rw [show min ((1 : Int)).toNat IntKind.u64.bits = 1 from by decide]; rfl
theorem u64_small {x : Int} (h : 0 ≤ x ∧ x ≤ 4000) : IntKind.u64.wrap x = x := by
  rw [IntKind.wrap_u64]; omega

set_option maxHeartbeats 4000000 in
set_option maxRecDepth 100000 in
theorem sortO (l : List Psg) (hl : l.length ≤ 1000) (hz : ∀ x ∈ l, x.src.length ≤ 30) : CtrO Tryz.prog 21 [.sl 8 (List.map ePsg l)] (.tr 24 8 (tD ePsg (srt l))) := by
  refine ctrO (n := 9) (rs := #[.tmp 2]) (L := [(0, .d (.sl 8 (List.map ePsg l)))]) Tryz.func21 rfl rfl rfl rfl rfl (fun w0 U0 => ?_)
  refine a_rseq ?_
  refine rg_put (d := 2) (v := .d (.fl (.slice none 0 0))) rfl (og rfl (op_assign rfl rfl rfl)) ?_
  refine rg_done rfl ?_
  refine a_rseq ?_
  refine rg_put (d := 4) (v := .d (.sl 8 (List.map ePsg l))) rfl (og rfl (op_move rfl rfl rfl)) ?_
  refine rg_nam (d := 5) (v := .ow 101) (m := 101) (nw := [(101, .tr 24 8 (tD ePsg l))]) rfl (og rfl (of_eff (op_callO 101 rfl Tryz.func46 nm46 rfl (.cons rfl (.d _) .nil) (frP l hl hz) rfl) rfl)) rfl ?_
  refine rg_put (d := 3) (v := .ow 101) rfl (og rfl (op_assign rfl rfl rfl)) ?_
  refine rg_done rfl ?_
  refine a_rseq ?_
  refine rg_put (d := 6) (v := .ow 101) rfl (og rfl (op_move rfl rfl rfl)) ?_
  refine rg_sortE rfl rfl rfl rfl (by rfl) Tryz.func47 nm47 rfl rfl rfl rfl (fun _ => rfl) hz sortD (by omega) (fun l' hp hs => ?_)
  have hl' : l' = srt l := srt_eq hp (hs.imp (fun h => le_of_sorted cp_neg h))
  rw [show l' = (srt l) from hl']
  refine rg_done rfl ?_
  refine a_rseq ?_
  refine rg_put (d := 8) (v := .ow 101) rfl (og rfl (op_move rfl rfl rfl)) ?_
  refine rg_put (d := 2) (v := .ow 101) rfl (og rfl (op_assign rfl rfl rfl)) ?_
  refine rg_done rfl ?_
  refine a_ret ?_
  show ∃ rv, _ = #[rv] ∧ ResO _ _ rv _
  exact ⟨_, rfl, .tmp rfl rfl⟩
set_option maxHeartbeats 4000000 in
set_option maxRecDepth 100000 in
theorem dflC (l : List Psg) (hl : l.length ≤ 1000) (hz : ∀ x ∈ l, x.src.length ≤ 30) : Ctr Tryz.prog 49 [.sl 8 (List.map ePsg l)] (.d (.sl 8 (List.map ePsg (dfl l)))) := by
  refine ctr (n := 6) (rs := #[.tmp 2]) (L := [(0, .d (.sl 8 (List.map ePsg l)))]) Tryz.func49 rfl rfl rfl rfl rfl (fun w0 U0 => ?_)
  refine a_rseq ?_
  refine rg_put (d := 2) (v := .d (.fl (.slice none 0 0))) rfl (og rfl (op_assign rfl rfl rfl)) ?_
  refine rg_done rfl ?_
  refine a_rseq ?_
  refine rg_put (d := 3) (v := .d (.sl 8 (List.map ePsg l))) rfl (og rfl (op_move rfl rfl rfl)) ?_
  refine rg_nam (d := 4) (v := .ow 101) (m := 101) (nw := [(101, .tr 24 8 (tD ePsg (srt l)))]) rfl (og rfl (of_eff (op_callO 101 rfl Tryz.func21 nm21 rfl (.cons rfl (.d _) .nil) (sortO l hl hz) rfl) rfl)) rfl ?_
  refine rg_nam (d := 5) (v := .ow 102) (m := 102) (nw := [(102, .tr 24 8 (tD ePsg ((dd (srt l) (srt l).length)))), (101, .no)]) rfl (og rfl (of_eff (op_callT 102 rfl Tryz.func80 nm80 rfl rfl rfl rfl (.cons rfl (.d _) .nil) (cptT (srt l) (by rw [srt_len]; exact hl) (fun x hx => hz x ((srt_perm l).subset hx))) rfl) rfl)) rfl ?_
  refine rg_put (d := 2) (v := .ow 102) rfl (og rfl (op_assign rfl rfl rfl)) ?_
  refine rg_done rfl ?_
  refine a_imp (imp_leakT 2 102 rfl rfl) ?_
  refine a_ret ?_
  show ∃ ds, ResL _ _ _ ds ∧ RV.of ds = _
  refine ⟨[.sl 8 (List.map ePsg ((dd (srt l) (srt l).length)))], (.cons (.tmp rfl (.d _)) .nil), ?_⟩
  rfl
set_option maxHeartbeats 4000000 in
set_option maxRecDepth 100000 in
theorem bsC (l : List Psg) (x : Psg) (hl : l.length ≤ 1000) (hz : ∀ y ∈ l, y.src.length ≤ 30) (hx : x.src.length ≤ 30) (hs : l.Pairwise (fun x y => cp x y < 0)) : Ctr Tryz.prog 82 [.sl 8 (List.map ePsg l), .ag (ePsg x), .fn 48 []] (.tu [.fl (.int .i64 (ps l x)), .fl (.bool (hasB l x))]) := by
  refine ctr (n := 49) (rs := #[.tmp 6, .tmp 7]) (L := [(0, .d (.sl 8 (List.map ePsg l))), (1, .d (.ag (ePsg x))), (2, .d (.fn 48 []))]) Tryz.func82 rfl rfl rfl rfl rfl (fun w0 U0 => ?_)
  refine a_rseq ?_
  refine rg_nam (d := 4) (v := .pt 101 0) (m := 101) (nw := [(101, .bx 24 (ePsg x))]) rfl (og rfl (of_eff (op_box 101 rfl rfl rfl rfl) rfl)) rfl ?_
  refine rg_put (d := 6) (v := .d (.fl (.int .i64 0))) rfl (og rfl (op_assign rfl rfl rfl)) ?_
  refine rg_put (d := 7) (v := .d (.fl (.bool false))) rfl (og rfl (op_assign rfl rfl rfl)) ?_
  refine rg_done rfl ?_
  refine a_rseq ?_
  refine rg_put (d := 12) (v := .d (.sl 8 (List.map ePsg l))) rfl (og rfl (op_move rfl rfl rfl)) ?_
  refine rg_put (d := 13) (v := .d (.fl (.int .i64 (l.length : Int)))) rfl (og rfl (s_len rfl Tryz.underlying38 rfl rfl)) ?_
  refine rg_put (d := 8) (v := .d (.fl (.int .i64 (l.length : Int)))) rfl (og rfl (op_assign rfl rfl rfl)) ?_
  refine rg_done rfl ?_
  refine a_rseq ?_
  refine rg_put (d := 14) (v := .d (.fl (.int .i64 (l.length : Int)))) rfl (og rfl (op_move rfl rfl rfl)) ?_
  refine rg_put (d := 9) (v := .d (.fl (.int .i64 0))) rfl (og rfl (op_assign rfl rfl rfl)) ?_
  refine rg_put (d := 10) (v := .d (.fl (.int .i64 (l.length : Int)))) rfl (og rfl (op_assign rfl rfl rfl)) ?_
  refine rg_done rfl ?_
  refine a_seq ?_
  refine a_block ?_
  refine a_loop (ι := Nat × Nat) (fun p => SS [(0, .d (.sl 8 (List.map ePsg l))), (1, .d (.ag (ePsg x))), (2, .d (.fn 48 [])), (4, .pt 101 0), (6, .d (.fl (.int .i64 0))), (7, .d (.fl (.bool false))), (8, .d (.fl (.int .i64 (l.length : Int)))), (9, .d (.fl (.int .i64 (p.1 : Int)))), (10, .d (.fl (.int .i64 (p.2 : Int))))] [(101, .bx 24 (ePsg x))]) (fun p => p.1 ≤ p.2 ∧ p.2 ≤ l.length ∧ (∀ q, q < p.1 → cp (ix l q) x < 0) ∧ (∀ q, p.2 ≤ q → q < l.length → ¬ cp (ix l q) x < 0)) (fun p => p.2 - p.1) (0, l.length) (⟨Nat.zero_le _, Nat.le_refl _, fun q h => absurd h (Nat.not_lt_zero _), fun q h1 h2 => absurd h2 (Nat.not_lt.2 h1)⟩) (imp_forget rfl ⟨rfl, rfl, rfl, rfl, rfl, rfl, rfl, (by first | rfl | exact ci (by simp)), rfl, trivial⟩ ⟨rfl, trivial⟩) (fun p hok => ?_)
  obtain ⟨hij, hjl, hlt, hge⟩ := hok
  refine a_seq ?_
  refine a_rseq ?_
  refine rg_put (d := 15) (v := .d (.fl (.int .i64 (p.1 : Int)))) rfl (og rfl (op_move rfl rfl rfl)) ?_
  refine rg_put (d := 16) (v := .d (.fl (.int .i64 (p.2 : Int)))) rfl (og rfl (op_move rfl rfl rfl)) ?_
  refine rg_put (d := 17) (v := .d (.fl (.bool ((decide ((p.1 : Int) < (p.2 : Int))))))) rfl (og rfl (op_bin rfl rfl rfl (b_lss _ _ _ _) rfl)) ?_
  refine rg_done rfl ?_
  refine a_cond rfl (fun h1 => ?_) (fun h1 => ?_)
  · skip
    have h2 := t_dec h1
    refine a_skip ?_
    show A _ _ _ _ _ _ _
    refine a_block ?_
    refine a_rseq ?_
    refine rg_put (d := 18) (v := .d (.fl (.int .i64 (p.1 : Int)))) rfl (og rfl (op_move rfl rfl rfl)) ?_
    refine rg_put (d := 19) (v := .d (.fl (.int .i64 (p.2 : Int)))) rfl (og rfl (op_move rfl rfl rfl)) ?_
    refine rg_put (d := 20) (v := .d (.fl (.int .i64 (((p.1 : Int) + (p.2 : Int)))))) rfl (og rfl (op_bin rfl rfl rfl (fun x y w => b_add64 _ _ _ x y w (by omega)) rfl)) ?_
    refine rg_put (d := 21) (v := .d (.fl (.int .u64 ((IntKind.u64.wrap (((p.1 : Int) + (p.2 : Int)))))))) rfl (og rfl (op_convK rfl Tryz.underlying3 Tryz.underlying95 rfl rfl)) ?_
    rw [show (IntKind.u64.wrap (((p.1 : Int) + (p.2 : Int)))) = ((p.1 : Int) + (p.2 : Int)) from (u64_small (by omega))]
    refine rg_put (d := 22) (v := .d (.fl (.int .u64 (((((p.1 : Int) + (p.2 : Int))) / 2 ^ min ((1 : Int)).toNat IntKind.u64.bits))))) rfl (og rfl (op_bin rfl rfl rfl (fun x y w => b_shr _ _ _ _ _ x y w (by omega)) rfl)) ?_
    rw [show ((((p.1 : Int) + (p.2 : Int))) / 2 ^ min ((1 : Int)).toNat IntKind.u64.bits) = (((p.1 + p.2) / 2 : Nat) : Int) from ((half_eq _).trans (by omega))]
    refine rg_put (d := 23) (v := .d (.fl (.int .i64 ((((p.1 + p.2) / 2 : Nat) : Int))))) rfl (og rfl (op_conv rfl Tryz.underlying95 Tryz.underlying3 rfl (w64 (by omega)) rfl)) ?_
    refine rg_put (d := 11) (v := .d (.fl (.int .i64 ((((p.1 + p.2) / 2 : Nat) : Int))))) rfl (og rfl (op_assign rfl rfl rfl)) ?_
    refine rg_done rfl ?_
    refine a_dseq (by kernel_rfl) ?_
    refine dr_put (d := 24) (v := .d (.fn 48 [])) rfl (og rfl (op_move rfl rfl rfl)) ?_
    refine dr_put (d := 25) (v := .d (.sl 8 (List.map ePsg l))) rfl (og rfl (op_move rfl rfl rfl)) ?_
    refine dr_put (d := 26) (v := .d (.fl (.int .i64 ((((p.1 + p.2) / 2 : Nat) : Int))))) rfl (og rfl (op_move rfl rfl rfl)) ?_
    refine dr_put (d := 27) (v := .el ((ePsg ((ix l (((p.1 + p.2) / 2))))))) rfl (og rfl (s_index rfl Tryz.underlying38 ti24 rfl rfl (by omega) (row_at (by omega)) rfl)) ?_
    refine dr_put (d := 28) (v := .d (.ag (ePsg (((ix l (((p.1 + p.2) / 2)))))))) rfl (og rfl (of_eff (s_load_els rfl Tryz.underlying24 rfl ti24 rfl rfl rfl) rfl)) ?_
    refine dr_put (d := 29) (v := .d (.ag (ePsg x))) rfl (og rfl (of_eff (s_load_pts rfl Tryz.underlying24 rfl ti24 rfl rfl rfl rfl) rfl)) ?_
    refine dr_put (d := 30) (v := .d (.fl (.int .i64 ((cp (((ix l (((p.1 + p.2) / 2))))) x))))) rfl (og rfl (op_callV rfl rfl ⟨_, Tryz.func48, nm48, rfl⟩ (.cons rfl (.d _) (.cons rfl (.d _) .nil)) (cpC (((ix l (((p.1 + p.2) / 2))))) x (hz _ (ix_mem (by omega))) hx) rfl)) ?_
    refine dr_put (d := 31) (v := .d (.fl (.bool ((decide ((cp (((ix l (((p.1 + p.2) / 2))))) x) < 0)))))) rfl (og rfl (op_bin rfl rfl rfl (b_lss _ _ _ _) rfl)) ?_
    refine dr_done rfl (by kernel_rfl) (by kernel_rfl) ?_
    refine a_cond rfl (fun h3 => ?_) (fun h3 => ?_)
    · skip
      have h4 := t_dec h3
      refine a_region ?_
      refine rg_put (d := 32) (v := .d (.fl (.int .i64 ((((p.1 + p.2) / 2 : Nat) : Int))))) rfl (og rfl (op_move rfl rfl rfl)) ?_
      refine rg_put (d := 33) (v := .d (.fl (.int .i64 (((((p.1 + p.2) / 2 : Nat) : Int) + 1))))) rfl (og rfl (op_bin rfl rfl rfl (fun x y w => b_add64 _ _ _ x y w (by omega)) rfl)) ?_
      refine rg_put (d := 9) (v := .d (.fl (.int .i64 (((((p.1 + p.2) / 2 : Nat) : Int) + 1))))) rfl (og rfl (op_assign rfl rfl rfl)) ?_
      refine rg_done rfl ?_
      have hc : cp (ix l ((p.1 + p.2) / 2)) x < 0 := of_decide_eq_true h3
      show ∃ i, _ ∧ _ ∧ Imp _ _ _ _ _
      refine ⟨(((p.1 + p.2) / 2) + 1, p.2), ⟨by show ((p.1 + p.2) / 2) + 1 ≤ p.2; omega, hjl, fun q h => bs_lo hs (by omega) hc q (by have : q < ((p.1 + p.2) / 2) + 1 := h; omega), hge⟩, (by show _ - _ < p.2 - p.1; omega), imp_forget rfl ⟨rfl, rfl, rfl, rfl, rfl, rfl, rfl, (by first | rfl | exact ci (by show _ = _; omega)), (by first | rfl | exact ci (by show _ = _; omega)), trivial⟩ ⟨rfl, trivial⟩⟩
    · skip
      have h5 := f_dec h3
      refine a_region ?_
      refine rg_put (d := 34) (v := .d (.fl (.int .i64 ((((p.1 + p.2) / 2 : Nat) : Int))))) rfl (og rfl (op_move rfl rfl rfl)) ?_
      refine rg_put (d := 10) (v := .d (.fl (.int .i64 ((((p.1 + p.2) / 2 : Nat) : Int))))) rfl (og rfl (op_assign rfl rfl rfl)) ?_
      refine rg_done rfl ?_
      have hc : ¬ cp (ix l ((p.1 + p.2) / 2)) x < 0 := of_decide_eq_false h3
      show ∃ i, _ ∧ _ ∧ Imp _ _ _ _ _
      refine ⟨(p.1, ((p.1 + p.2) / 2)), ⟨by show p.1 ≤ ((p.1 + p.2) / 2); omega, by show ((p.1 + p.2) / 2) ≤ l.length; omega, hlt, fun q h1 h2 => bs_hi hs hc q h1 h2⟩, (by show _ - _ < p.2 - p.1; omega), imp_forget rfl ⟨rfl, rfl, rfl, rfl, rfl, rfl, rfl, (by first | rfl | exact ci (by show _ = _; omega)), (by first | rfl | exact ci (by show _ = _; omega)), trivial⟩ ⟨rfl, trivial⟩⟩
  · skip
    have h6 := f_dec h1
    refine a_exit ?_
    show A _ _ _ _ _ _ _
    refine a_dseq (by kernel_rfl) ?_
    refine dr_put (d := 35) (v := .d (.fl (.int .i64 (p.1 : Int)))) rfl (og rfl (op_move rfl rfl rfl)) ?_
    refine dr_put (d := 36) (v := .d (.fl (.int .i64 (p.1 : Int)))) rfl (og rfl (op_move rfl rfl rfl)) ?_
    refine dr_put (d := 37) (v := .d (.fl (.int .i64 (l.length : Int)))) rfl (og rfl (op_move rfl rfl rfl)) ?_
    refine dr_put (d := 38) (v := .d (.fl (.bool ((decide ((p.1 : Int) < (l.length : Int))))))) rfl (og rfl (op_bin rfl rfl rfl (b_lss _ _ _ _) rfl)) ?_
    refine dr_put (d := 39) (v := .d (.fl (.bool ((decide ((p.1 : Int) < (l.length : Int))))))) rfl (og rfl (op_move rfl rfl rfl)) ?_
    rcases fot ((decide ((p.1 : Int) < (l.length : Int)))) with h7 | h7
    · skip
      have h8 := f_dec h7
      refine dr_put (d := 40) (v := .d (.fl undef)) rfl (on rfl rfl rfl h7) ?_
      refine dr_put (d := 41) (v := .d (.fl undef)) rfl (on rfl rfl rfl h7) ?_
      refine dr_put (d := 42) (v := .d (.fl undef)) rfl (on rfl rfl rfl h7) ?_
      refine dr_put (d := 43) (v := .d (.fl undef)) rfl (on rfl rfl rfl h7) ?_
      refine dr_put (d := 44) (v := .d (.fl undef)) rfl (on rfl rfl rfl h7) ?_
      refine dr_put (d := 45) (v := .d (.fl undef)) rfl (on rfl rfl rfl h7) ?_
      refine dr_put (d := 46) (v := .d (.fl undef)) rfl (on rfl rfl rfl h7) ?_
      refine dr_put (d := 47) (v := .d (.fl undef)) rfl (on rfl rfl rfl h7) ?_
      refine dr_put (d := 48) (v := .d (.fl (.bool false))) rfl (og rfl (op_pick rfl rfl (by rw [h7]; rfl) rfl)) ?_
      refine dr_put (d := 6) (v := .d (.fl (.int .i64 (p.1 : Int)))) rfl (og rfl (op_assign rfl rfl rfl)) ?_
      refine dr_put (d := 7) (v := .d (.fl (.bool false))) rfl (og rfl (op_assign rfl rfl rfl)) ?_
      refine dr_done rfl (sepB_of [0, 0, 0, 6, 14, 30, 30, 30, 222, 478, 30, 2046, 4094, 8190, 4095, 32767] (by kernel_rfl)) (by kernel_rfl) ?_
      refine a_ret ?_
      show ∃ ds, ResL _ _ _ ds ∧ RV.of ds = _
      refine ⟨[.fl (.int .i64 (p.1 : Int)), .fl (.bool false)], (.cons (.tmp rfl (.d _)) (.cons (.tmp rfl (.d _)) .nil)), ?_⟩
      have he : p.1 = p.2 := by omega
      rw [ps_eq (i := p.1) (by omega) hlt (fun h => hge p.1 (by omega) h), ps_has hs (by omega) hlt (fun h => hge p.1 (by omega) h)]
      rw [show decide (p.1 < l.length) = false from decide_eq_false (by omega), Bool.false_and]; rfl
    · skip
      have h9 := t_dec h7
      refine dr_put (d := 40) (v := .d (.fn 48 [])) rfl (oy rfl rfl rfl h7 (op_move rfl rfl rfl)) ?_
      refine dr_put (d := 41) (v := .d (.sl 8 (List.map ePsg l))) rfl (oy rfl rfl rfl h7 (op_move rfl rfl rfl)) ?_
      refine dr_put (d := 42) (v := .d (.fl (.int .i64 (p.1 : Int)))) rfl (oy rfl rfl rfl h7 (op_move rfl rfl rfl)) ?_
      refine dr_put (d := 43) (v := .el ((ePsg (ix l p.1)))) rfl (oy rfl rfl rfl h7 (s_index rfl Tryz.underlying38 ti24 rfl rfl (by omega) (row_at (by omega)) rfl)) ?_
      refine dr_put (d := 44) (v := .d (.ag (ePsg (ix l p.1)))) rfl (oy rfl rfl rfl h7 (of_eff (s_load_els rfl Tryz.underlying24 rfl ti24 rfl rfl rfl) rfl)) ?_
      refine dr_put (d := 45) (v := .d (.ag (ePsg x))) rfl (oy rfl rfl rfl h7 (of_eff (s_load_pts rfl Tryz.underlying24 rfl ti24 rfl rfl rfl rfl) rfl)) ?_
      refine dr_put (d := 46) (v := .d (.fl (.int .i64 ((cp (ix l p.1) x))))) rfl (oy rfl rfl rfl h7 (op_callV rfl rfl ⟨_, Tryz.func48, nm48, rfl⟩ (.cons rfl (.d _) (.cons rfl (.d _) .nil)) (cpC (ix l p.1) x (hz _ (ix_mem (by omega))) hx) rfl)) ?_
      refine dr_put (d := 47) (v := .d (.fl (.bool (((cp (ix l p.1) x) == 0))))) rfl (oy rfl rfl rfl h7 (op_bin rfl rfl rfl (b_eql _ _ _ _) rfl)) ?_
      refine dr_put (d := 48) (v := .d (.fl (.bool (((cp (ix l p.1) x) == 0))))) rfl (og rfl (op_pick rfl rfl (by rw [h7]; rfl) rfl)) ?_
      refine dr_put (d := 6) (v := .d (.fl (.int .i64 (p.1 : Int)))) rfl (og rfl (op_assign rfl rfl rfl)) ?_
      refine dr_put (d := 7) (v := .d (.fl (.bool (((cp (ix l p.1) x) == 0))))) rfl (og rfl (op_assign rfl rfl rfl)) ?_
      refine dr_done rfl (sepB_of [0, 0, 0, 6, 14, 30, 30, 30, 222, 478, 30, 2046, 4094, 8190, 4095, 32767] (by kernel_rfl)) (by kernel_rfl) ?_
      refine a_ret ?_
      show ∃ ds, ResL _ _ _ ds ∧ RV.of ds = _
      refine ⟨[.fl (.int .i64 (p.1 : Int)), .fl (.bool (((cp (ix l p.1) x) == 0)))], (.cons (.tmp rfl (.d _)) (.cons (.tmp rfl (.d _)) .nil)), ?_⟩
      have he : p.1 = p.2 := by omega
      rw [ps_eq (i := p.1) (by omega) hlt (fun h => hge p.1 (by omega) h), ps_has hs (by omega) hlt (fun h => hge p.1 (by omega) h)]
      rw [show decide (p.1 < l.length) = true from decide_eq_true (by omega), Bool.true_and]; rfl
set_option maxHeartbeats 4000000 in
set_option maxRecDepth 100000 in
theorem woC (a b : List Psg) (hla : a.length ≤ 1000) (hlb : b.length ≤ 1000) (hza : ∀ y ∈ a, y.src.length ≤ 30) (hzb : ∀ y ∈ b, y.src.length ≤ 30) (hs : b.Pairwise (fun x y => cp x y < 0)) : Ctr Tryz.prog 50 [.sl 8 (List.map ePsg a), .sl 8 (List.map ePsg b)] (.d (.sl 8 (List.map ePsg (wo a b)))) := by
  refine ctr (n := 30) (rs := #[.tmp 4]) (L := [(0, .d (.sl 8 (List.map ePsg a))), (1, .d (.sl 8 (List.map ePsg b)))]) Tryz.func50 rfl rfl rfl rfl rfl (fun w0 U0 => ?_)
  refine a_rseq ?_
  refine rg_put (d := 4) (v := .d (.fl (.slice none 0 0))) rfl (og rfl (op_assign rfl rfl rfl)) ?_
  refine rg_done rfl ?_
  refine a_rseq ?_
  refine rg_put (d := 5) (v := .d (.fl (.slice none 0 0))) rfl (og rfl (op_assign rfl rfl rfl)) ?_
  refine rg_done rfl ?_
  refine a_seq ?_
  refine a_rseq ?_
  refine rg_imp (imp_nilT 5 101 24 8 rfl rfl) ?_
  refine rg_put (d := 10) (v := .d (.sl 8 (List.map ePsg a))) rfl (og rfl (op_move rfl rfl rfl)) ?_
  refine rg_put (d := 11) (v := .d (.fl (.int .i64 (a.length : Int)))) rfl (og rfl (s_len rfl Tryz.underlying38 rfl rfl)) ?_
  refine rg_put (d := 12) (v := .d (.fl (.int .i64 0))) rfl (og rfl (op_move rfl rfl rfl)) ?_
  refine rg_done rfl ?_
  refine a_block ?_
  refine a_loop (ι := Nat) (fun k => SS [(0, .d (.sl 8 (List.map ePsg a))), (1, .d (.sl 8 (List.map ePsg b))), (4, .d (.fl (.slice none 0 0))), (10, .d (.sl 8 (List.map ePsg a))), (11, .d (.fl (.int .i64 (a.length : Int)))), (12, .d (.fl (.int .i64 (k : Int)))), (5, .ow 101)] [(101, .tr 24 8 (tD ePsg (((a.take k).filter (fun x => !(hasB b x))))))]) (fun k => k ≤ a.length) (fun k => a.length - k) 0 (by omega) (imp_forget rfl ⟨rfl, rfl, rfl, rfl, rfl, (by first | rfl | exact ci (by omega) | exact ci (by simp) | exact cd (by simp) | simp), (by first | rfl | exact ci (by omega) | exact ci (by simp) | exact cd (by simp) | simp), trivial⟩ ⟨rfl, trivial⟩) (fun k hok => ?_)
  have hk := hok
  have hfl := fl_len a (fun x => !(hasB b x)) k
  refine a_rseq ?_
  refine rg_put (d := 13) (v := .d (.fl (.bool ((decide ((k : Int) < (a.length : Int))))))) rfl (og rfl (op_bin rfl rfl rfl (b_lss _ _ _ _) rfl)) ?_
  refine rg_done rfl ?_
  refine a_seq ?_
  refine a_cond rfl (fun h1 => ?_) (fun h1 => ?_)
  · skip
    have h2 := t_dec h1
    refine a_skip ?_
    show A _ _ _ _ _ _ _
    refine a_seq ?_
    refine a_block ?_
    refine a_rseq ?_
    refine rg_put (d := 14) (v := .el ((ePsg (ix a k)))) rfl (og rfl (s_index rfl Tryz.underlying38 ti24 rfl rfl (by omega) (row_at (by omega)) rfl)) ?_
    refine rg_put (d := 15) (v := .d (.ag (ePsg (ix a k)))) rfl (og rfl (of_eff (s_load_els rfl Tryz.underlying24 rfl ti24 rfl rfl rfl) rfl)) ?_
    refine rg_nam (d := 7) (v := .pt 102 0) (m := 102) (nw := [(102, .bx 24 ([.fl (.string (⟨#[]⟩)), .fl (.string (⟨#[]⟩)), .fl (.int .i64 0), .fl (.string (⟨#[]⟩)), .fl (.string (⟨#[]⟩)), .fl (.int .i64 0), .fl (.int .i64 0), .fl (.slice none 0 0)]))]) rfl (og rfl (of_eff (s_alloc 102 rfl ti24 (by kernel_rfl) rfl) rfl)) rfl ?_
    refine rg_sto (nw := [(102, .bx 24 ((ePsg (ix a k))))]) rfl (og rfl (of_eff (s_store rfl rfl ti24 rfl rfl rfl rfl rfl rfl) rfl)) ?_
    refine rg_done rfl ?_
    refine a_rseq ?_
    refine rg_put (d := 17) (v := .d (.sl 8 (List.map ePsg b))) rfl (og rfl (op_move rfl rfl rfl)) ?_
    refine rg_put (d := 18) (v := .d (.ag (ePsg (ix a k)))) rfl (og rfl (of_eff (s_load_pts rfl Tryz.underlying24 rfl ti24 rfl rfl rfl rfl) rfl)) ?_
    refine rg_put (d := 19) (v := .tu [.fl (.int .i64 ((ps b (ix a k) : Int))), .fl (.bool ((hasB b (ix a k))))]) rfl (og rfl (op_call rfl Tryz.func82 nm82 rfl (.cons rfl (.d _) (.cons rfl (.d _) (.cons rfl (.d _) .nil))) (bsC b (ix a k) hlb hzb (hza _ (ix_mem (by omega))) hs) rfl)) ?_
    refine rg_put (d := 16) (v := .tu [.fl (.int .i64 ((ps b (ix a k) : Int))), .fl (.bool ((hasB b (ix a k))))]) rfl (og rfl (op_move rfl rfl rfl)) ?_
    refine rg_put (d := 20) (v := .d (.fl (.int .i64 ((ps b (ix a k) : Int))))) rfl (og rfl (op_extract rfl rfl rfl rfl)) ?_
    refine rg_put (d := 21) (v := .d (.fl (.bool ((hasB b (ix a k)))))) rfl (og rfl (op_extract rfl rfl rfl rfl)) ?_
    refine rg_put (d := 8) (v := .d (.fl (.int .i64 ((ps b (ix a k) : Int))))) rfl (og rfl (op_assign rfl rfl rfl)) ?_
    refine rg_put (d := 9) (v := .d (.fl (.bool ((hasB b (ix a k)))))) rfl (og rfl (op_assign rfl rfl rfl)) ?_
    refine rg_done rfl ?_
    refine a_rseq ?_
    refine rg_put (d := 22) (v := .d (.fl (.bool ((hasB b (ix a k)))))) rfl (og rfl (op_move rfl rfl rfl)) ?_
    refine rg_put (d := 23) (v := .d (.fl (.bool ((!((hasB b (ix a k)))))))) rfl (og rfl (op_un rfl rfl (u_not _) rfl)) ?_
    refine rg_done rfl ?_
    refine a_cond rfl (fun h3 => ?_) (fun h3 => ?_)
    · skip
      have h4 := t_not h3
      refine a_region ?_
      refine rg_put (d := 24) (v := .ow 101) rfl (og rfl (op_move rfl rfl rfl)) ?_
      refine rg_put (d := 25) (v := .d (.ag (ePsg (ix a k)))) rfl (og rfl (of_eff (s_load_pts rfl Tryz.underlying24 rfl ti24 rfl rfl rfl rfl) rfl)) ?_
      refine rg_put (d := 26) (v := .d (.sl 8 (List.map ePsg [(ix a k)]))) rfl (og rfl (of_eff (op_slices rfl Tryz.underlying38 ti24 rfl rfl rfl (by kernel_rfl) (xs := [.ag (ePsg (ix a k))]) rfl rfl (.cons rfl rfl (.d _) rfl rfl rfl .nil) rfl) rfl)) ?_
      refine rg_nam (d := 27) (v := .ow 103) (m := 103) (nw := [(103, .tr 24 8 (tD ePsg ((((a.take k).filter (fun x => !(hasB b x))) ++ [(ix a k)])))), (101, .no)]) rfl (og rfl (of_eff (s_append_td 103 rfl Tryz.underlying38 ti24 rfl rfl rfl rfl rfl (.d _) (by simp only [List.length_append, List.length_cons, List.length_nil]; omega) rfl) rfl)) rfl ?_
      refine rg_put (d := 5) (v := .ow 103) rfl (og rfl (op_assign rfl rfl rfl)) ?_
      refine rg_done rfl ?_
      show A _ _ _ _ _ _ _
      refine a_region ?_
      refine rg_put (d := 28) (v := .d (.fl (.int .i64 (((k : Int) + 1))))) rfl (og rfl (op_bin rfl rfl rfl (fun x y w => b_add64 _ _ _ x y w (by omega)) rfl)) ?_
      refine rg_put (d := 12) (v := .d (.fl (.int .i64 (((k : Int) + 1))))) rfl (og rfl (op_move rfl rfl rfl)) ?_
      refine rg_done rfl ?_
      have hst : (((a.take k).filter (fun x => !(hasB b x))) ++ [(ix a k)]) = (a.take (k + 1)).filter (fun x => !(hasB b x)) := fl_yes (by omega) (by rw [h4]; rfl)
      show ∃ i, _ ∧ _ ∧ Imp _ _ _ _ _
      refine ⟨k + 1, (by omega), by omega, imp_ren (fun m => bif Nat.beq m 101 then 103 else m) rfl ⟨rfl, rfl, rfl, rfl, rfl, (by first | rfl | exact ci (by omega) | exact ci (by simp) | exact cd (by simp) | simp), rfl, trivial⟩ ⟨(congrArg (fun z => Ob.tr 24 8 (tD ePsg z)) hst), trivial⟩⟩
    · skip
      have h5 := f_not h3
      refine a_skip ?_
      show A _ _ _ _ _ _ _
      refine a_region ?_
      refine rg_put (d := 28) (v := .d (.fl (.int .i64 (((k : Int) + 1))))) rfl (og rfl (op_bin rfl rfl rfl (fun x y w => b_add64 _ _ _ x y w (by omega)) rfl)) ?_
      refine rg_put (d := 12) (v := .d (.fl (.int .i64 (((k : Int) + 1))))) rfl (og rfl (op_move rfl rfl rfl)) ?_
      refine rg_done rfl ?_
      have hst : ((a.take k).filter (fun x => !(hasB b x))) = (a.take (k + 1)).filter (fun x => !(hasB b x)) := fl_no (by omega) (by rw [h5]; rfl)
      show ∃ i, _ ∧ _ ∧ Imp _ _ _ _ _
      refine ⟨k + 1, (by omega), by omega, imp_forget rfl ⟨rfl, rfl, rfl, rfl, rfl, (by first | rfl | exact ci (by omega) | exact ci (by simp) | exact cd (by simp) | simp), rfl, trivial⟩ ⟨(congrArg (fun z => Ob.tr 24 8 (tD ePsg z)) hst), trivial⟩⟩
  · skip
    have h6 := f_dec h1
    refine a_exit ?_
    show A _ _ _ _ _ _ _
    refine a_rseq ?_
    rw [show ((a.take k).filter (fun x => !(hasB b x))) = (wo a b) from (by rw [List.take_of_length_le (by omega)]; rfl)]
    refine rg_put (d := 29) (v := .ow 101) rfl (og rfl (op_move rfl rfl rfl)) ?_
    refine rg_put (d := 4) (v := .ow 101) rfl (og rfl (op_assign rfl rfl rfl)) ?_
    refine rg_done rfl ?_
    refine a_imp (imp_leakT 4 101 rfl rfl) ?_
    refine a_ret ?_
    show ∃ ds, ResL _ _ _ ds ∧ RV.of ds = _
    refine ⟨[.sl 8 (List.map ePsg (wo a b))], (.cons (.tmp rfl (.d _)) .nil), ?_⟩
    rfl
set_option maxHeartbeats 4000000 in
set_option maxRecDepth 100000 in
theorem difC (a b : List Psg) (hla : a.length ≤ 1000) (hlb : b.length ≤ 1000) (hza : ∀ y ∈ a, y.src.length ≤ 30) (hzb : ∀ y ∈ b, y.src.length ≤ 30) : Ctr Tryz.prog 23 [.sl 8 (List.map ePsg a), .sl 8 (List.map ePsg b)] (.tu [.sl 8 (List.map ePsg (wo (dfl a) (dfl b))), .sl 8 (List.map ePsg (wo (dfl b) (dfl a)))]) := by
  refine ctr (n := 16) (rs := #[.tmp 4, .tmp 5]) (L := [(0, .d (.sl 8 (List.map ePsg a))), (1, .d (.sl 8 (List.map ePsg b)))]) Tryz.func23 rfl rfl rfl rfl rfl (fun w0 U0 => ?_)
  refine a_rseq ?_
  refine rg_put (d := 4) (v := .d (.fl (.slice none 0 0))) rfl (og rfl (op_assign rfl rfl rfl)) ?_
  refine rg_put (d := 5) (v := .d (.fl (.slice none 0 0))) rfl (og rfl (op_assign rfl rfl rfl)) ?_
  refine rg_done rfl ?_
  refine a_rseq ?_
  refine rg_put (d := 6) (v := .d (.sl 8 (List.map ePsg a))) rfl (og rfl (op_move rfl rfl rfl)) ?_
  refine rg_put (d := 7) (v := .d (.sl 8 (List.map ePsg (dfl a)))) rfl (og rfl (op_call rfl Tryz.func49 nm49 rfl (.cons rfl (.d _) .nil) (dflC a hla hza) rfl)) ?_
  refine rg_put (d := 8) (v := .d (.sl 8 (List.map ePsg b))) rfl (og rfl (op_move rfl rfl rfl)) ?_
  refine rg_put (d := 9) (v := .d (.sl 8 (List.map ePsg (dfl b)))) rfl (og rfl (op_call rfl Tryz.func49 nm49 rfl (.cons rfl (.d _) .nil) (dflC b hlb hzb) rfl)) ?_
  refine rg_put (d := 0) (v := .d (.sl 8 (List.map ePsg (dfl a)))) rfl (og rfl (op_assign rfl rfl rfl)) ?_
  refine rg_put (d := 1) (v := .d (.sl 8 (List.map ePsg (dfl b)))) rfl (og rfl (op_assign rfl rfl rfl)) ?_
  refine rg_done rfl ?_
  refine a_rseq ?_
  refine rg_put (d := 10) (v := .d (.sl 8 (List.map ePsg (dfl a)))) rfl (og rfl (op_move rfl rfl rfl)) ?_
  refine rg_put (d := 11) (v := .d (.sl 8 (List.map ePsg (dfl b)))) rfl (og rfl (op_move rfl rfl rfl)) ?_
  refine rg_put (d := 12) (v := .d (.sl 8 (List.map ePsg ((wo (dfl a) (dfl b)))))) rfl (og rfl (op_call rfl Tryz.func50 nm50 rfl (.cons rfl (.d _) (.cons rfl (.d _) .nil)) (woC (dfl a) (dfl b) (Nat.le_trans (dfl_len a) hla) (Nat.le_trans (dfl_len b) hlb) (fun y hy => hza y (dfl_mem.1 hy)) (fun y hy => hzb y (dfl_mem.1 hy)) (dfl_asc b)) rfl)) ?_
  refine rg_put (d := 13) (v := .d (.sl 8 (List.map ePsg (dfl b)))) rfl (og rfl (op_move rfl rfl rfl)) ?_
  refine rg_put (d := 14) (v := .d (.sl 8 (List.map ePsg (dfl a)))) rfl (og rfl (op_move rfl rfl rfl)) ?_
  refine rg_put (d := 15) (v := .d (.sl 8 (List.map ePsg ((wo (dfl b) (dfl a)))))) rfl (og rfl (op_call rfl Tryz.func50 nm50 rfl (.cons rfl (.d _) (.cons rfl (.d _) .nil)) (woC (dfl b) (dfl a) (Nat.le_trans (dfl_len b) hlb) (Nat.le_trans (dfl_len a) hla) (fun y hy => hzb y (dfl_mem.1 hy)) (fun y hy => hza y (dfl_mem.1 hy)) (dfl_asc a)) rfl)) ?_
  refine rg_put (d := 4) (v := .d (.sl 8 (List.map ePsg ((wo (dfl a) (dfl b)))))) rfl (og rfl (op_assign rfl rfl rfl)) ?_
  refine rg_put (d := 5) (v := .d (.sl 8 (List.map ePsg ((wo (dfl b) (dfl a)))))) rfl (og rfl (op_assign rfl rfl rfl)) ?_
  refine rg_done rfl ?_
  refine a_ret ?_
  show ∃ ds, ResL _ _ _ ds ∧ RV.of ds = _
  refine ⟨[.sl 8 (List.map ePsg ((wo (dfl a) (dfl b)))), .sl 8 (List.map ePsg ((wo (dfl b) (dfl a))))], (.cons (.tmp rfl (.d _)) (.cons (.tmp rfl (.d _)) .nil)), ?_⟩
  rfl
set_option maxHeartbeats 4000000 in
set_option maxRecDepth 100000 in
theorem restC (a b : List Psg) (hla : a.length ≤ 1000) (hlb : b.length ≤ 1000) (hza : ∀ y ∈ a, szP y) (hzb : ∀ y ∈ b, szP y) : Ctr Tryz.prog 51 [.sl 8 (List.map ePsg a), .sl 8 (List.map ePsg b)] (.d (.sl 8 (List.map ePsg (wo (dfl a) (dfl b))))) := by
  refine ctr (n := 38) (rs := #[.tmp 4]) (L := [(0, .d (.sl 8 (List.map ePsg a))), (1, .d (.sl 8 (List.map ePsg b)))]) Tryz.func51 rfl rfl rfl rfl rfl (fun w0 U0 => ?_)
  refine a_rseq ?_
  refine rg_put (d := 4) (v := .d (.fl (.slice none 0 0))) rfl (og rfl (op_assign rfl rfl rfl)) ?_
  refine rg_done rfl ?_
  refine a_rseq ?_
  refine rg_put (d := 5) (v := .d (.fl (.slice none 0 0))) rfl (og rfl (op_assign rfl rfl rfl)) ?_
  refine rg_done rfl ?_
  refine a_seq ?_
  refine a_rseq ?_
  refine rg_put (d := 6) (v := .d (.fl (.int .i64 0))) rfl (og rfl (op_assign rfl rfl rfl)) ?_
  refine rg_done rfl ?_
  refine a_block ?_
  refine a_loop (ι := Nat) (fun k => SS [(0, .d (.sl 8 (List.map ePsg a))), (1, .d (.sl 8 (List.map ePsg b))), (4, .d (.fl (.slice none 0 0))), (6, .d (.fl (.int .i64 (k : Int)))), (5, .ow 50)] [(50, .ow 24 8 (List.map ePsg (rs a b k)))]) (fun k => k ≤ a.length) (fun k => a.length - k) 0 (by omega) (Imp.trans (imp_nil 5 50 24 8 rfl rfl) (imp_forget rfl ⟨rfl, rfl, rfl, (by first | rfl | exact ci (by omega) | exact ci (by simp) | exact cd (by simp) | simp), (by first | rfl | exact ci (by omega) | exact ci (by simp) | exact cd (by simp) | simp), trivial⟩ ⟨rfl, trivial⟩)) (fun k hok => ?_)
  have hk := hok
  have hrl := rs_len a b k
  refine a_seq ?_
  refine a_rseq ?_
  refine rg_put (d := 7) (v := .d (.fl (.int .i64 (k : Int)))) rfl (og rfl (op_move rfl rfl rfl)) ?_
  refine rg_put (d := 8) (v := .d (.sl 8 (List.map ePsg a))) rfl (og rfl (op_move rfl rfl rfl)) ?_
  refine rg_put (d := 9) (v := .d (.fl (.int .i64 (a.length : Int)))) rfl (og rfl (s_len rfl Tryz.underlying38 rfl rfl)) ?_
  refine rg_put (d := 10) (v := .d (.fl (.bool ((decide ((k : Int) < (a.length : Int))))))) rfl (og rfl (op_bin rfl rfl rfl (b_lss _ _ _ _) rfl)) ?_
  refine rg_done rfl ?_
  refine a_cond rfl (fun h1 => ?_) (fun h1 => ?_)
  · skip
    have h2 := t_dec h1
    refine a_skip ?_
    show A _ _ _ _ _ _ _
    refine a_seq ?_
    refine a_block ?_
    refine a_rseq ?_
    refine rg_put (d := 13) (v := .d (.sl 8 (List.map ePsg b))) rfl (og rfl (op_move rfl rfl rfl)) ?_
    refine rg_put (d := 14) (v := .d (.sl 8 (List.map ePsg a))) rfl (og rfl (op_move rfl rfl rfl)) ?_
    refine rg_put (d := 15) (v := .d (.fl (.int .i64 (k : Int)))) rfl (og rfl (op_move rfl rfl rfl)) ?_
    refine rg_put (d := 16) (v := .el ((ePsg (ix a k)))) rfl (og rfl (s_index rfl Tryz.underlying38 ti24 rfl rfl (by omega) (row_at (by omega)) rfl)) ?_
    refine rg_put (d := 17) (v := .d (.ag (ePsg (ix a k)))) rfl (og rfl (of_eff (s_load_els rfl Tryz.underlying24 rfl ti24 rfl rfl rfl) rfl)) ?_
    refine rg_put (d := 18) (v := .d (.fl (.bool ((hasB b (ix a k)))))) rfl (og rfl (op_call rfl Tryz.func33 nm33 rfl (.cons rfl (.d _) (.cons rfl (.d _) .nil)) (hasC b (ix a k) (by omega) hzb (hza _ (ix_mem (by omega)))) rfl)) ?_
    refine rg_put (d := 19) (v := .d (.fl (.bool ((!((hasB b (ix a k)))))))) rfl (og rfl (op_un rfl rfl (u_not _) rfl)) ?_
    refine rg_put (d := 20) (v := .d (.fl (.bool ((!((hasB b (ix a k)))))))) rfl (og rfl (op_move rfl rfl rfl)) ?_
    rcases fot ((!((hasB b (ix a k))))) with h3 | h3
    · skip
      have h4 := f_not h3
      refine rg_put (d := 21) (v := .d (.fl undef)) rfl (on rfl rfl rfl h3) ?_
      refine rg_put (d := 22) (v := .d (.fl undef)) rfl (on rfl rfl rfl h3) ?_
      refine rg_put (d := 23) (v := .d (.fl undef)) rfl (on rfl rfl rfl h3) ?_
      refine rg_put (d := 24) (v := .d (.fl undef)) rfl (on rfl rfl rfl h3) ?_
      refine rg_put (d := 25) (v := .d (.fl undef)) rfl (on rfl rfl rfl h3) ?_
      refine rg_put (d := 26) (v := .d (.fl undef)) rfl (on rfl rfl rfl h3) ?_
      refine rg_put (d := 27) (v := .d (.fl undef)) rfl (on rfl rfl rfl h3) ?_
      refine rg_put (d := 28) (v := .d (.fl (.bool false))) rfl (og rfl (op_pick rfl rfl (by rw [h3]; rfl) rfl)) ?_
      refine rg_done rfl ?_
      refine a_condF rfl rfl ?_
      refine a_skip ?_
      show A _ _ _ _ _ _ _
      refine a_region ?_
      refine rg_put (d := 11) (v := .d (.fl (.int .i64 (k : Int)))) rfl (og rfl (op_move rfl rfl rfl)) ?_
      refine rg_put (d := 12) (v := .d (.fl (.int .i64 (((k : Int) + 1))))) rfl (og rfl (op_bin rfl rfl rfl (fun x y w => b_add64 _ _ _ x y w (by omega)) rfl)) ?_
      refine rg_put (d := 6) (v := .d (.fl (.int .i64 (((k : Int) + 1))))) rfl (og rfl (op_assign rfl rfl rfl)) ?_
      refine rg_done rfl ?_
      have hst : (rs a b k) = rs a b (k + 1) := (rs_no1 h4).symm
      show ∃ i, _ ∧ _ ∧ Imp _ _ _ _ _
      refine ⟨k + 1, (by omega), by omega, imp_forget rfl ⟨rfl, rfl, rfl, (by first | rfl | exact ci (by omega) | exact ci (by simp) | exact cd (by simp) | simp), rfl, trivial⟩ ⟨(congrArg (fun z => Ob.ow 24 8 (List.map ePsg z)) hst), trivial⟩⟩
    · skip
      have h5 := t_not h3
      refine rg_put (d := 21) (v := .ow 50) rfl (oy rfl rfl rfl h3 (op_move rfl rfl rfl)) ?_
      refine rg_put (d := 22) (v := .d (.sl 8 (List.map ePsg a))) rfl (oy rfl rfl rfl h3 (op_move rfl rfl rfl)) ?_
      refine rg_put (d := 23) (v := .d (.fl (.int .i64 (k : Int)))) rfl (oy rfl rfl rfl h3 (op_move rfl rfl rfl)) ?_
      refine rg_put (d := 24) (v := .el ((ePsg (ix a k)))) rfl (oy rfl rfl rfl h3 (s_index rfl Tryz.underlying38 ti24 rfl rfl (by omega) (row_at (by omega)) rfl)) ?_
      refine rg_put (d := 25) (v := .d (.ag (ePsg (ix a k)))) rfl (oy rfl rfl rfl h3 (of_eff (s_load_els rfl Tryz.underlying24 rfl ti24 rfl rfl rfl) rfl)) ?_
      refine rg_put (d := 26) (v := .d (.fl (.bool ((hasB (rs a b k) (ix a k)))))) rfl (oy rfl rfl rfl h3 (op_call rfl Tryz.func33 nm33 rfl (.cons rfl (.ow rfl) (.cons rfl (.d _) .nil)) (hasC (rs a b k) (ix a k) (by omega) (fun y hy => hza y (List.mem_of_mem_take ((rs_mem k (by omega)).1 hy).1)) (hza _ (ix_mem (by omega)))) rfl)) ?_
      refine rg_put (d := 27) (v := .d (.fl (.bool ((!((hasB (rs a b k) (ix a k)))))))) rfl (oy rfl rfl rfl h3 (op_un rfl rfl (u_not _) rfl)) ?_
      refine rg_put (d := 28) (v := .d (.fl (.bool ((!((hasB (rs a b k) (ix a k)))))))) rfl (og rfl (op_pick rfl rfl (by rw [h3]; rfl) rfl)) ?_
      refine rg_done rfl ?_
      refine a_cond rfl (fun h6 => ?_) (fun h6 => ?_)
      · skip
        have h7 := t_not h6
        refine a_region ?_
        refine rg_put (d := 29) (v := .ow 50) rfl (og rfl (op_move rfl rfl rfl)) ?_
        refine rg_put (d := 30) (v := .d (.sl 8 (List.map ePsg a))) rfl (og rfl (op_move rfl rfl rfl)) ?_
        refine rg_put (d := 31) (v := .d (.fl (.int .i64 (k : Int)))) rfl (og rfl (op_move rfl rfl rfl)) ?_
        refine rg_put (d := 32) (v := .el ((ePsg (ix a k)))) rfl (og rfl (s_index rfl Tryz.underlying38 ti24 rfl rfl (by omega) (row_at (by omega)) rfl)) ?_
        refine rg_put (d := 33) (v := .d (.ag (ePsg (ix a k)))) rfl (og rfl (of_eff (s_load_els rfl Tryz.underlying24 rfl ti24 rfl rfl rfl) rfl)) ?_
        refine rg_put (d := 34) (v := .d (.sl 8 (List.map ePsg [(ix a k)]))) rfl (og rfl (of_eff (op_slices rfl Tryz.underlying38 ti24 rfl rfl rfl (by kernel_rfl) (xs := [.ag (ePsg (ix a k))]) rfl rfl (.cons rfl rfl (.d _) rfl rfl rfl .nil) rfl) rfl)) ?_
        refine rg_nam (d := 35) (v := .ow 101) (m := 101) (nw := [(101, .ow 24 8 (List.map ePsg (((rs a b k) ++ [(ix a k)])))), (50, .no)]) rfl (og rfl (s_append 101 rfl Tryz.underlying38 ti24 rfl rfl rfl rfl rfl (.d _) (by simp only [List.length_append, List.length_cons, List.length_nil]; omega) rfl)) rfl ?_
        refine rg_put (d := 5) (v := .ow 101) rfl (og rfl (op_assign rfl rfl rfl)) ?_
        refine rg_done rfl ?_
        show A _ _ _ _ _ _ _
        refine a_region ?_
        refine rg_put (d := 11) (v := .d (.fl (.int .i64 (k : Int)))) rfl (og rfl (op_move rfl rfl rfl)) ?_
        refine rg_put (d := 12) (v := .d (.fl (.int .i64 (((k : Int) + 1))))) rfl (og rfl (op_bin rfl rfl rfl (fun x y w => b_add64 _ _ _ x y w (by omega)) rfl)) ?_
        refine rg_put (d := 6) (v := .d (.fl (.int .i64 (((k : Int) + 1))))) rfl (og rfl (op_assign rfl rfl rfl)) ?_
        refine rg_done rfl ?_
        have hst : ((rs a b k) ++ [(ix a k)]) = rs a b (k + 1) := (rs_yes h5 h7).symm
        show ∃ i, _ ∧ _ ∧ Imp _ _ _ _ _
        refine ⟨k + 1, (by omega), by omega, imp_ren (fun m => bif Nat.beq m 50 then 101 else m) rfl ⟨rfl, rfl, rfl, (by first | rfl | exact ci (by omega) | exact ci (by simp) | exact cd (by simp) | simp), rfl, trivial⟩ ⟨(congrArg (fun z => Ob.ow 24 8 (List.map ePsg z)) hst), trivial⟩⟩
      · skip
        have h8 := f_not h6
        refine a_skip ?_
        show A _ _ _ _ _ _ _
        refine a_region ?_
        refine rg_put (d := 11) (v := .d (.fl (.int .i64 (k : Int)))) rfl (og rfl (op_move rfl rfl rfl)) ?_
        refine rg_put (d := 12) (v := .d (.fl (.int .i64 (((k : Int) + 1))))) rfl (og rfl (op_bin rfl rfl rfl (fun x y w => b_add64 _ _ _ x y w (by omega)) rfl)) ?_
        refine rg_put (d := 6) (v := .d (.fl (.int .i64 (((k : Int) + 1))))) rfl (og rfl (op_assign rfl rfl rfl)) ?_
        refine rg_done rfl ?_
        have hst : (rs a b k) = rs a b (k + 1) := (rs_no2 h8).symm
        show ∃ i, _ ∧ _ ∧ Imp _ _ _ _ _
        refine ⟨k + 1, (by omega), by omega, imp_forget rfl ⟨rfl, rfl, rfl, (by first | rfl | exact ci (by omega) | exact ci (by simp) | exact cd (by simp) | simp), rfl, trivial⟩ ⟨(congrArg (fun z => Ob.ow 24 8 (List.map ePsg z)) hst), trivial⟩⟩
  · skip
    have h9 := f_dec h1
    refine a_exit ?_
    show A _ _ _ _ _ _ _
    refine a_rseq ?_
    have hkl : k = a.length := by omega
    rw [show (rs a b k) = (rs a b a.length) from (by rw [hkl])]
    have hra := rs_len a b a.length
    refine rg_put (d := 36) (v := .ow 50) rfl (og rfl (op_move rfl rfl rfl)) ?_
    refine rg_put (d := 37) (v := .d (.sl 8 (List.map ePsg ((srt (rs a b a.length)))))) rfl (og rfl (op_call rfl Tryz.func22 nm22 rfl (.cons rfl (.ow rfl) .nil) (sortR (rs a b a.length) (by omega) (fun y hy => hza y (List.mem_of_mem_take ((rs_mem _ (Nat.le_refl _)).1 hy).1))) rfl)) ?_
    refine rg_put (d := 4) (v := .d (.sl 8 (List.map ePsg ((srt (rs a b a.length)))))) rfl (og rfl (op_assign rfl rfl rfl)) ?_
    refine rg_done rfl ?_
    refine a_ret ?_
    show ∃ ds, ResL _ _ _ ds ∧ RV.of ds = _
    refine ⟨[.sl 8 (List.map ePsg ((srt (rs a b a.length))))], (.cons (.tmp rfl (.d _)) .nil), ?_⟩
    rw [← rs_wo]; rfl
set_option maxHeartbeats 4000000 in
set_option maxRecDepth 100000 in
theorem difR (a b : List Psg) (hla : a.length ≤ 1000) (hlb : b.length ≤ 1000) (hza : ∀ y ∈ a, szP y) (hzb : ∀ y ∈ b, szP y) : Ctr Tryz.prog 24 [.sl 8 (List.map ePsg a), .sl 8 (List.map ePsg b)] (.tu [.sl 8 (List.map ePsg (wo (dfl a) (dfl b))), .sl 8 (List.map ePsg (wo (dfl b) (dfl a)))]) := by
  refine ctr (n := 12) (rs := #[.tmp 4, .tmp 5]) (L := [(0, .d (.sl 8 (List.map ePsg a))), (1, .d (.sl 8 (List.map ePsg b)))]) Tryz.func24 rfl rfl rfl rfl rfl (fun w0 U0 => ?_)
  refine a_rseq ?_
  refine rg_put (d := 4) (v := .d (.fl (.slice none 0 0))) rfl (og rfl (op_assign rfl rfl rfl)) ?_
  refine rg_put (d := 5) (v := .d (.fl (.slice none 0 0))) rfl (og rfl (op_assign rfl rfl rfl)) ?_
  refine rg_done rfl ?_
  refine a_rseq ?_
  refine rg_put (d := 6) (v := .d (.sl 8 (List.map ePsg a))) rfl (og rfl (op_move rfl rfl rfl)) ?_
  refine rg_put (d := 7) (v := .d (.sl 8 (List.map ePsg b))) rfl (og rfl (op_move rfl rfl rfl)) ?_
  refine rg_put (d := 8) (v := .d (.sl 8 (List.map ePsg ((wo (dfl a) (dfl b)))))) rfl (og rfl (op_call rfl Tryz.func51 nm51 rfl (.cons rfl (.d _) (.cons rfl (.d _) .nil)) (restC a b hla hlb hza hzb) rfl)) ?_
  refine rg_put (d := 9) (v := .d (.sl 8 (List.map ePsg b))) rfl (og rfl (op_move rfl rfl rfl)) ?_
  refine rg_put (d := 10) (v := .d (.sl 8 (List.map ePsg a))) rfl (og rfl (op_move rfl rfl rfl)) ?_
  refine rg_put (d := 11) (v := .d (.sl 8 (List.map ePsg ((wo (dfl b) (dfl a)))))) rfl (og rfl (op_call rfl Tryz.func51 nm51 rfl (.cons rfl (.d _) (.cons rfl (.d _) .nil)) (restC b a hlb hla hzb hza) rfl)) ?_
  refine rg_put (d := 4) (v := .d (.sl 8 (List.map ePsg ((wo (dfl a) (dfl b)))))) rfl (og rfl (op_assign rfl rfl rfl)) ?_
  refine rg_put (d := 5) (v := .d (.sl 8 (List.map ePsg ((wo (dfl b) (dfl a)))))) rfl (og rfl (op_assign rfl rfl rfl)) ?_
  refine rg_done rfl ?_
  refine a_ret ?_
  show ∃ ds, ResL _ _ _ ds ∧ RV.of ds = _
  refine ⟨[.sl 8 (List.map ePsg ((wo (dfl a) (dfl b)))), .sl 8 (List.map ePsg ((wo (dfl b) (dfl a))))], (.cons (.tmp rfl (.d _)) (.cons (.tmp rfl (.d _)) .nil)), ?_⟩
  rfl
end Go.Proofs.YtakmjlpciicaiaaGreatDoor.Wk
