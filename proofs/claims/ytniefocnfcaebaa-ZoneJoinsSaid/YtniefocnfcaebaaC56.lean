/- The laws of the times of an interval. No condition. -/
import Derived.Test.YtniefocnfcaebaaAl
import Derived.Test.YtniefocnfcaebaaGr
import Derived.Test.YtniefocnfcaebaaB7
set_option linter.unusedSimpArgs false
set_option linter.unusedVariables false
namespace Go.Proofs.Ytniefocnfcaebaa.Wk
open Go Go.RowKit Go.Proofs.Ytniefocnfcaebaa.Av
def wtn (l : List Ivl) (t : Int) : Bool := l.any fun s => decide (s.fr ≤ t) && decide (t < s.to)
theorem wtn_mem {l : List Ivl} {t : Int} : wtn l t = true ↔ Mem l t := by
  unfold wtn Mem
  rw [List.any_eq_true]
  simp only [Bool.and_eq_true, decide_eq_true_eq]
theorem wtn_t {l : List Ivl} {t : Int} {k : Nat} (hk : k < l.length) (h1 : decide ((ix l k).fr ≤ t) = true) (h2 : decide (t < (ix l k).to) = true) : wtn l t = true := wtn_mem.2 ⟨_, ix_mem hk, of_decide_eq_true h1, of_decide_eq_true h2⟩
theorem wtn_n (l : List Ivl) (t : Int) : wtn (l.take 0) t = false := rfl
theorem wtn_s {l : List Ivl} {t : Int} {k : Nat} (hk : k < l.length) (h0 : wtn (l.take k) t = false) (h : (decide ((ix l k).fr ≤ t) && decide (t < (ix l k).to)) = false) : wtn (l.take (k + 1)) t = false := by
  rw [take_ix hk]
  unfold wtn at *
  rw [List.any_append, h0]
  simp only [List.any_cons, List.any_nil, Bool.or_false, Bool.false_or]
  exact h
def tot (l : List Ivl) : Int := (l.map fun s => s.to - s.fr).sum
theorem tot_app (a b : List Ivl) : tot (a ++ b) = tot a + tot b := by unfold tot; rw [List.map_append, List.sum_append]
theorem tot_cons (s : Ivl) (b : List Ivl) : tot (s :: b) = (s.to - s.fr) + tot b := by unfold tot; rw [List.map_cons, List.sum_cons]
theorem tot_one (s : Ivl) : tot [s] = s.to - s.fr := by rw [tot_cons]; show _ + 0 = _; omega
theorem tot_k {l : List Ivl} {k : Nat} (hk : k < l.length) : tot (l.take (k + 1)) = tot (l.take k) + ((ix l k).to - (ix l k).fr) := by rw [take_ix hk, tot_app, tot_one]
theorem tot_le : ∀ {M : List Ivl} {lo hi : Int}, NF M → (∀ s ∈ M, lo ≤ s.fr ∧ s.to ≤ hi) → lo ≤ hi → 0 ≤ tot M ∧ tot M ≤ hi - lo
  | [], lo, hi, _, _, h => ⟨Int.le_refl _, by show (0 : Int) ≤ _; omega⟩
  | s :: M, lo, hi, h, h2, _ => by
    have hs := h2 s (by simp)
    have hv := h.v s (by simp)
    have := tot_le (lo := s.to) (hi := hi) h.tail (fun x hx => ⟨by have := (List.pairwise_cons.1 h.p).1 x hx; omega, (h2 x (List.mem_cons_of_mem _ hx)).2⟩) (by omega)
    rw [tot_cons]; omega
theorem NF.take {M : List Ivl} (h : NF M) (k : Nat) : NF (M.take k) := ⟨fun s hs => h.v s (List.mem_of_mem_take hs), h.p.sublist (List.take_sublist _ _)⟩
theorem tot_take {M : List Ivl} {lo hi : Int} (h : NF M) (h2 : ∀ s ∈ M, lo ≤ s.fr ∧ s.to ≤ hi) (h3 : lo ≤ hi) (k : Nat) : 0 ≤ tot (M.take k) ∧ tot (M.take k) ≤ hi - lo := tot_le (h.take k) (fun s hs => h2 s (List.mem_of_mem_take hs)) h3
theorem tot_extJ (M : List Ivl) (x : Ivl) : tot (extJ M x) = tot M + (x.to - x.fr) := by
  rcases List.eq_nil_or_concat M with rfl | ⟨A, s, rfl⟩
  · have : extJ [] x = [x] := rfl
    rw [this, tot_one]; show _ = 0 + _; omega
  · rw [List.concat_eq_append]
    unfold extJ
    rw [ix_last, set_last]
    by_cases hc : s.to = x.fr
    · rw [if_pos ⟨by simp, hc⟩, tot_app, tot_app, tot_one, tot_one]
      show tot A + (x.to - s.fr) = _
      omega
    · rw [if_neg (fun h => hc h.2), tot_app (A ++ [s]), tot_one]
theorem join_tot {a b c : List Ivl} (ha : NF a) (hb : NF b) (hc : NF c) (hab : ∀ s ∈ a, ∀ r ∈ b, s.to ≤ r.fr) (hm : ∀ t, Mem c t ↔ Mem a t ∨ Mem b t) : tot c = tot a + tot b := by
  cases b with
  | nil =>
    have : c = a := nf_uniq hc ha (fun t => by rw [hm]; exact ⟨fun h => h.elim id (fun h => absurd h Mem.nil), .inl⟩)
    rw [this]; show _ = tot a + 0; omega
  | cons x b =>
    obtain ⟨g1, g2, g3⟩ := extJ_ok ha (hb.v x (by simp)) (fun s hs => hab s hs x (by simp))
    have hn : NF (extJ a x ++ b) := by
      refine ⟨fun s hs => ?_, List.pairwise_append.2 ⟨g1.p, hb.tail.p, fun e he r hr => ?_⟩⟩
      · rcases List.mem_append.1 hs with hs | hs
        · exact g1.v s hs
        · exact hb.tail.v s hs
      · have := g3 e he
        have := (List.pairwise_cons.1 hb.p).1 r hr
        omega
    have : c = extJ a x ++ b := nf_uniq hc hn (fun t => by
      rw [hm, mem_app, g2, mem_cons]
      constructor
      · rintro (h | h | h)
        · exact .inl (.inl h)
        · exact .inl (.inr h)
        · exact .inr h
      · rintro ((h | h) | h)
        · exact .inl h
        · exact .inr (.inl h)
        · exact .inr (.inr h))
    rw [this, tot_app, tot_extJ, tot_cons]; omega
theorem enf_join {z : Zn} {a b t : Int} (h0 : 0 ≤ a) (h1 : a < t) (h2 : t < b) (h3 : b ≤ 68719476736) (h4 : b - a ≤ 2592000) : spE ⟨a, t⟩ = 0 ∧ spE ⟨t, b⟩ = 0 ∧ spE ⟨a, b⟩ = 0 ∧ tot (enf z ⟨a, b⟩) = tot (enf z ⟨a, t⟩) + tot (enf z ⟨t, b⟩) := by
  have e1 : spE ⟨a, t⟩ = 0 := spE_ok (by refine ⟨h0, h1, ?_, ?_⟩ <;> first | (show t ≤ 68719476736; omega) | (show (t - 1) / 86400 - a / 86400 < 366; omega))
  have e2 : spE ⟨t, b⟩ = 0 := spE_ok (by refine ⟨?_, h2, h3, ?_⟩ <;> first | (show 0 ≤ t; omega) | (show (b - 1) / 86400 - t / 86400 < 366; omega))
  have e3 : spE ⟨a, b⟩ = 0 := spE_ok (by refine ⟨h0, ?_, h3, ?_⟩ <;> first | (show a < b; omega) | (show (b - 1) / 86400 - a / 86400 < 366; omega))
  refine ⟨e1, e2, e3, ?_⟩
  obtain ⟨a1, a2⟩ := enf_ok (z := z) e1
  obtain ⟨b1, b2⟩ := enf_ok (z := z) e2
  obtain ⟨c1, c2⟩ := enf_ok (z := z) e3
  refine join_tot a1 b1 c1 (fun s hs r hr => ?_) (fun x => ?_)
  · have g1 : s.to ≤ t := (enf_in e1 hs).2.2
    have g2 : t ≤ r.fr := (enf_in e2 hr).1
    omega
  · rw [a2, b2, c2]
    show (a ≤ x ∧ x < b) ∧ _ ↔ ((a ≤ x ∧ x < t) ∧ _) ∨ ((t ≤ x ∧ x < b) ∧ _)
    constructor
    · rintro ⟨⟨h5, h6⟩, h7⟩
      by_cases h8 : x < t
      · exact .inl ⟨⟨h5, h8⟩, h7⟩
      · exact .inr ⟨⟨by omega, h6⟩, h7⟩
    · rintro (⟨⟨h5, h6⟩, h7⟩ | ⟨⟨h5, h6⟩, h7⟩)
      · exact ⟨⟨h5, by omega⟩, h7⟩
      · exact ⟨⟨by omega, h6⟩, h7⟩
theorem enf_T {z : Zn} {i : Ivl} (he : spE i = 0) {k : Nat} : 0 ≤ tot ((enf z i).take k) ∧ tot ((enf z i).take k) ≤ 68719476736 := by
  have h := spE_0 he
  have := tot_take (enf_ok (z := z) he).1 (fun s hs => ⟨(enf_in he hs).1, (enf_in he hs).2.2⟩) (by omega) k
  omega

set_option maxHeartbeats 4000000 in
set_option maxRecDepth 100000 in
theorem wtn18 (l : List Ivl) (t : Int) (hl : l.length ≤ 1000000) : Ctr Try.prog 18 [.sl 2 (List.map eIv l), .fl (.int .i64 t)] (.d (.fl (.bool (wtn l t)))) := by
  refine ctr (n := 24) (rs := #[.tmp 4]) (L := [(0, .d (.sl 2 (List.map eIv l))), (1, .d (.fl (.int .i64 t)))]) Try.func18 rfl rfl rfl rfl rfl (fun w0 U0 => ?_)
  refine a_rseq ?_
  refine rg_put (d := 4) (v := .d (.fl (.bool false))) rfl (og rfl (op_assign rfl rfl rfl)) ?_
  refine rg_done rfl ?_
  refine a_seq ?_
  refine a_rseq ?_
  refine rg_put (d := 7) (v := .d (.sl 2 (List.map eIv l))) rfl (og rfl (op_move rfl rfl rfl)) ?_
  refine rg_put (d := 8) (v := .d (.fl (.int .i64 (l.length : Int)))) rfl (og rfl (s_len rfl Try.underlying34 rfl rfl)) ?_
  refine rg_put (d := 9) (v := .d (.fl (.int .i64 0))) rfl (og rfl (op_move rfl rfl rfl)) ?_
  refine rg_done rfl ?_
  refine a_block ?_
  refine a_loop (ι := Nat) (fun k => SS [(0, .d (.sl 2 (List.map eIv l))), (1, .d (.fl (.int .i64 t))), (7, .d (.sl 2 (List.map eIv l))), (8, .d (.fl (.int .i64 (l.length : Int)))), (9, .d (.fl (.int .i64 (k : Int))))] []) (fun k => k ≤ l.length ∧ wtn (l.take k) t = false) (fun k => l.length - k) 0 (⟨Nat.zero_le _, rfl⟩) (imp_forget rfl ⟨rfl, rfl, rfl, rfl, rfl, trivial⟩ trivial) (fun k hok => ?_)
  obtain ⟨hk, hw⟩ := hok
  refine a_rseq ?_
  refine rg_put (d := 10) (v := .d (.fl (.bool ((decide ((k : Int) < (l.length : Int))))))) rfl (og rfl (op_bin rfl rfl rfl (b_lss _ _ _ _) rfl)) ?_
  refine rg_done rfl ?_
  refine a_seq ?_
  refine a_cond rfl (fun h1 => ?_) (fun h1 => ?_)
  · skip
    have h2 := t_dec h1
    refine a_skip ?_
    show A _ _ _ _ _ _ _
    refine a_seq ?_
    refine a_block ?_
    refine a_rseq ?_
    refine rg_put (d := 11) (v := .el ((eIv (ix l k)))) rfl (og rfl (s_index rfl Try.underlying34 ti32 rfl rfl (by omega) (row_at (by omega)) rfl)) ?_
    refine rg_put (d := 12) (v := .d (.ag (eIv (ix l k)))) rfl (og rfl (of_eff (s_load_els rfl Try.underlying32 rfl ti32 rfl rfl rfl) rfl)) ?_
    refine rg_nam (d := 6) (v := .pt 101 0) (m := 101) (nw := [(101, .bx 32 [.fl (.int .i64 0), .fl (.int .i64 0)])]) rfl (og rfl (of_eff (s_alloc 101 rfl ti32 (by kernel_rfl) rfl) rfl)) rfl ?_
    refine rg_sto (nw := [(101, .bx 32 ((eIv (ix l k))))]) rfl (og rfl (of_eff (s_store rfl rfl ti32 rfl rfl rfl rfl rfl rfl) rfl)) ?_
    refine rg_done rfl ?_
    refine a_rseq ?_
    refine rg_put (d := 13) (v := .pt 101 0) rfl (og rfl (of_eff (s_field_pt rfl Try.underlying32 rfl ti3 rfl rfl rfl) rfl)) ?_
    refine rg_put (d := 14) (v := .d (.fl (.int .i64 ((ix l k).fr)))) rfl (og rfl (op_load_pt rfl Try.underlying3 rfl rfl rfl rfl rfl)) ?_
    refine rg_put (d := 15) (v := .d (.fl (.int .i64 t))) rfl (og rfl (op_move rfl rfl rfl)) ?_
    refine rg_put (d := 16) (v := .d (.fl (.bool ((decide ((ix l k).fr ≤ t)))))) rfl (og rfl (op_bin rfl rfl rfl (b_leq _ _ _ _) rfl)) ?_
    refine rg_put (d := 17) (v := .d (.fl (.bool ((decide ((ix l k).fr ≤ t)))))) rfl (og rfl (op_move rfl rfl rfl)) ?_
    rcases fot ((decide ((ix l k).fr ≤ t))) with h3 | h3
    · skip
      have h4 := f_dec h3
      refine rg_put (d := 18) (v := .d (.fl undef)) rfl (on rfl rfl rfl h3) ?_
      refine rg_put (d := 19) (v := .d (.fl undef)) rfl (on rfl rfl rfl h3) ?_
      refine rg_put (d := 20) (v := .d (.fl undef)) rfl (on rfl rfl rfl h3) ?_
      refine rg_put (d := 21) (v := .d (.fl undef)) rfl (on rfl rfl rfl h3) ?_
      refine rg_put (d := 22) (v := .d (.fl (.bool false))) rfl (og rfl (op_pick rfl rfl (by rw [h3]; rfl) rfl)) ?_
      refine rg_done rfl ?_
      refine a_condF rfl rfl ?_
      refine a_skip ?_
      show A _ _ _ _ _ _ _
      refine a_region ?_
      refine rg_put (d := 23) (v := .d (.fl (.int .i64 (((k : Int) + 1))))) rfl (og rfl (op_bin rfl rfl rfl (fun x y w => b_add64 _ _ _ x y w (by omega)) rfl)) ?_
      refine rg_put (d := 9) (v := .d (.fl (.int .i64 (((k : Int) + 1))))) rfl (og rfl (op_move rfl rfl rfl)) ?_
      refine rg_done rfl ?_
      show ∃ i, _ ∧ _ ∧ Imp _ _ _ _ _
      refine ⟨k + 1, ⟨by (show k + 1 ≤ l.length); omega, wtn_s (by omega) hw (by rw [h3]; rfl)⟩, (by (show l.length - (k + 1) < l.length - k); omega), imp_forget rfl ⟨rfl, rfl, rfl, rfl, (ci (by omega)), trivial⟩ trivial⟩
    · skip
      have h5 := t_dec h3
      refine rg_put (d := 18) (v := .d (.fl (.int .i64 t))) rfl (oy rfl rfl rfl h3 (op_move rfl rfl rfl)) ?_
      refine rg_put (d := 19) (v := .pt 101 1) rfl (oy rfl rfl rfl h3 (of_eff (s_field_pt rfl Try.underlying32 rfl ti3 rfl rfl rfl) rfl)) ?_
      refine rg_put (d := 20) (v := .d (.fl (.int .i64 ((ix l k).to)))) rfl (oy rfl rfl rfl h3 (op_load_pt rfl Try.underlying3 rfl rfl rfl rfl rfl)) ?_
      refine rg_put (d := 21) (v := .d (.fl (.bool ((decide (t < (ix l k).to)))))) rfl (oy rfl rfl rfl h3 (op_bin rfl rfl rfl (b_lss _ _ _ _) rfl)) ?_
      refine rg_put (d := 22) (v := .d (.fl (.bool ((decide (t < (ix l k).to)))))) rfl (og rfl (op_pick rfl rfl (by rw [h3]; rfl) rfl)) ?_
      refine rg_done rfl ?_
      refine a_cond rfl (fun h6 => ?_) (fun h6 => ?_)
      · skip
        have h7 := t_dec h6
        refine a_rseq ?_
        refine rg_put (d := 4) (v := .d (.fl (.bool true))) rfl (og rfl (op_assign rfl rfl rfl)) ?_
        refine rg_done rfl ?_
        refine a_ret ?_
        show ∃ ds, ResL _ _ _ ds ∧ RV.of ds = _
        refine ⟨[.fl (.bool true)], (.cons (.tmp rfl (.d _)) .nil), ?_⟩
        rw [wtn_t (by omega) h3 h6]; rfl
      · skip
        have h8 := f_dec h6
        refine a_skip ?_
        show A _ _ _ _ _ _ _
        refine a_region ?_
        refine rg_put (d := 23) (v := .d (.fl (.int .i64 (((k : Int) + 1))))) rfl (og rfl (op_bin rfl rfl rfl (fun x y w => b_add64 _ _ _ x y w (by omega)) rfl)) ?_
        refine rg_put (d := 9) (v := .d (.fl (.int .i64 (((k : Int) + 1))))) rfl (og rfl (op_move rfl rfl rfl)) ?_
        refine rg_done rfl ?_
        show ∃ i, _ ∧ _ ∧ Imp _ _ _ _ _
        refine ⟨k + 1, ⟨by (show k + 1 ≤ l.length); omega, wtn_s (by omega) hw (by rw [h3]; exact h6)⟩, (by (show l.length - (k + 1) < l.length - k); omega), imp_forget rfl ⟨rfl, rfl, rfl, rfl, (ci (by omega)), trivial⟩ trivial⟩
  · skip
    have h9 := f_dec h1
    refine a_exit ?_
    show A _ _ _ _ _ _ _
    refine a_rseq ?_
    refine rg_put (d := 4) (v := .d (.fl (.bool false))) rfl (og rfl (op_assign rfl rfl rfl)) ?_
    refine rg_done rfl ?_
    refine a_ret ?_
    show ∃ ds, ResL _ _ _ ds ∧ RV.of ds = _
    refine ⟨[.fl (.bool false)], (.cons (.tmp rfl (.d _)) .nil), ?_⟩
    rw [show k = l.length by omega, List.take_length] at hw
    rw [hw]; rfl
set_option maxHeartbeats 4000000 in
set_option maxRecDepth 100000 in
theorem tot19 (l : List Ivl) (hl : l.length ≤ 1000000) (hT : ∀ k, 0 ≤ tot (l.take k) ∧ tot (l.take k) ≤ 68719476736) (hV : ∀ s ∈ l, 0 ≤ s.fr ∧ s.fr < s.to ∧ s.to ≤ 68719476736) : Ctr Try.prog 19 [.sl 2 (List.map eIv l)] (.d (.fl (.int .i64 (tot l)))) := by
  refine ctr (n := 21) (rs := #[.tmp 2]) (L := [(0, .d (.sl 2 (List.map eIv l)))]) Try.func19 rfl rfl rfl rfl rfl (fun w0 U0 => ?_)
  refine a_rseq ?_
  refine rg_put (d := 2) (v := .d (.fl (.int .i64 0))) rfl (og rfl (op_assign rfl rfl rfl)) ?_
  refine rg_done rfl ?_
  refine a_rseq ?_
  refine rg_put (d := 3) (v := .d (.fl (.int .i64 0))) rfl (og rfl (op_assign rfl rfl rfl)) ?_
  refine rg_done rfl ?_
  refine a_seq ?_
  refine a_rseq ?_
  refine rg_put (d := 6) (v := .d (.sl 2 (List.map eIv l))) rfl (og rfl (op_move rfl rfl rfl)) ?_
  refine rg_put (d := 7) (v := .d (.fl (.int .i64 (l.length : Int)))) rfl (og rfl (s_len rfl Try.underlying34 rfl rfl)) ?_
  refine rg_put (d := 8) (v := .d (.fl (.int .i64 0))) rfl (og rfl (op_move rfl rfl rfl)) ?_
  refine rg_done rfl ?_
  refine a_block ?_
  refine a_loop (ι := Nat) (fun k => SS [(0, .d (.sl 2 (List.map eIv l))), (2, .d (.fl (.int .i64 0))), (6, .d (.sl 2 (List.map eIv l))), (7, .d (.fl (.int .i64 (l.length : Int)))), (8, .d (.fl (.int .i64 (k : Int)))), (3, .d (.fl (.int .i64 ((tot (l.take k))))))] []) (fun k => k ≤ l.length) (fun k => l.length - k) 0 (by omega) (imp_forget rfl ⟨rfl, rfl, rfl, rfl, rfl, rfl, trivial⟩ trivial) (fun k hok => ?_)
  have hk := hok
  have ht1 := hT k
  refine a_rseq ?_
  refine rg_put (d := 9) (v := .d (.fl (.bool ((decide ((k : Int) < (l.length : Int))))))) rfl (og rfl (op_bin rfl rfl rfl (b_lss _ _ _ _) rfl)) ?_
  refine rg_done rfl ?_
  refine a_seq ?_
  refine a_cond rfl (fun h1 => ?_) (fun h1 => ?_)
  · skip
    have h2 := t_dec h1
    refine a_skip ?_
    show A _ _ _ _ _ _ _
    refine a_seq ?_
    refine a_block ?_
    refine a_rseq ?_
    refine rg_put (d := 10) (v := .el ((eIv (ix l k)))) rfl (og rfl (s_index rfl Try.underlying34 ti32 rfl rfl (by omega) (row_at (by omega)) rfl)) ?_
    refine rg_put (d := 11) (v := .d (.ag (eIv (ix l k)))) rfl (og rfl (of_eff (s_load_els rfl Try.underlying32 rfl ti32 rfl rfl rfl) rfl)) ?_
    refine rg_nam (d := 5) (v := .pt 101 0) (m := 101) (nw := [(101, .bx 32 [.fl (.int .i64 0), .fl (.int .i64 0)])]) rfl (og rfl (of_eff (s_alloc 101 rfl ti32 (by kernel_rfl) rfl) rfl)) rfl ?_
    refine rg_sto (nw := [(101, .bx 32 ((eIv (ix l k))))]) rfl (og rfl (of_eff (s_store rfl rfl ti32 rfl rfl rfl rfl rfl rfl) rfl)) ?_
    refine rg_done rfl ?_
    refine a_region ?_
    have hv := hV _ (ix_mem (by omega : k < l.length))
    have ht2 := hT (k + 1)
    rw [tot_k (by omega)] at ht2
    refine rg_put (d := 12) (v := .d (.fl (.int .i64 ((tot (l.take k)))))) rfl (og rfl (op_move rfl rfl rfl)) ?_
    refine rg_put (d := 13) (v := .pt 101 1) rfl (og rfl (of_eff (s_field_pt rfl Try.underlying32 rfl ti3 rfl rfl rfl) rfl)) ?_
    refine rg_put (d := 14) (v := .d (.fl (.int .i64 ((ix l k).to)))) rfl (og rfl (op_load_pt rfl Try.underlying3 rfl rfl rfl rfl rfl)) ?_
    refine rg_put (d := 15) (v := .pt 101 0) rfl (og rfl (of_eff (s_field_pt rfl Try.underlying32 rfl ti3 rfl rfl rfl) rfl)) ?_
    refine rg_put (d := 16) (v := .d (.fl (.int .i64 ((ix l k).fr)))) rfl (og rfl (op_load_pt rfl Try.underlying3 rfl rfl rfl rfl rfl)) ?_
    refine rg_put (d := 17) (v := .d (.fl (.int .i64 (((ix l k).to - (ix l k).fr))))) rfl (og rfl (op_bin rfl rfl rfl (fun x y w => b_sub64 _ _ _ x y w (by omega)) rfl)) ?_
    refine rg_put (d := 18) (v := .d (.fl (.int .i64 (((tot (l.take k)) + ((ix l k).to - (ix l k).fr)))))) rfl (og rfl (op_bin rfl rfl rfl (fun x y w => b_add64 _ _ _ x y w (by omega)) rfl)) ?_
    refine rg_put (d := 3) (v := .d (.fl (.int .i64 (((tot (l.take k)) + ((ix l k).to - (ix l k).fr)))))) rfl (og rfl (op_assign rfl rfl rfl)) ?_
    refine rg_done rfl ?_
    show A _ _ _ _ _ _ _
    refine a_region ?_
    refine rg_put (d := 19) (v := .d (.fl (.int .i64 (((k : Int) + 1))))) rfl (og rfl (op_bin rfl rfl rfl (fun x y w => b_add64 _ _ _ x y w (by omega)) rfl)) ?_
    refine rg_put (d := 8) (v := .d (.fl (.int .i64 (((k : Int) + 1))))) rfl (og rfl (op_move rfl rfl rfl)) ?_
    refine rg_done rfl ?_
    show ∃ i, _ ∧ _ ∧ Imp _ _ _ _ _
    refine ⟨k + 1, (by omega), by omega, imp_forget rfl ⟨rfl, rfl, rfl, rfl, (ci (by omega)), (ci (by rw [tot_k (by omega)])), trivial⟩ trivial⟩
  · skip
    have h3 := f_dec h1
    refine a_exit ?_
    show A _ _ _ _ _ _ _
    refine a_rseq ?_
    refine rg_put (d := 20) (v := .d (.fl (.int .i64 ((tot (l.take k)))))) rfl (og rfl (op_move rfl rfl rfl)) ?_
    refine rg_put (d := 2) (v := .d (.fl (.int .i64 ((tot (l.take k)))))) rfl (og rfl (op_assign rfl rfl rfl)) ?_
    refine rg_done rfl ?_
    refine a_ret ?_
    show ∃ ds, ResL _ _ _ ds ∧ RV.of ds = _
    refine ⟨[.fl (.int .i64 ((tot (l.take k))))], (.cons (.tmp rfl (.d _)) .nil), ?_⟩
    rw [show k = l.length by omega, List.take_length]; rfl
theorem wtn_enf {z : Zn} {i : Ivl} {t : Int} (he : spE i = 0) (ht : i.fr ≤ t ∧ t < i.to) : wtn (enf z i) t = opn z t := by
  have h := (enf_ok (z := z) he).2 t
  cases ho : opn z t with
  | true => exact wtn_mem.2 (h.2 ⟨ht, ho⟩)
  | false =>
    cases hw : wtn (enf z i) t with
    | false => rfl
    | true => have := (h.1 (wtn_mem.1 hw)).2; rw [ho] at this; cases this
theorem enf_gap {z : Zn} {i : Ivl} (he : spE i = 0) {k : Nat} (h0 : 0 < k) (hk : k < (enf z i).length) : (ix (enf z i) (k - 1)).to < (ix (enf z i) k).fr := by
  have := List.pairwise_iff_getElem.1 (enf_ok (z := z) he).1.p (k - 1) k (by omega) hk (by omega)
  rw [ix_eq (by omega), ix_eq hk] at this; exact this
set_option maxHeartbeats 4000000 in
set_option maxRecDepth 100000 in
theorem law5 (z : Zn) (i : Ivl) (t : Int) : Ctr Try.prog 5 [.ag (eZn z), .ag (eIv i), .fl (.int .i64 t)] (.d (.fl (.bool true))) := by
  refine ctr (n := 111) (rs := #[.tmp 6]) (L := [(0, .d (.ag (eZn z))), (1, .d (.ag (eIv i))), (2, .d (.fl (.int .i64 t)))]) Try.func5 rfl rfl rfl rfl rfl (fun w0 U0 => ?_)
  refine a_rseq ?_
  refine rg_nam (d := 3) (v := .pt 101 0) (m := 101) (nw := [(101, .bx 25 (eZn z))]) rfl (og rfl (of_eff (op_box 101 rfl rfl rfl rfl) rfl)) rfl ?_
  refine rg_nam (d := 4) (v := .pt 102 0) (m := 102) (nw := [(102, .bx 32 (eIv i))]) rfl (og rfl (of_eff (op_box 102 rfl rfl rfl rfl) rfl)) rfl ?_
  refine rg_put (d := 6) (v := .d (.fl (.bool false))) rfl (og rfl (op_assign rfl rfl rfl)) ?_
  refine rg_done rfl ?_
  refine a_seq ?_
  refine a_rseq ?_
  refine rg_put (d := 11) (v := .d (.ag (eZn z))) rfl (og rfl (of_eff (s_load_pts rfl Try.underlying25 rfl ti25 rfl rfl rfl rfl) rfl)) ?_
  refine rg_put (d := 12) (v := .d (.fl (.bool (grt z)))) rfl (og rfl (op_call rfl Try.func8 nm8 rfl (.cons rfl (.d _) .nil) (grt6 z) rfl)) ?_
  refine rg_put (d := 13) (v := .d (.fl (.bool (grt z)))) rfl (og rfl (op_move rfl rfl rfl)) ?_
  rcases fot (grt z) with h1 | h1
  · skip
    refine rg_put (d := 14) (v := .pt 102 0) rfl (oy rfl rfl rfl h1 (of_eff (s_field_pt rfl Try.underlying32 rfl ti3 rfl rfl rfl) rfl)) ?_
    refine rg_put (d := 15) (v := .d (.fl (.int .i64 i.fr))) rfl (oy rfl rfl rfl h1 (op_load_pt rfl Try.underlying3 rfl rfl rfl rfl rfl)) ?_
    refine rg_put (d := 16) (v := .d (.fl (.bool ((decide (i.fr < 0)))))) rfl (oy rfl rfl rfl h1 (op_bin rfl rfl rfl (b_lss _ _ _ _) rfl)) ?_
    refine rg_put (d := 17) (v := .d (.fl (.bool ((decide (i.fr < 0)))))) rfl (og rfl (op_pick rfl rfl (by rw [h1]; rfl) rfl)) ?_
    refine rg_put (d := 18) (v := .d (.fl (.bool ((decide (i.fr < 0)))))) rfl (og rfl (op_move rfl rfl rfl)) ?_
    rcases fot ((decide (i.fr < 0))) with h2 | h2
    · skip
      have h3 := f_dec h2
      refine rg_put (d := 19) (v := .pt 102 0) rfl (oy rfl rfl rfl h2 (of_eff (s_field_pt rfl Try.underlying32 rfl ti3 rfl rfl rfl) rfl)) ?_
      refine rg_put (d := 20) (v := .d (.fl (.int .i64 i.fr))) rfl (oy rfl rfl rfl h2 (op_load_pt rfl Try.underlying3 rfl rfl rfl rfl rfl)) ?_
      refine rg_put (d := 21) (v := .pt 102 1) rfl (oy rfl rfl rfl h2 (of_eff (s_field_pt rfl Try.underlying32 rfl ti3 rfl rfl rfl) rfl)) ?_
      refine rg_put (d := 22) (v := .d (.fl (.int .i64 i.to))) rfl (oy rfl rfl rfl h2 (op_load_pt rfl Try.underlying3 rfl rfl rfl rfl rfl)) ?_
      refine rg_put (d := 23) (v := .d (.fl (.bool ((decide (i.to ≤ i.fr)))))) rfl (oy rfl rfl rfl h2 (op_bin rfl rfl rfl (b_geq _ _ _ _) rfl)) ?_
      refine rg_put (d := 24) (v := .d (.fl (.bool ((decide (i.to ≤ i.fr)))))) rfl (og rfl (op_pick rfl rfl (by rw [h2]; rfl) rfl)) ?_
      refine rg_put (d := 25) (v := .d (.fl (.bool ((decide (i.to ≤ i.fr)))))) rfl (og rfl (op_move rfl rfl rfl)) ?_
      rcases fot ((decide (i.to ≤ i.fr))) with h4 | h4
      · skip
        have h5 := f_dec h4
        refine rg_put (d := 26) (v := .pt 102 1) rfl (oy rfl rfl rfl h4 (of_eff (s_field_pt rfl Try.underlying32 rfl ti3 rfl rfl rfl) rfl)) ?_
        refine rg_put (d := 27) (v := .d (.fl (.int .i64 i.to))) rfl (oy rfl rfl rfl h4 (op_load_pt rfl Try.underlying3 rfl rfl rfl rfl rfl)) ?_
        refine rg_put (d := 28) (v := .d (.fl (.bool ((decide (68719476736 < i.to)))))) rfl (oy rfl rfl rfl h4 (op_bin rfl rfl rfl (b_gtr _ _ _ _) rfl)) ?_
        refine rg_put (d := 29) (v := .d (.fl (.bool ((decide (68719476736 < i.to)))))) rfl (og rfl (op_pick rfl rfl (by rw [h4]; rfl) rfl)) ?_
        refine rg_put (d := 30) (v := .d (.fl (.bool ((decide (68719476736 < i.to)))))) rfl (og rfl (op_move rfl rfl rfl)) ?_
        rcases fot ((decide (68719476736 < i.to))) with h6 | h6
        · skip
          have h7 := f_dec h6
          refine rg_put (d := 31) (v := .pt 102 1) rfl (oy rfl rfl rfl h6 (of_eff (s_field_pt rfl Try.underlying32 rfl ti3 rfl rfl rfl) rfl)) ?_
          refine rg_put (d := 32) (v := .d (.fl (.int .i64 i.to))) rfl (oy rfl rfl rfl h6 (op_load_pt rfl Try.underlying3 rfl rfl rfl rfl rfl)) ?_
          refine rg_put (d := 33) (v := .pt 102 0) rfl (oy rfl rfl rfl h6 (of_eff (s_field_pt rfl Try.underlying32 rfl ti3 rfl rfl rfl) rfl)) ?_
          refine rg_put (d := 34) (v := .d (.fl (.int .i64 i.fr))) rfl (oy rfl rfl rfl h6 (op_load_pt rfl Try.underlying3 rfl rfl rfl rfl rfl)) ?_
          refine rg_put (d := 35) (v := .d (.fl (.int .i64 (i.to - i.fr)))) rfl (oy rfl rfl rfl h6 (op_bin rfl rfl rfl (fun x y w => b_sub64 _ _ _ x y w (by omega)) rfl)) ?_
          refine rg_put (d := 36) (v := .d (.fl (.bool ((decide (2592000 < (i.to - i.fr))))))) rfl (oy rfl rfl rfl h6 (op_bin rfl rfl rfl (b_gtr _ _ _ _) rfl)) ?_
          refine rg_put (d := 37) (v := .d (.fl (.bool ((decide (2592000 < (i.to - i.fr))))))) rfl (og rfl (op_pick rfl rfl (by rw [h6]; rfl) rfl)) ?_
          refine rg_put (d := 38) (v := .d (.fl (.bool ((decide (2592000 < (i.to - i.fr))))))) rfl (og rfl (op_move rfl rfl rfl)) ?_
          rcases fot ((decide (2592000 < (i.to - i.fr)))) with h8 | h8
          · skip
            have h9 := f_dec h8
            refine rg_put (d := 39) (v := .d (.fl (.int .i64 t))) rfl (oy rfl rfl rfl h8 (op_move rfl rfl rfl)) ?_
            refine rg_put (d := 40) (v := .pt 102 0) rfl (oy rfl rfl rfl h8 (of_eff (s_field_pt rfl Try.underlying32 rfl ti3 rfl rfl rfl) rfl)) ?_
            refine rg_put (d := 41) (v := .d (.fl (.int .i64 i.fr))) rfl (oy rfl rfl rfl h8 (op_load_pt rfl Try.underlying3 rfl rfl rfl rfl rfl)) ?_
            refine rg_put (d := 42) (v := .d (.fl (.bool ((decide (t < i.fr)))))) rfl (oy rfl rfl rfl h8 (op_bin rfl rfl rfl (b_lss _ _ _ _) rfl)) ?_
            refine rg_put (d := 43) (v := .d (.fl (.bool ((decide (t < i.fr)))))) rfl (og rfl (op_pick rfl rfl (by rw [h8]; rfl) rfl)) ?_
            refine rg_put (d := 44) (v := .d (.fl (.bool ((decide (t < i.fr)))))) rfl (og rfl (op_move rfl rfl rfl)) ?_
            rcases fot ((decide (t < i.fr))) with h10 | h10
            · skip
              have h11 := f_dec h10
              refine rg_put (d := 45) (v := .d (.fl (.int .i64 t))) rfl (oy rfl rfl rfl h10 (op_move rfl rfl rfl)) ?_
              refine rg_put (d := 46) (v := .pt 102 1) rfl (oy rfl rfl rfl h10 (of_eff (s_field_pt rfl Try.underlying32 rfl ti3 rfl rfl rfl) rfl)) ?_
              refine rg_put (d := 47) (v := .d (.fl (.int .i64 i.to))) rfl (oy rfl rfl rfl h10 (op_load_pt rfl Try.underlying3 rfl rfl rfl rfl rfl)) ?_
              refine rg_put (d := 48) (v := .d (.fl (.bool ((decide (i.to ≤ t)))))) rfl (oy rfl rfl rfl h10 (op_bin rfl rfl rfl (b_geq _ _ _ _) rfl)) ?_
              refine rg_put (d := 49) (v := .d (.fl (.bool ((decide (i.to ≤ t)))))) rfl (og rfl (op_pick rfl rfl (by rw [h10]; rfl) rfl)) ?_
              refine rg_done rfl ?_
              refine a_cond rfl (fun h12 => ?_) (fun h12 => ?_)
              · skip
                have h13 := t_dec h12
                refine a_rseq ?_
                refine rg_put (d := 50) (v := .d (.fl (.bool true))) rfl (og rfl (op_call rfl Try.func9 nm9 rfl .nil alive9 rfl)) ?_
                refine rg_put (d := 6) (v := .d (.fl (.bool true))) rfl (og rfl (op_assign rfl rfl rfl)) ?_
                refine rg_done rfl ?_
                refine a_ret ?_
                show ∃ ds, ResL _ _ _ ds ∧ RV.of ds = _
                refine ⟨[.fl (.bool true)], (.cons (.tmp rfl (.d _)) .nil), ?_⟩
                rfl
              · skip
                have h14 := f_dec h12
                refine a_skip ?_
                show A _ _ _ _ _ _ _
                refine a_rseq ?_
                have he : spE i = 0 := spE_ok (by omega)
                have hel := enf_len (grt_f h1).1 i
                refine rg_put (d := 52) (v := .d (.ag (eZn z))) rfl (og rfl (of_eff (s_load_pts rfl Try.underlying25 rfl ti25 rfl rfl rfl rfl) rfl)) ?_
                refine rg_put (d := 53) (v := .d (.ag (eIv i))) rfl (og rfl (of_eff (s_load_pts rfl Try.underlying32 rfl ti32 rfl rfl rfl rfl) rfl)) ?_
                refine rg_put (d := 54) (v := .tu [.sl 2 (List.map eIv (enf z i)), .fl (.int .i64 (spE i))]) rfl (og rfl (op_call rfl Try.func15 nm15 rfl (.cons rfl (.d _) (.cons rfl (.d _) .nil)) (enf15 z i (grt_f h1).1) rfl)) ?_
                refine rg_put (d := 51) (v := .tu [.sl 2 (List.map eIv (enf z i)), .fl (.int .i64 (spE i))]) rfl (og rfl (op_move rfl rfl rfl)) ?_
                refine rg_put (d := 55) (v := .d (.sl 2 (List.map eIv (enf z i)))) rfl (og rfl (op_extract rfl rfl rfl rfl)) ?_
                refine rg_put (d := 56) (v := .d (.fl (.int .i64 (spE i)))) rfl (og rfl (op_extract rfl rfl rfl rfl)) ?_
                refine rg_put (d := 7) (v := .d (.sl 2 (List.map eIv (enf z i)))) rfl (og rfl (op_assign rfl rfl rfl)) ?_
                refine rg_put (d := 8) (v := .d (.fl (.int .i64 (spE i)))) rfl (og rfl (op_assign rfl rfl rfl)) ?_
                refine rg_done rfl ?_
                refine a_seq ?_
                refine a_dseq (by kernel_rfl) ?_
                refine dr_put (d := 57) (v := .d (.fl (.int .i64 (spE i)))) rfl (og rfl (op_move rfl rfl rfl)) ?_
                refine dr_put (d := 58) (v := .d (.fl (.bool (((spE i) != 0))))) rfl (og rfl (op_bin rfl rfl rfl (b_neq _ _ _ _) rfl)) ?_
                refine dr_put (d := 59) (v := .d (.fl (.bool (((spE i) != 0))))) rfl (og rfl (op_move rfl rfl rfl)) ?_
                refine dr_put (d := 60) (v := .d (.sl 2 (List.map eIv (enf z i)))) rfl (oy rfl rfl rfl (show ((spE i) != 0) = false from by rw [he]; rfl) (op_move rfl rfl rfl)) ?_
                refine dr_put (d := 61) (v := .d (.fl (.int .i64 t))) rfl (oy rfl rfl rfl (show ((spE i) != 0) = false from by rw [he]; rfl) (op_move rfl rfl rfl)) ?_
                refine dr_put (d := 62) (v := .d (.fl (.bool ((wtn (enf z i) t))))) rfl (oy rfl rfl rfl (show ((spE i) != 0) = false from by rw [he]; rfl) (op_call rfl Try.func18 nm18 rfl (.cons rfl (.d _) (.cons rfl (.d _) .nil)) (wtn18 (enf z i) t (Nat.le_trans (enf_len (grt_f h1).1 _) (by omega))) rfl)) ?_
                refine dr_put (d := 63) (v := .d (.ag (eZn z))) rfl (oy rfl rfl rfl (show ((spE i) != 0) = false from by rw [he]; rfl) (of_eff (s_load_pts rfl Try.underlying25 rfl ti25 rfl rfl rfl rfl) rfl)) ?_
                refine dr_put (d := 64) (v := .d (.fl (.int .i64 t))) rfl (oy rfl rfl rfl (show ((spE i) != 0) = false from by rw [he]; rfl) (op_move rfl rfl rfl)) ?_
                refine dr_put (d := 65) (v := .d (.fl (.bool (opn z t)))) rfl (oy rfl rfl rfl (show ((spE i) != 0) = false from by rw [he]; rfl) (op_call rfl Try.func12 nm12 rfl (.cons rfl (.d _) (.cons rfl (.d _) .nil)) (open12 z t (grt_f h1).1) rfl)) ?_
                refine dr_put (d := 66) (v := .d (.fl (.bool ((!((wtn (enf z i) t) == (opn z t))))))) rfl (oy rfl rfl rfl (show ((spE i) != 0) = false from by rw [he]; rfl) (op_bin rfl rfl rfl (fun x y w => b_bne _ _ _ x y w Try.underlying4) rfl)) ?_
                refine dr_put (d := 67) (v := .d (.fl (.bool ((!((wtn (enf z i) t) == (opn z t))))))) rfl (og rfl (op_pick rfl rfl (by rw [(show ((spE i) != 0) = false from by rw [he]; rfl)]; rfl) rfl)) ?_
                refine dr_done rfl (by kernel_rfl) (by kernel_rfl) ?_
                refine a_condF rfl (not_f (show (((wtn (enf z i) t) == (opn z t))) = true from by rw [wtn_enf he (by omega)]; cases opn z t <;> rfl)) ?_
                refine a_skip ?_
                show A _ _ _ _ _ _ _
                refine a_seq ?_
                refine a_rseq ?_
                refine rg_put (d := 68) (v := .d (.sl 2 (List.map eIv (enf z i)))) rfl (og rfl (op_move rfl rfl rfl)) ?_
                refine rg_put (d := 69) (v := .d (.fl (.int .i64 (((enf z i).length : Int))))) rfl (og rfl (s_len rfl Try.underlying34 rfl rfl)) ?_
                refine rg_put (d := 70) (v := .d (.fl (.int .i64 0))) rfl (og rfl (op_move rfl rfl rfl)) ?_
                refine rg_done rfl ?_
                refine a_block ?_
                refine a_loop (ι := Nat) (fun k => SS [(0, .d (.ag (eZn z))), (1, .d (.ag (eIv i))), (2, .d (.fl (.int .i64 t))), (3, .pt 101 0), (4, .pt 102 0), (7, .d (.sl 2 (List.map eIv (enf z i)))), (8, .d (.fl (.int .i64 (spE i)))), (49, .d (.fl (.bool ((decide (i.to ≤ t)))))), (67, .d (.fl (.bool ((!((wtn (enf z i) t) == (opn z t))))))), (68, .d (.sl 2 (List.map eIv (enf z i)))), (69, .d (.fl (.int .i64 (((enf z i).length : Int))))), (70, .d (.fl (.int .i64 (k : Int))))] [(101, .bx 25 (eZn z)), (102, .bx 32 (eIv i))]) (fun k => k ≤ (enf z i).length) (fun k => (enf z i).length - k) 0 (by omega) (imp_forget rfl ⟨rfl, rfl, rfl, rfl, rfl, rfl, rfl, rfl, rfl, rfl, rfl, rfl, trivial⟩ ⟨rfl, rfl, trivial⟩) (fun k hok => ?_)
                have hk := hok
                refine a_rseq ?_
                refine rg_put (d := 71) (v := .d (.fl (.bool ((decide ((k : Int) < ((enf z i).length : Int))))))) rfl (og rfl (op_bin rfl rfl rfl (b_lss _ _ _ _) rfl)) ?_
                refine rg_done rfl ?_
                refine a_seq ?_
                refine a_cond rfl (fun h15 => ?_) (fun h15 => ?_)
                · skip
                  have h16 := t_dec h15
                  refine a_skip ?_
                  show A _ _ _ _ _ _ _
                  refine a_seq ?_
                  refine a_block ?_
                  refine a_rseq ?_
                  refine rg_put (d := 72) (v := .d (.fl (.int .i64 (k : Int)))) rfl (og rfl (op_move rfl rfl rfl)) ?_
                  refine rg_put (d := 73) (v := .el ((eIv ((ix (enf z i) k))))) rfl (og rfl (s_index rfl Try.underlying34 ti32 rfl rfl (by omega) (row_at (by omega)) rfl)) ?_
                  refine rg_put (d := 74) (v := .d (.ag (eIv (((ix (enf z i) k)))))) rfl (og rfl (of_eff (s_load_els rfl Try.underlying32 rfl ti32 rfl rfl rfl) rfl)) ?_
                  refine rg_nam (d := 10) (v := .pt 103 0) (m := 103) (nw := [(103, .bx 32 [.fl (.int .i64 0), .fl (.int .i64 0)])]) rfl (og rfl (of_eff (s_alloc 103 rfl ti32 (by kernel_rfl) rfl) rfl)) rfl ?_
                  refine rg_put (d := 9) (v := .d (.fl (.int .i64 (k : Int)))) rfl (og rfl (op_assign rfl rfl rfl)) ?_
                  refine rg_sto (nw := [(103, .bx 32 ((eIv (((ix (enf z i) k))))))]) rfl (og rfl (of_eff (s_store rfl rfl ti32 rfl rfl rfl rfl rfl rfl) rfl)) ?_
                  refine rg_done rfl ?_
                  refine a_dseq (by kernel_rfl) ?_
                  have hin := enf_in (z := z) he (ix_mem (by omega : k < (enf z i).length))
                  refine dr_put (d := 75) (v := .pt 103 0) rfl (og rfl (of_eff (s_field_pt rfl Try.underlying32 rfl ti3 rfl rfl rfl) rfl)) ?_
                  refine dr_put (d := 76) (v := .d (.fl (.int .i64 ((((ix (enf z i) k))).fr)))) rfl (og rfl (op_load_pt rfl Try.underlying3 rfl rfl rfl rfl rfl)) ?_
                  refine dr_put (d := 77) (v := .pt 102 0) rfl (og rfl (of_eff (s_field_pt rfl Try.underlying32 rfl ti3 rfl rfl rfl) rfl)) ?_
                  refine dr_put (d := 78) (v := .d (.fl (.int .i64 i.fr))) rfl (og rfl (op_load_pt rfl Try.underlying3 rfl rfl rfl rfl rfl)) ?_
                  refine dr_put (d := 79) (v := .d (.fl (.bool ((decide ((((ix (enf z i) k))).fr < i.fr)))))) rfl (og rfl (op_bin rfl rfl rfl (b_lss _ _ _ _) rfl)) ?_
                  refine dr_put (d := 80) (v := .d (.fl (.bool ((decide ((((ix (enf z i) k))).fr < i.fr)))))) rfl (og rfl (op_move rfl rfl rfl)) ?_
                  refine dr_put (d := 81) (v := .pt 103 0) rfl (oy rfl rfl rfl (show (decide ((((ix (enf z i) k))).fr < i.fr)) = false from decide_eq_false (by omega)) (of_eff (s_field_pt rfl Try.underlying32 rfl ti3 rfl rfl rfl) rfl)) ?_
                  refine dr_put (d := 82) (v := .d (.fl (.int .i64 ((((ix (enf z i) k))).fr)))) rfl (oy rfl rfl rfl (show (decide ((((ix (enf z i) k))).fr < i.fr)) = false from decide_eq_false (by omega)) (op_load_pt rfl Try.underlying3 rfl rfl rfl rfl rfl)) ?_
                  refine dr_put (d := 83) (v := .pt 103 1) rfl (oy rfl rfl rfl (show (decide ((((ix (enf z i) k))).fr < i.fr)) = false from decide_eq_false (by omega)) (of_eff (s_field_pt rfl Try.underlying32 rfl ti3 rfl rfl rfl) rfl)) ?_
                  refine dr_put (d := 84) (v := .d (.fl (.int .i64 ((((ix (enf z i) k))).to)))) rfl (oy rfl rfl rfl (show (decide ((((ix (enf z i) k))).fr < i.fr)) = false from decide_eq_false (by omega)) (op_load_pt rfl Try.underlying3 rfl rfl rfl rfl rfl)) ?_
                  refine dr_put (d := 85) (v := .d (.fl (.bool ((decide ((((ix (enf z i) k))).to ≤ (((ix (enf z i) k))).fr)))))) rfl (oy rfl rfl rfl (show (decide ((((ix (enf z i) k))).fr < i.fr)) = false from decide_eq_false (by omega)) (op_bin rfl rfl rfl (b_geq _ _ _ _) rfl)) ?_
                  refine dr_put (d := 86) (v := .d (.fl (.bool ((decide ((((ix (enf z i) k))).to ≤ (((ix (enf z i) k))).fr)))))) rfl (og rfl (op_pick rfl rfl (by rw [(show (decide ((((ix (enf z i) k))).fr < i.fr)) = false from decide_eq_false (by omega))]; rfl) rfl)) ?_
                  refine dr_put (d := 87) (v := .d (.fl (.bool ((decide ((((ix (enf z i) k))).to ≤ (((ix (enf z i) k))).fr)))))) rfl (og rfl (op_move rfl rfl rfl)) ?_
                  refine dr_put (d := 88) (v := .pt 103 1) rfl (oy rfl rfl rfl (show (decide ((((ix (enf z i) k))).to ≤ (((ix (enf z i) k))).fr)) = false from decide_eq_false (by omega)) (of_eff (s_field_pt rfl Try.underlying32 rfl ti3 rfl rfl rfl) rfl)) ?_
                  refine dr_put (d := 89) (v := .d (.fl (.int .i64 ((((ix (enf z i) k))).to)))) rfl (oy rfl rfl rfl (show (decide ((((ix (enf z i) k))).to ≤ (((ix (enf z i) k))).fr)) = false from decide_eq_false (by omega)) (op_load_pt rfl Try.underlying3 rfl rfl rfl rfl rfl)) ?_
                  refine dr_put (d := 90) (v := .pt 102 1) rfl (oy rfl rfl rfl (show (decide ((((ix (enf z i) k))).to ≤ (((ix (enf z i) k))).fr)) = false from decide_eq_false (by omega)) (of_eff (s_field_pt rfl Try.underlying32 rfl ti3 rfl rfl rfl) rfl)) ?_
                  refine dr_put (d := 91) (v := .d (.fl (.int .i64 i.to))) rfl (oy rfl rfl rfl (show (decide ((((ix (enf z i) k))).to ≤ (((ix (enf z i) k))).fr)) = false from decide_eq_false (by omega)) (op_load_pt rfl Try.underlying3 rfl rfl rfl rfl rfl)) ?_
                  refine dr_put (d := 92) (v := .d (.fl (.bool ((decide (i.to < (((ix (enf z i) k))).to)))))) rfl (oy rfl rfl rfl (show (decide ((((ix (enf z i) k))).to ≤ (((ix (enf z i) k))).fr)) = false from decide_eq_false (by omega)) (op_bin rfl rfl rfl (b_gtr _ _ _ _) rfl)) ?_
                  refine dr_put (d := 93) (v := .d (.fl (.bool ((decide (i.to < (((ix (enf z i) k))).to)))))) rfl (og rfl (op_pick rfl rfl (by rw [(show (decide ((((ix (enf z i) k))).to ≤ (((ix (enf z i) k))).fr)) = false from decide_eq_false (by omega))]; rfl) rfl)) ?_
                  refine dr_put (d := 94) (v := .d (.fl (.bool ((decide (i.to < (((ix (enf z i) k))).to)))))) rfl (og rfl (op_move rfl rfl rfl)) ?_
                  refine dr_put (d := 95) (v := .d (.fl (.int .i64 (k : Int)))) rfl (oy rfl rfl rfl (show (decide (i.to < (((ix (enf z i) k))).to)) = false from decide_eq_false (by omega)) (op_move rfl rfl rfl)) ?_
                  refine dr_put (d := 96) (v := .d (.fl (.bool ((decide (0 < (k : Int))))))) rfl (oy rfl rfl rfl (show (decide (i.to < (((ix (enf z i) k))).to)) = false from decide_eq_false (by omega)) (op_bin rfl rfl rfl (b_gtr _ _ _ _) rfl)) ?_
                  refine dr_put (d := 97) (v := .d (.fl (.bool ((decide (0 < (k : Int))))))) rfl (oy rfl rfl rfl (show (decide (i.to < (((ix (enf z i) k))).to)) = false from decide_eq_false (by omega)) (op_move rfl rfl rfl)) ?_
                  rcases fot ((decide (0 < (k : Int)))) with h17 | h17
                  · skip
                    have h18 := f_dec h17
                    refine dr_put (d := 98) (v := .d (.fl undef)) rfl (on rfl rfl rfl h17) ?_
                    refine dr_put (d := 99) (v := .d (.fl undef)) rfl (on rfl rfl rfl h17) ?_
                    refine dr_put (d := 100) (v := .d (.fl undef)) rfl (on rfl rfl rfl h17) ?_
                    refine dr_put (d := 101) (v := .d (.fl undef)) rfl (on rfl rfl rfl h17) ?_
                    refine dr_put (d := 102) (v := .d (.fl undef)) rfl (on rfl rfl rfl h17) ?_
                    refine dr_put (d := 103) (v := .d (.fl undef)) rfl (on rfl rfl rfl h17) ?_
                    refine dr_put (d := 104) (v := .d (.fl undef)) rfl (on rfl rfl rfl h17) ?_
                    refine dr_put (d := 105) (v := .d (.fl undef)) rfl (on rfl rfl rfl h17) ?_
                    refine dr_put (d := 106) (v := .d (.fl undef)) rfl (on rfl rfl rfl h17) ?_
                    refine dr_put (d := 107) (v := .d (.fl (.bool false))) rfl (oy rfl rfl rfl (show (decide (i.to < (((ix (enf z i) k))).to)) = false from decide_eq_false (by omega)) (op_pick rfl rfl (by rw [h17]; rfl) rfl)) ?_
                    refine dr_put (d := 108) (v := .d (.fl (.bool false))) rfl (og rfl (op_pick rfl rfl (by rw [(show (decide (i.to < (((ix (enf z i) k))).to)) = false from decide_eq_false (by omega))]; rfl) rfl)) ?_
                    refine dr_done rfl (sepB_of [0, 1, 0, 4, 15, 31, 63, 127, 63, 319, 1023, 2047, 4095, 8191, 16383, 8191, 40959, 131071, 262143, 524287, 1048575, 2097151, 4194303, 8388607, 16777215, 8388607, 8388607, 75497471, 243269631, 511705087, 1048575999, 2147483647, 4294967295, 8589934591] (by kernel_rfl)) (by kernel_rfl) ?_
                    refine a_condF rfl rfl ?_
                    refine a_skip ?_
                    show A _ _ _ _ _ _ _
                    refine a_region ?_
                    refine rg_put (d := 109) (v := .d (.fl (.int .i64 (((k : Int) + 1))))) rfl (og rfl (op_bin rfl rfl rfl (fun x y w => b_add64 _ _ _ x y w (by omega)) rfl)) ?_
                    refine rg_put (d := 70) (v := .d (.fl (.int .i64 (((k : Int) + 1))))) rfl (og rfl (op_move rfl rfl rfl)) ?_
                    refine rg_done rfl ?_
                    show ∃ i, _ ∧ _ ∧ Imp _ _ _ _ _
                    refine ⟨k + 1, (by omega), by omega, imp_forget rfl ⟨rfl, rfl, rfl, rfl, rfl, rfl, rfl, rfl, rfl, rfl, rfl, (ci (by omega)), trivial⟩ ⟨rfl, rfl, trivial⟩⟩
                  · skip
                    have h19 := t_dec h17
                    refine dr_put (d := 98) (v := .pt 103 0) rfl (oy rfl rfl rfl h17 (of_eff (s_field_pt rfl Try.underlying32 rfl ti3 rfl rfl rfl) rfl)) ?_
                    refine dr_put (d := 99) (v := .d (.fl (.int .i64 ((((ix (enf z i) k))).fr)))) rfl (oy rfl rfl rfl h17 (op_load_pt rfl Try.underlying3 rfl rfl rfl rfl rfl)) ?_
                    refine dr_put (d := 100) (v := .d (.sl 2 (List.map eIv (enf z i)))) rfl (oy rfl rfl rfl h17 (op_move rfl rfl rfl)) ?_
                    refine dr_put (d := 101) (v := .d (.fl (.int .i64 (k : Int)))) rfl (oy rfl rfl rfl h17 (op_move rfl rfl rfl)) ?_
                    refine dr_put (d := 102) (v := .d (.fl (.int .i64 (((k : Int) - 1))))) rfl (oy rfl rfl rfl h17 (op_bin rfl rfl rfl (fun x y w => b_sub64 _ _ _ x y w (by omega)) rfl)) ?_
                    refine dr_put (d := 103) (v := .el ((eIv ((ix (enf z i) (((k : Int) - 1)).toNat))))) rfl (oy rfl rfl rfl h17 (s_index rfl Try.underlying34 ti32 rfl rfl (by omega) (row_atI (by omega) (by omega)) rfl)) ?_
                    refine dr_put (d := 104) (v := .el ((List.drop 1 ((eIv ((ix (enf z i) (((k : Int) - 1)).toNat))))))) rfl (oy rfl rfl rfl h17 (of_eff (s_field_el rfl Try.underlying32 rfl ti3 rfl rfl rfl) rfl)) ?_
                    refine dr_put (d := 105) (v := .d (.fl (.int .i64 (((ix (enf z i) (((k : Int) - 1)).toNat)).to)))) rfl (oy rfl rfl rfl h17 (op_load_el rfl Try.underlying3 rfl rfl rfl rfl)) ?_
                    refine dr_put (d := 106) (v := .d (.fl (.bool ((decide ((((ix (enf z i) k))).fr ≤ ((ix (enf z i) (((k : Int) - 1)).toNat)).to)))))) rfl (oy rfl rfl rfl h17 (op_bin rfl rfl rfl (b_leq _ _ _ _) rfl)) ?_
                    refine dr_put (d := 107) (v := .d (.fl (.bool ((decide ((((ix (enf z i) k))).fr ≤ ((ix (enf z i) (((k : Int) - 1)).toNat)).to)))))) rfl (oy rfl rfl rfl (show (decide (i.to < (((ix (enf z i) k))).to)) = false from decide_eq_false (by omega)) (op_pick rfl rfl (by rw [h17]; rfl) rfl)) ?_
                    refine dr_put (d := 108) (v := .d (.fl (.bool ((decide ((((ix (enf z i) k))).fr ≤ ((ix (enf z i) (((k : Int) - 1)).toNat)).to)))))) rfl (og rfl (op_pick rfl rfl (by rw [(show (decide (i.to < (((ix (enf z i) k))).to)) = false from decide_eq_false (by omega))]; rfl) rfl)) ?_
                    refine dr_done rfl (sepB_of [0, 1, 0, 4, 15, 31, 63, 127, 63, 319, 1023, 2047, 4095, 8191, 16383, 8191, 40959, 131071, 262143, 524287, 1048575, 2097151, 4194303, 8388607, 16777215, 8388607, 8388607, 75497471, 243269631, 511705087, 1048575999, 2147483647, 4294967295, 8589934591] (by kernel_rfl)) (by kernel_rfl) ?_
                    refine a_condF rfl (show (decide ((((ix (enf z i) k))).fr ≤ ((ix (enf z i) (((k : Int) - 1)).toNat)).to)) = false from decide_eq_false (fun h => by have h9 := enf_gap (z := z) he (k := k) (by omega) (by omega); rw [show ((k : Int) - 1).toNat = k - 1 by omega] at h; omega)) ?_
                    refine a_skip ?_
                    show A _ _ _ _ _ _ _
                    refine a_region ?_
                    refine rg_put (d := 109) (v := .d (.fl (.int .i64 (((k : Int) + 1))))) rfl (og rfl (op_bin rfl rfl rfl (fun x y w => b_add64 _ _ _ x y w (by omega)) rfl)) ?_
                    refine rg_put (d := 70) (v := .d (.fl (.int .i64 (((k : Int) + 1))))) rfl (og rfl (op_move rfl rfl rfl)) ?_
                    refine rg_done rfl ?_
                    show ∃ i, _ ∧ _ ∧ Imp _ _ _ _ _
                    refine ⟨k + 1, (by omega), by omega, imp_forget rfl ⟨rfl, rfl, rfl, rfl, rfl, rfl, rfl, rfl, rfl, rfl, rfl, (ci (by omega)), trivial⟩ ⟨rfl, rfl, trivial⟩⟩
                · skip
                  have h20 := f_dec h15
                  refine a_exit ?_
                  show A _ _ _ _ _ _ _
                  refine a_rseq ?_
                  refine rg_put (d := 110) (v := .d (.fl (.bool true))) rfl (og rfl (op_call rfl Try.func9 nm9 rfl .nil alive9 rfl)) ?_
                  refine rg_put (d := 6) (v := .d (.fl (.bool true))) rfl (og rfl (op_assign rfl rfl rfl)) ?_
                  refine rg_done rfl ?_
                  refine a_ret ?_
                  show ∃ ds, ResL _ _ _ ds ∧ RV.of ds = _
                  refine ⟨[.fl (.bool true)], (.cons (.tmp rfl (.d _)) .nil), ?_⟩
                  rfl
            · skip
              have h21 := t_dec h10
              refine rg_put (d := 45) (v := .d (.fl undef)) rfl (on rfl rfl rfl h10) ?_
              refine rg_put (d := 46) (v := .d (.fl undef)) rfl (on rfl rfl rfl h10) ?_
              refine rg_put (d := 47) (v := .d (.fl undef)) rfl (on rfl rfl rfl h10) ?_
              refine rg_put (d := 48) (v := .d (.fl undef)) rfl (on rfl rfl rfl h10) ?_
              refine rg_put (d := 49) (v := .d (.fl (.bool true))) rfl (og rfl (op_pick rfl rfl (by rw [h10]; rfl) rfl)) ?_
              refine rg_done rfl ?_
              refine a_condK rfl rfl ?_
              refine a_rseq ?_
              refine rg_put (d := 50) (v := .d (.fl (.bool true))) rfl (og rfl (op_call rfl Try.func9 nm9 rfl .nil alive9 rfl)) ?_
              refine rg_put (d := 6) (v := .d (.fl (.bool true))) rfl (og rfl (op_assign rfl rfl rfl)) ?_
              refine rg_done rfl ?_
              refine a_ret ?_
              show ∃ ds, ResL _ _ _ ds ∧ RV.of ds = _
              refine ⟨[.fl (.bool true)], (.cons (.tmp rfl (.d _)) .nil), ?_⟩
              rfl
          · skip
            have h22 := t_dec h8
            refine rg_put (d := 39) (v := .d (.fl undef)) rfl (on rfl rfl rfl h8) ?_
            refine rg_put (d := 40) (v := .d (.fl undef)) rfl (on rfl rfl rfl h8) ?_
            refine rg_put (d := 41) (v := .d (.fl undef)) rfl (on rfl rfl rfl h8) ?_
            refine rg_put (d := 42) (v := .d (.fl undef)) rfl (on rfl rfl rfl h8) ?_
            refine rg_put (d := 43) (v := .d (.fl (.bool true))) rfl (og rfl (op_pick rfl rfl (by rw [h8]; rfl) rfl)) ?_
            refine rg_put (d := 44) (v := .d (.fl (.bool true))) rfl (og rfl (op_move rfl rfl rfl)) ?_
            refine rg_put (d := 45) (v := .d (.fl undef)) rfl (on rfl rfl rfl rfl) ?_
            refine rg_put (d := 46) (v := .d (.fl undef)) rfl (on rfl rfl rfl rfl) ?_
            refine rg_put (d := 47) (v := .d (.fl undef)) rfl (on rfl rfl rfl rfl) ?_
            refine rg_put (d := 48) (v := .d (.fl undef)) rfl (on rfl rfl rfl rfl) ?_
            refine rg_put (d := 49) (v := .d (.fl (.bool true))) rfl (og rfl (op_pick rfl rfl rfl rfl)) ?_
            refine rg_done rfl ?_
            refine a_condK rfl rfl ?_
            refine a_rseq ?_
            refine rg_put (d := 50) (v := .d (.fl (.bool true))) rfl (og rfl (op_call rfl Try.func9 nm9 rfl .nil alive9 rfl)) ?_
            refine rg_put (d := 6) (v := .d (.fl (.bool true))) rfl (og rfl (op_assign rfl rfl rfl)) ?_
            refine rg_done rfl ?_
            refine a_ret ?_
            show ∃ ds, ResL _ _ _ ds ∧ RV.of ds = _
            refine ⟨[.fl (.bool true)], (.cons (.tmp rfl (.d _)) .nil), ?_⟩
            rfl
        · skip
          have h23 := t_dec h6
          refine rg_put (d := 31) (v := .d (.fl undef)) rfl (on rfl rfl rfl h6) ?_
          refine rg_put (d := 32) (v := .d (.fl undef)) rfl (on rfl rfl rfl h6) ?_
          refine rg_put (d := 33) (v := .d (.fl undef)) rfl (on rfl rfl rfl h6) ?_
          refine rg_put (d := 34) (v := .d (.fl undef)) rfl (on rfl rfl rfl h6) ?_
          refine rg_put (d := 35) (v := .d (.fl undef)) rfl (on rfl rfl rfl h6) ?_
          refine rg_put (d := 36) (v := .d (.fl undef)) rfl (on rfl rfl rfl h6) ?_
          refine rg_put (d := 37) (v := .d (.fl (.bool true))) rfl (og rfl (op_pick rfl rfl (by rw [h6]; rfl) rfl)) ?_
          refine rg_put (d := 38) (v := .d (.fl (.bool true))) rfl (og rfl (op_move rfl rfl rfl)) ?_
          refine rg_put (d := 39) (v := .d (.fl undef)) rfl (on rfl rfl rfl rfl) ?_
          refine rg_put (d := 40) (v := .d (.fl undef)) rfl (on rfl rfl rfl rfl) ?_
          refine rg_put (d := 41) (v := .d (.fl undef)) rfl (on rfl rfl rfl rfl) ?_
          refine rg_put (d := 42) (v := .d (.fl undef)) rfl (on rfl rfl rfl rfl) ?_
          refine rg_put (d := 43) (v := .d (.fl (.bool true))) rfl (og rfl (op_pick rfl rfl rfl rfl)) ?_
          refine rg_put (d := 44) (v := .d (.fl (.bool true))) rfl (og rfl (op_move rfl rfl rfl)) ?_
          refine rg_put (d := 45) (v := .d (.fl undef)) rfl (on rfl rfl rfl rfl) ?_
          refine rg_put (d := 46) (v := .d (.fl undef)) rfl (on rfl rfl rfl rfl) ?_
          refine rg_put (d := 47) (v := .d (.fl undef)) rfl (on rfl rfl rfl rfl) ?_
          refine rg_put (d := 48) (v := .d (.fl undef)) rfl (on rfl rfl rfl rfl) ?_
          refine rg_put (d := 49) (v := .d (.fl (.bool true))) rfl (og rfl (op_pick rfl rfl rfl rfl)) ?_
          refine rg_done rfl ?_
          refine a_condK rfl rfl ?_
          refine a_rseq ?_
          refine rg_put (d := 50) (v := .d (.fl (.bool true))) rfl (og rfl (op_call rfl Try.func9 nm9 rfl .nil alive9 rfl)) ?_
          refine rg_put (d := 6) (v := .d (.fl (.bool true))) rfl (og rfl (op_assign rfl rfl rfl)) ?_
          refine rg_done rfl ?_
          refine a_ret ?_
          show ∃ ds, ResL _ _ _ ds ∧ RV.of ds = _
          refine ⟨[.fl (.bool true)], (.cons (.tmp rfl (.d _)) .nil), ?_⟩
          rfl
      · skip
        have h24 := t_dec h4
        refine rg_put (d := 26) (v := .d (.fl undef)) rfl (on rfl rfl rfl h4) ?_
        refine rg_put (d := 27) (v := .d (.fl undef)) rfl (on rfl rfl rfl h4) ?_
        refine rg_put (d := 28) (v := .d (.fl undef)) rfl (on rfl rfl rfl h4) ?_
        refine rg_put (d := 29) (v := .d (.fl (.bool true))) rfl (og rfl (op_pick rfl rfl (by rw [h4]; rfl) rfl)) ?_
        refine rg_put (d := 30) (v := .d (.fl (.bool true))) rfl (og rfl (op_move rfl rfl rfl)) ?_
        refine rg_put (d := 31) (v := .d (.fl undef)) rfl (on rfl rfl rfl rfl) ?_
        refine rg_put (d := 32) (v := .d (.fl undef)) rfl (on rfl rfl rfl rfl) ?_
        refine rg_put (d := 33) (v := .d (.fl undef)) rfl (on rfl rfl rfl rfl) ?_
        refine rg_put (d := 34) (v := .d (.fl undef)) rfl (on rfl rfl rfl rfl) ?_
        refine rg_put (d := 35) (v := .d (.fl undef)) rfl (on rfl rfl rfl rfl) ?_
        refine rg_put (d := 36) (v := .d (.fl undef)) rfl (on rfl rfl rfl rfl) ?_
        refine rg_put (d := 37) (v := .d (.fl (.bool true))) rfl (og rfl (op_pick rfl rfl rfl rfl)) ?_
        refine rg_put (d := 38) (v := .d (.fl (.bool true))) rfl (og rfl (op_move rfl rfl rfl)) ?_
        refine rg_put (d := 39) (v := .d (.fl undef)) rfl (on rfl rfl rfl rfl) ?_
        refine rg_put (d := 40) (v := .d (.fl undef)) rfl (on rfl rfl rfl rfl) ?_
        refine rg_put (d := 41) (v := .d (.fl undef)) rfl (on rfl rfl rfl rfl) ?_
        refine rg_put (d := 42) (v := .d (.fl undef)) rfl (on rfl rfl rfl rfl) ?_
        refine rg_put (d := 43) (v := .d (.fl (.bool true))) rfl (og rfl (op_pick rfl rfl rfl rfl)) ?_
        refine rg_put (d := 44) (v := .d (.fl (.bool true))) rfl (og rfl (op_move rfl rfl rfl)) ?_
        refine rg_put (d := 45) (v := .d (.fl undef)) rfl (on rfl rfl rfl rfl) ?_
        refine rg_put (d := 46) (v := .d (.fl undef)) rfl (on rfl rfl rfl rfl) ?_
        refine rg_put (d := 47) (v := .d (.fl undef)) rfl (on rfl rfl rfl rfl) ?_
        refine rg_put (d := 48) (v := .d (.fl undef)) rfl (on rfl rfl rfl rfl) ?_
        refine rg_put (d := 49) (v := .d (.fl (.bool true))) rfl (og rfl (op_pick rfl rfl rfl rfl)) ?_
        refine rg_done rfl ?_
        refine a_condK rfl rfl ?_
        refine a_rseq ?_
        refine rg_put (d := 50) (v := .d (.fl (.bool true))) rfl (og rfl (op_call rfl Try.func9 nm9 rfl .nil alive9 rfl)) ?_
        refine rg_put (d := 6) (v := .d (.fl (.bool true))) rfl (og rfl (op_assign rfl rfl rfl)) ?_
        refine rg_done rfl ?_
        refine a_ret ?_
        show ∃ ds, ResL _ _ _ ds ∧ RV.of ds = _
        refine ⟨[.fl (.bool true)], (.cons (.tmp rfl (.d _)) .nil), ?_⟩
        rfl
    · skip
      have h25 := t_dec h2
      refine rg_put (d := 19) (v := .d (.fl undef)) rfl (on rfl rfl rfl h2) ?_
      refine rg_put (d := 20) (v := .d (.fl undef)) rfl (on rfl rfl rfl h2) ?_
      refine rg_put (d := 21) (v := .d (.fl undef)) rfl (on rfl rfl rfl h2) ?_
      refine rg_put (d := 22) (v := .d (.fl undef)) rfl (on rfl rfl rfl h2) ?_
      refine rg_put (d := 23) (v := .d (.fl undef)) rfl (on rfl rfl rfl h2) ?_
      refine rg_put (d := 24) (v := .d (.fl (.bool true))) rfl (og rfl (op_pick rfl rfl (by rw [h2]; rfl) rfl)) ?_
      refine rg_put (d := 25) (v := .d (.fl (.bool true))) rfl (og rfl (op_move rfl rfl rfl)) ?_
      refine rg_put (d := 26) (v := .d (.fl undef)) rfl (on rfl rfl rfl rfl) ?_
      refine rg_put (d := 27) (v := .d (.fl undef)) rfl (on rfl rfl rfl rfl) ?_
      refine rg_put (d := 28) (v := .d (.fl undef)) rfl (on rfl rfl rfl rfl) ?_
      refine rg_put (d := 29) (v := .d (.fl (.bool true))) rfl (og rfl (op_pick rfl rfl rfl rfl)) ?_
      refine rg_put (d := 30) (v := .d (.fl (.bool true))) rfl (og rfl (op_move rfl rfl rfl)) ?_
      refine rg_put (d := 31) (v := .d (.fl undef)) rfl (on rfl rfl rfl rfl) ?_
      refine rg_put (d := 32) (v := .d (.fl undef)) rfl (on rfl rfl rfl rfl) ?_
      refine rg_put (d := 33) (v := .d (.fl undef)) rfl (on rfl rfl rfl rfl) ?_
      refine rg_put (d := 34) (v := .d (.fl undef)) rfl (on rfl rfl rfl rfl) ?_
      refine rg_put (d := 35) (v := .d (.fl undef)) rfl (on rfl rfl rfl rfl) ?_
      refine rg_put (d := 36) (v := .d (.fl undef)) rfl (on rfl rfl rfl rfl) ?_
      refine rg_put (d := 37) (v := .d (.fl (.bool true))) rfl (og rfl (op_pick rfl rfl rfl rfl)) ?_
      refine rg_put (d := 38) (v := .d (.fl (.bool true))) rfl (og rfl (op_move rfl rfl rfl)) ?_
      refine rg_put (d := 39) (v := .d (.fl undef)) rfl (on rfl rfl rfl rfl) ?_
      refine rg_put (d := 40) (v := .d (.fl undef)) rfl (on rfl rfl rfl rfl) ?_
      refine rg_put (d := 41) (v := .d (.fl undef)) rfl (on rfl rfl rfl rfl) ?_
      refine rg_put (d := 42) (v := .d (.fl undef)) rfl (on rfl rfl rfl rfl) ?_
      refine rg_put (d := 43) (v := .d (.fl (.bool true))) rfl (og rfl (op_pick rfl rfl rfl rfl)) ?_
      refine rg_put (d := 44) (v := .d (.fl (.bool true))) rfl (og rfl (op_move rfl rfl rfl)) ?_
      refine rg_put (d := 45) (v := .d (.fl undef)) rfl (on rfl rfl rfl rfl) ?_
      refine rg_put (d := 46) (v := .d (.fl undef)) rfl (on rfl rfl rfl rfl) ?_
      refine rg_put (d := 47) (v := .d (.fl undef)) rfl (on rfl rfl rfl rfl) ?_
      refine rg_put (d := 48) (v := .d (.fl undef)) rfl (on rfl rfl rfl rfl) ?_
      refine rg_put (d := 49) (v := .d (.fl (.bool true))) rfl (og rfl (op_pick rfl rfl rfl rfl)) ?_
      refine rg_done rfl ?_
      refine a_condK rfl rfl ?_
      refine a_rseq ?_
      refine rg_put (d := 50) (v := .d (.fl (.bool true))) rfl (og rfl (op_call rfl Try.func9 nm9 rfl .nil alive9 rfl)) ?_
      refine rg_put (d := 6) (v := .d (.fl (.bool true))) rfl (og rfl (op_assign rfl rfl rfl)) ?_
      refine rg_done rfl ?_
      refine a_ret ?_
      show ∃ ds, ResL _ _ _ ds ∧ RV.of ds = _
      refine ⟨[.fl (.bool true)], (.cons (.tmp rfl (.d _)) .nil), ?_⟩
      rfl
  · skip
    refine rg_put (d := 14) (v := .d (.fl undef)) rfl (on rfl rfl rfl h1) ?_
    refine rg_put (d := 15) (v := .d (.fl undef)) rfl (on rfl rfl rfl h1) ?_
    refine rg_put (d := 16) (v := .d (.fl undef)) rfl (on rfl rfl rfl h1) ?_
    refine rg_put (d := 17) (v := .d (.fl (.bool true))) rfl (og rfl (op_pick rfl rfl (by rw [h1]; rfl) rfl)) ?_
    refine rg_put (d := 18) (v := .d (.fl (.bool true))) rfl (og rfl (op_move rfl rfl rfl)) ?_
    refine rg_put (d := 19) (v := .d (.fl undef)) rfl (on rfl rfl rfl rfl) ?_
    refine rg_put (d := 20) (v := .d (.fl undef)) rfl (on rfl rfl rfl rfl) ?_
    refine rg_put (d := 21) (v := .d (.fl undef)) rfl (on rfl rfl rfl rfl) ?_
    refine rg_put (d := 22) (v := .d (.fl undef)) rfl (on rfl rfl rfl rfl) ?_
    refine rg_put (d := 23) (v := .d (.fl undef)) rfl (on rfl rfl rfl rfl) ?_
    refine rg_put (d := 24) (v := .d (.fl (.bool true))) rfl (og rfl (op_pick rfl rfl rfl rfl)) ?_
    refine rg_put (d := 25) (v := .d (.fl (.bool true))) rfl (og rfl (op_move rfl rfl rfl)) ?_
    refine rg_put (d := 26) (v := .d (.fl undef)) rfl (on rfl rfl rfl rfl) ?_
    refine rg_put (d := 27) (v := .d (.fl undef)) rfl (on rfl rfl rfl rfl) ?_
    refine rg_put (d := 28) (v := .d (.fl undef)) rfl (on rfl rfl rfl rfl) ?_
    refine rg_put (d := 29) (v := .d (.fl (.bool true))) rfl (og rfl (op_pick rfl rfl rfl rfl)) ?_
    refine rg_put (d := 30) (v := .d (.fl (.bool true))) rfl (og rfl (op_move rfl rfl rfl)) ?_
    refine rg_put (d := 31) (v := .d (.fl undef)) rfl (on rfl rfl rfl rfl) ?_
    refine rg_put (d := 32) (v := .d (.fl undef)) rfl (on rfl rfl rfl rfl) ?_
    refine rg_put (d := 33) (v := .d (.fl undef)) rfl (on rfl rfl rfl rfl) ?_
    refine rg_put (d := 34) (v := .d (.fl undef)) rfl (on rfl rfl rfl rfl) ?_
    refine rg_put (d := 35) (v := .d (.fl undef)) rfl (on rfl rfl rfl rfl) ?_
    refine rg_put (d := 36) (v := .d (.fl undef)) rfl (on rfl rfl rfl rfl) ?_
    refine rg_put (d := 37) (v := .d (.fl (.bool true))) rfl (og rfl (op_pick rfl rfl rfl rfl)) ?_
    refine rg_put (d := 38) (v := .d (.fl (.bool true))) rfl (og rfl (op_move rfl rfl rfl)) ?_
    refine rg_put (d := 39) (v := .d (.fl undef)) rfl (on rfl rfl rfl rfl) ?_
    refine rg_put (d := 40) (v := .d (.fl undef)) rfl (on rfl rfl rfl rfl) ?_
    refine rg_put (d := 41) (v := .d (.fl undef)) rfl (on rfl rfl rfl rfl) ?_
    refine rg_put (d := 42) (v := .d (.fl undef)) rfl (on rfl rfl rfl rfl) ?_
    refine rg_put (d := 43) (v := .d (.fl (.bool true))) rfl (og rfl (op_pick rfl rfl rfl rfl)) ?_
    refine rg_put (d := 44) (v := .d (.fl (.bool true))) rfl (og rfl (op_move rfl rfl rfl)) ?_
    refine rg_put (d := 45) (v := .d (.fl undef)) rfl (on rfl rfl rfl rfl) ?_
    refine rg_put (d := 46) (v := .d (.fl undef)) rfl (on rfl rfl rfl rfl) ?_
    refine rg_put (d := 47) (v := .d (.fl undef)) rfl (on rfl rfl rfl rfl) ?_
    refine rg_put (d := 48) (v := .d (.fl undef)) rfl (on rfl rfl rfl rfl) ?_
    refine rg_put (d := 49) (v := .d (.fl (.bool true))) rfl (og rfl (op_pick rfl rfl rfl rfl)) ?_
    refine rg_done rfl ?_
    refine a_condK rfl rfl ?_
    refine a_rseq ?_
    refine rg_put (d := 50) (v := .d (.fl (.bool true))) rfl (og rfl (op_call rfl Try.func9 nm9 rfl .nil alive9 rfl)) ?_
    refine rg_put (d := 6) (v := .d (.fl (.bool true))) rfl (og rfl (op_assign rfl rfl rfl)) ?_
    refine rg_done rfl ?_
    refine a_ret ?_
    show ∃ ds, ResL _ _ _ ds ∧ RV.of ds = _
    refine ⟨[.fl (.bool true)], (.cons (.tmp rfl (.d _)) .nil), ?_⟩
    rfl
set_option maxHeartbeats 4000000 in
set_option maxRecDepth 100000 in
theorem law6 (z : Zn) (i : Ivl) (t : Int) : Ctr Try.prog 6 [.ag (eZn z), .ag (eIv i), .fl (.int .i64 t)] (.d (.fl (.bool true))) := by
  refine ctr (n := 100) (rs := #[.tmp 6]) (L := [(0, .d (.ag (eZn z))), (1, .d (.ag (eIv i))), (2, .d (.fl (.int .i64 t)))]) Try.func6 rfl rfl rfl rfl rfl (fun w0 U0 => ?_)
  refine a_rseq ?_
  refine rg_nam (d := 3) (v := .pt 101 0) (m := 101) (nw := [(101, .bx 25 (eZn z))]) rfl (og rfl (of_eff (op_box 101 rfl rfl rfl rfl) rfl)) rfl ?_
  refine rg_nam (d := 4) (v := .pt 102 0) (m := 102) (nw := [(102, .bx 32 (eIv i))]) rfl (og rfl (of_eff (op_box 102 rfl rfl rfl rfl) rfl)) rfl ?_
  refine rg_put (d := 6) (v := .d (.fl (.bool false))) rfl (og rfl (op_assign rfl rfl rfl)) ?_
  refine rg_done rfl ?_
  refine a_seq ?_
  refine a_rseq ?_
  refine rg_put (d := 13) (v := .d (.ag (eZn z))) rfl (og rfl (of_eff (s_load_pts rfl Try.underlying25 rfl ti25 rfl rfl rfl rfl) rfl)) ?_
  refine rg_put (d := 14) (v := .d (.fl (.bool (grt z)))) rfl (og rfl (op_call rfl Try.func8 nm8 rfl (.cons rfl (.d _) .nil) (grt6 z) rfl)) ?_
  refine rg_put (d := 15) (v := .d (.fl (.bool (grt z)))) rfl (og rfl (op_move rfl rfl rfl)) ?_
  rcases fot (grt z) with h1 | h1
  · skip
    refine rg_put (d := 16) (v := .pt 102 0) rfl (oy rfl rfl rfl h1 (of_eff (s_field_pt rfl Try.underlying32 rfl ti3 rfl rfl rfl) rfl)) ?_
    refine rg_put (d := 17) (v := .d (.fl (.int .i64 i.fr))) rfl (oy rfl rfl rfl h1 (op_load_pt rfl Try.underlying3 rfl rfl rfl rfl rfl)) ?_
    refine rg_put (d := 18) (v := .d (.fl (.bool ((decide (i.fr < 0)))))) rfl (oy rfl rfl rfl h1 (op_bin rfl rfl rfl (b_lss _ _ _ _) rfl)) ?_
    refine rg_put (d := 19) (v := .d (.fl (.bool ((decide (i.fr < 0)))))) rfl (og rfl (op_pick rfl rfl (by rw [h1]; rfl) rfl)) ?_
    refine rg_put (d := 20) (v := .d (.fl (.bool ((decide (i.fr < 0)))))) rfl (og rfl (op_move rfl rfl rfl)) ?_
    rcases fot ((decide (i.fr < 0))) with h2 | h2
    · skip
      have h3 := f_dec h2
      refine rg_put (d := 21) (v := .pt 102 0) rfl (oy rfl rfl rfl h2 (of_eff (s_field_pt rfl Try.underlying32 rfl ti3 rfl rfl rfl) rfl)) ?_
      refine rg_put (d := 22) (v := .d (.fl (.int .i64 i.fr))) rfl (oy rfl rfl rfl h2 (op_load_pt rfl Try.underlying3 rfl rfl rfl rfl rfl)) ?_
      refine rg_put (d := 23) (v := .pt 102 1) rfl (oy rfl rfl rfl h2 (of_eff (s_field_pt rfl Try.underlying32 rfl ti3 rfl rfl rfl) rfl)) ?_
      refine rg_put (d := 24) (v := .d (.fl (.int .i64 i.to))) rfl (oy rfl rfl rfl h2 (op_load_pt rfl Try.underlying3 rfl rfl rfl rfl rfl)) ?_
      refine rg_put (d := 25) (v := .d (.fl (.bool ((decide (i.to ≤ i.fr)))))) rfl (oy rfl rfl rfl h2 (op_bin rfl rfl rfl (b_geq _ _ _ _) rfl)) ?_
      refine rg_put (d := 26) (v := .d (.fl (.bool ((decide (i.to ≤ i.fr)))))) rfl (og rfl (op_pick rfl rfl (by rw [h2]; rfl) rfl)) ?_
      refine rg_put (d := 27) (v := .d (.fl (.bool ((decide (i.to ≤ i.fr)))))) rfl (og rfl (op_move rfl rfl rfl)) ?_
      rcases fot ((decide (i.to ≤ i.fr))) with h4 | h4
      · skip
        have h5 := f_dec h4
        refine rg_put (d := 28) (v := .pt 102 1) rfl (oy rfl rfl rfl h4 (of_eff (s_field_pt rfl Try.underlying32 rfl ti3 rfl rfl rfl) rfl)) ?_
        refine rg_put (d := 29) (v := .d (.fl (.int .i64 i.to))) rfl (oy rfl rfl rfl h4 (op_load_pt rfl Try.underlying3 rfl rfl rfl rfl rfl)) ?_
        refine rg_put (d := 30) (v := .d (.fl (.bool ((decide (68719476736 < i.to)))))) rfl (oy rfl rfl rfl h4 (op_bin rfl rfl rfl (b_gtr _ _ _ _) rfl)) ?_
        refine rg_put (d := 31) (v := .d (.fl (.bool ((decide (68719476736 < i.to)))))) rfl (og rfl (op_pick rfl rfl (by rw [h4]; rfl) rfl)) ?_
        refine rg_put (d := 32) (v := .d (.fl (.bool ((decide (68719476736 < i.to)))))) rfl (og rfl (op_move rfl rfl rfl)) ?_
        rcases fot ((decide (68719476736 < i.to))) with h6 | h6
        · skip
          have h7 := f_dec h6
          refine rg_put (d := 33) (v := .pt 102 1) rfl (oy rfl rfl rfl h6 (of_eff (s_field_pt rfl Try.underlying32 rfl ti3 rfl rfl rfl) rfl)) ?_
          refine rg_put (d := 34) (v := .d (.fl (.int .i64 i.to))) rfl (oy rfl rfl rfl h6 (op_load_pt rfl Try.underlying3 rfl rfl rfl rfl rfl)) ?_
          refine rg_put (d := 35) (v := .pt 102 0) rfl (oy rfl rfl rfl h6 (of_eff (s_field_pt rfl Try.underlying32 rfl ti3 rfl rfl rfl) rfl)) ?_
          refine rg_put (d := 36) (v := .d (.fl (.int .i64 i.fr))) rfl (oy rfl rfl rfl h6 (op_load_pt rfl Try.underlying3 rfl rfl rfl rfl rfl)) ?_
          refine rg_put (d := 37) (v := .d (.fl (.int .i64 (i.to - i.fr)))) rfl (oy rfl rfl rfl h6 (op_bin rfl rfl rfl (fun x y w => b_sub64 _ _ _ x y w (by omega)) rfl)) ?_
          refine rg_put (d := 38) (v := .d (.fl (.bool ((decide (2592000 < (i.to - i.fr))))))) rfl (oy rfl rfl rfl h6 (op_bin rfl rfl rfl (b_gtr _ _ _ _) rfl)) ?_
          refine rg_put (d := 39) (v := .d (.fl (.bool ((decide (2592000 < (i.to - i.fr))))))) rfl (og rfl (op_pick rfl rfl (by rw [h6]; rfl) rfl)) ?_
          refine rg_put (d := 40) (v := .d (.fl (.bool ((decide (2592000 < (i.to - i.fr))))))) rfl (og rfl (op_move rfl rfl rfl)) ?_
          rcases fot ((decide (2592000 < (i.to - i.fr)))) with h8 | h8
          · skip
            have h9 := f_dec h8
            refine rg_put (d := 41) (v := .d (.fl (.int .i64 t))) rfl (oy rfl rfl rfl h8 (op_move rfl rfl rfl)) ?_
            refine rg_put (d := 42) (v := .pt 102 0) rfl (oy rfl rfl rfl h8 (of_eff (s_field_pt rfl Try.underlying32 rfl ti3 rfl rfl rfl) rfl)) ?_
            refine rg_put (d := 43) (v := .d (.fl (.int .i64 i.fr))) rfl (oy rfl rfl rfl h8 (op_load_pt rfl Try.underlying3 rfl rfl rfl rfl rfl)) ?_
            refine rg_put (d := 44) (v := .d (.fl (.bool ((decide (t ≤ i.fr)))))) rfl (oy rfl rfl rfl h8 (op_bin rfl rfl rfl (b_leq _ _ _ _) rfl)) ?_
            refine rg_put (d := 45) (v := .d (.fl (.bool ((decide (t ≤ i.fr)))))) rfl (og rfl (op_pick rfl rfl (by rw [h8]; rfl) rfl)) ?_
            refine rg_put (d := 46) (v := .d (.fl (.bool ((decide (t ≤ i.fr)))))) rfl (og rfl (op_move rfl rfl rfl)) ?_
            rcases fot ((decide (t ≤ i.fr))) with h10 | h10
            · skip
              have h11 := f_dec h10
              refine rg_put (d := 47) (v := .d (.fl (.int .i64 t))) rfl (oy rfl rfl rfl h10 (op_move rfl rfl rfl)) ?_
              refine rg_put (d := 48) (v := .pt 102 1) rfl (oy rfl rfl rfl h10 (of_eff (s_field_pt rfl Try.underlying32 rfl ti3 rfl rfl rfl) rfl)) ?_
              refine rg_put (d := 49) (v := .d (.fl (.int .i64 i.to))) rfl (oy rfl rfl rfl h10 (op_load_pt rfl Try.underlying3 rfl rfl rfl rfl rfl)) ?_
              refine rg_put (d := 50) (v := .d (.fl (.bool ((decide (i.to ≤ t)))))) rfl (oy rfl rfl rfl h10 (op_bin rfl rfl rfl (b_geq _ _ _ _) rfl)) ?_
              refine rg_put (d := 51) (v := .d (.fl (.bool ((decide (i.to ≤ t)))))) rfl (og rfl (op_pick rfl rfl (by rw [h10]; rfl) rfl)) ?_
              refine rg_done rfl ?_
              refine a_cond rfl (fun h12 => ?_) (fun h12 => ?_)
              · skip
                have h13 := t_dec h12
                refine a_rseq ?_
                refine rg_put (d := 52) (v := .d (.fl (.bool true))) rfl (og rfl (op_call rfl Try.func9 nm9 rfl .nil alive9 rfl)) ?_
                refine rg_put (d := 6) (v := .d (.fl (.bool true))) rfl (og rfl (op_assign rfl rfl rfl)) ?_
                refine rg_done rfl ?_
                refine a_ret ?_
                show ∃ ds, ResL _ _ _ ds ∧ RV.of ds = _
                refine ⟨[.fl (.bool true)], (.cons (.tmp rfl (.d _)) .nil), ?_⟩
                rfl
              · skip
                have h14 := f_dec h12
                refine a_skip ?_
                show A _ _ _ _ _ _ _
                refine a_rseq ?_
                obtain ⟨he1, he2, he3, hj⟩ := enf_join (z := z) (a := i.fr) (b := i.to) (t := t) (by omega) (by omega) (by omega) (by omega) (by omega)
                have hei : spE i = 0 := he3
                have hj : tot (enf z i) = _ := hj
                refine rg_put (d := 54) (v := .d (.ag (eZn z))) rfl (og rfl (of_eff (s_load_pts rfl Try.underlying25 rfl ti25 rfl rfl rfl rfl) rfl)) ?_
                refine rg_put (d := 55) (v := .pt 102 0) rfl (og rfl (of_eff (s_field_pt rfl Try.underlying32 rfl ti3 rfl rfl rfl) rfl)) ?_
                refine rg_put (d := 56) (v := .d (.fl (.int .i64 i.fr))) rfl (og rfl (op_load_pt rfl Try.underlying3 rfl rfl rfl rfl rfl)) ?_
                refine rg_put (d := 57) (v := .d (.fl (.int .i64 t))) rfl (og rfl (op_move rfl rfl rfl)) ?_
                refine rg_put (d := 58) (v := .d (.ag (eIv (Ivl.mk i.fr t)))) rfl (og rfl (of_eff (op_build rfl Try.underlying32 ti32 rfl (by kernel_rfl) (by kernel_rfl) (pl := #[(0, 1), (1, 1)]) (by kernel_rfl) (.cons rfl rfl (.d _) rfl rfl rfl (.cons rfl rfl (.d _) rfl rfl rfl .nil)) rfl) rfl)) ?_
                refine rg_put (d := 59) (v := .tu [.sl 2 (List.map eIv ((enf z (Ivl.mk i.fr t)))), .fl (.int .i64 ((spE (Ivl.mk i.fr t))))]) rfl (og rfl (op_call rfl Try.func15 nm15 rfl (.cons rfl (.d _) (.cons rfl (.d _) .nil)) (enf15 z (Ivl.mk i.fr t) (grt_f h1).1) rfl)) ?_
                refine rg_put (d := 53) (v := .tu [.sl 2 (List.map eIv ((enf z (Ivl.mk i.fr t)))), .fl (.int .i64 ((spE (Ivl.mk i.fr t))))]) rfl (og rfl (op_move rfl rfl rfl)) ?_
                refine rg_put (d := 60) (v := .d (.sl 2 (List.map eIv ((enf z (Ivl.mk i.fr t)))))) rfl (og rfl (op_extract rfl rfl rfl rfl)) ?_
                refine rg_put (d := 61) (v := .d (.fl (.int .i64 ((spE (Ivl.mk i.fr t)))))) rfl (og rfl (op_extract rfl rfl rfl rfl)) ?_
                refine rg_put (d := 7) (v := .d (.sl 2 (List.map eIv ((enf z (Ivl.mk i.fr t)))))) rfl (og rfl (op_assign rfl rfl rfl)) ?_
                refine rg_put (d := 8) (v := .d (.fl (.int .i64 ((spE (Ivl.mk i.fr t)))))) rfl (og rfl (op_assign rfl rfl rfl)) ?_
                refine rg_done rfl ?_
                refine a_rseq ?_
                refine rg_put (d := 63) (v := .d (.ag (eZn z))) rfl (og rfl (of_eff (s_load_pts rfl Try.underlying25 rfl ti25 rfl rfl rfl rfl) rfl)) ?_
                refine rg_put (d := 64) (v := .d (.fl (.int .i64 t))) rfl (og rfl (op_move rfl rfl rfl)) ?_
                refine rg_put (d := 65) (v := .pt 102 1) rfl (og rfl (of_eff (s_field_pt rfl Try.underlying32 rfl ti3 rfl rfl rfl) rfl)) ?_
                refine rg_put (d := 66) (v := .d (.fl (.int .i64 i.to))) rfl (og rfl (op_load_pt rfl Try.underlying3 rfl rfl rfl rfl rfl)) ?_
                refine rg_put (d := 67) (v := .d (.ag (eIv (Ivl.mk t i.to)))) rfl (og rfl (of_eff (op_build rfl Try.underlying32 ti32 rfl (by kernel_rfl) (by kernel_rfl) (pl := #[(0, 1), (1, 1)]) (by kernel_rfl) (.cons rfl rfl (.d _) rfl rfl rfl (.cons rfl rfl (.d _) rfl rfl rfl .nil)) rfl) rfl)) ?_
                refine rg_put (d := 68) (v := .tu [.sl 2 (List.map eIv ((enf z (Ivl.mk t i.to)))), .fl (.int .i64 ((spE (Ivl.mk t i.to))))]) rfl (og rfl (op_call rfl Try.func15 nm15 rfl (.cons rfl (.d _) (.cons rfl (.d _) .nil)) (enf15 z (Ivl.mk t i.to) (grt_f h1).1) rfl)) ?_
                refine rg_put (d := 62) (v := .tu [.sl 2 (List.map eIv ((enf z (Ivl.mk t i.to)))), .fl (.int .i64 ((spE (Ivl.mk t i.to))))]) rfl (og rfl (op_move rfl rfl rfl)) ?_
                refine rg_put (d := 69) (v := .d (.sl 2 (List.map eIv ((enf z (Ivl.mk t i.to)))))) rfl (og rfl (op_extract rfl rfl rfl rfl)) ?_
                refine rg_put (d := 70) (v := .d (.fl (.int .i64 ((spE (Ivl.mk t i.to)))))) rfl (og rfl (op_extract rfl rfl rfl rfl)) ?_
                refine rg_put (d := 9) (v := .d (.sl 2 (List.map eIv ((enf z (Ivl.mk t i.to)))))) rfl (og rfl (op_assign rfl rfl rfl)) ?_
                refine rg_put (d := 10) (v := .d (.fl (.int .i64 ((spE (Ivl.mk t i.to)))))) rfl (og rfl (op_assign rfl rfl rfl)) ?_
                refine rg_done rfl ?_
                refine a_rseq ?_
                refine rg_put (d := 72) (v := .d (.ag (eZn z))) rfl (og rfl (of_eff (s_load_pts rfl Try.underlying25 rfl ti25 rfl rfl rfl rfl) rfl)) ?_
                refine rg_put (d := 73) (v := .d (.ag (eIv i))) rfl (og rfl (of_eff (s_load_pts rfl Try.underlying32 rfl ti32 rfl rfl rfl rfl) rfl)) ?_
                refine rg_put (d := 74) (v := .tu [.sl 2 (List.map eIv (enf z i)), .fl (.int .i64 (spE i))]) rfl (og rfl (op_call rfl Try.func15 nm15 rfl (.cons rfl (.d _) (.cons rfl (.d _) .nil)) (enf15 z i (grt_f h1).1) rfl)) ?_
                refine rg_put (d := 71) (v := .tu [.sl 2 (List.map eIv (enf z i)), .fl (.int .i64 (spE i))]) rfl (og rfl (op_move rfl rfl rfl)) ?_
                refine rg_put (d := 75) (v := .d (.sl 2 (List.map eIv (enf z i)))) rfl (og rfl (op_extract rfl rfl rfl rfl)) ?_
                refine rg_put (d := 76) (v := .d (.fl (.int .i64 (spE i)))) rfl (og rfl (op_extract rfl rfl rfl rfl)) ?_
                refine rg_put (d := 11) (v := .d (.sl 2 (List.map eIv (enf z i)))) rfl (og rfl (op_assign rfl rfl rfl)) ?_
                refine rg_put (d := 12) (v := .d (.fl (.int .i64 (spE i)))) rfl (og rfl (op_assign rfl rfl rfl)) ?_
                refine rg_done rfl ?_
                refine a_rseq ?_
                have hbhei := enf_T (z := z) hei (k := (enf z i).length)
                rw [List.take_length] at hbhei
                have hbhe1 := enf_T (z := z) he1 (k := (enf z ⟨i.fr, t⟩).length)
                rw [List.take_length] at hbhe1
                have hbhe2 := enf_T (z := z) he2 (k := (enf z ⟨t, i.to⟩).length)
                rw [List.take_length] at hbhe2
                refine rg_put (d := 77) (v := .d (.fl (.int .i64 ((spE (Ivl.mk i.fr t)))))) rfl (og rfl (op_move rfl rfl rfl)) ?_
                refine rg_put (d := 78) (v := .d (.fl (.bool (((spE (Ivl.mk i.fr t)) == 0))))) rfl (og rfl (op_bin rfl rfl rfl (b_eql _ _ _ _) rfl)) ?_
                refine rg_put (d := 79) (v := .d (.fl (.bool (((spE (Ivl.mk i.fr t)) == 0))))) rfl (og rfl (op_move rfl rfl rfl)) ?_
                refine rg_put (d := 80) (v := .d (.fl (.int .i64 ((spE (Ivl.mk t i.to)))))) rfl (oy rfl rfl rfl (show (((spE (Ivl.mk i.fr t)) == 0)) = true from by rw [he1]; rfl) (op_move rfl rfl rfl)) ?_
                refine rg_put (d := 81) (v := .d (.fl (.bool (((spE (Ivl.mk t i.to)) == 0))))) rfl (oy rfl rfl rfl (show (((spE (Ivl.mk i.fr t)) == 0)) = true from by rw [he1]; rfl) (op_bin rfl rfl rfl (b_eql _ _ _ _) rfl)) ?_
                refine rg_put (d := 82) (v := .d (.fl (.bool (((spE (Ivl.mk t i.to)) == 0))))) rfl (og rfl (op_pick rfl rfl (by rw [(show (((spE (Ivl.mk i.fr t)) == 0)) = true from by rw [he1]; rfl)]; rfl) rfl)) ?_
                refine rg_put (d := 83) (v := .d (.fl (.bool (((spE (Ivl.mk t i.to)) == 0))))) rfl (og rfl (op_move rfl rfl rfl)) ?_
                refine rg_put (d := 84) (v := .d (.fl (.int .i64 (spE i)))) rfl (oy rfl rfl rfl (show (((spE (Ivl.mk t i.to)) == 0)) = true from by rw [he2]; rfl) (op_move rfl rfl rfl)) ?_
                refine rg_put (d := 85) (v := .d (.fl (.bool (((spE i) == 0))))) rfl (oy rfl rfl rfl (show (((spE (Ivl.mk t i.to)) == 0)) = true from by rw [he2]; rfl) (op_bin rfl rfl rfl (b_eql _ _ _ _) rfl)) ?_
                refine rg_put (d := 86) (v := .d (.fl (.bool (((spE i) == 0))))) rfl (og rfl (op_pick rfl rfl (by rw [(show (((spE (Ivl.mk t i.to)) == 0)) = true from by rw [he2]; rfl)]; rfl) rfl)) ?_
                refine rg_put (d := 87) (v := .d (.fl (.bool (((spE i) == 0))))) rfl (og rfl (op_move rfl rfl rfl)) ?_
                refine rg_put (d := 88) (v := .d (.sl 2 (List.map eIv ((enf z (Ivl.mk i.fr t)))))) rfl (oy rfl rfl rfl (show (((spE i) == 0)) = true from by rw [hei]; rfl) (op_move rfl rfl rfl)) ?_
                refine rg_put (d := 89) (v := .d (.fl (.int .i64 ((tot ((enf z (Ivl.mk i.fr t)))))))) rfl (oy rfl rfl rfl (show (((spE i) == 0)) = true from by rw [hei]; rfl) (op_call rfl Try.func19 nm19 rfl (.cons rfl (.d _) .nil) (tot19 ((enf z (Ivl.mk i.fr t))) (Nat.le_trans (enf_len (grt_f h1).1 _) (by omega)) (fun _ => enf_T he1) (fun s hs => by have h5 := enf_in he1 hs; have h6 := spE_0 he1; (try dsimp only at h5 h6); omega)) rfl)) ?_
                refine rg_put (d := 90) (v := .d (.sl 2 (List.map eIv ((enf z (Ivl.mk t i.to)))))) rfl (oy rfl rfl rfl (show (((spE i) == 0)) = true from by rw [hei]; rfl) (op_move rfl rfl rfl)) ?_
                refine rg_put (d := 91) (v := .d (.fl (.int .i64 ((tot ((enf z (Ivl.mk t i.to)))))))) rfl (oy rfl rfl rfl (show (((spE i) == 0)) = true from by rw [hei]; rfl) (op_call rfl Try.func19 nm19 rfl (.cons rfl (.d _) .nil) (tot19 ((enf z (Ivl.mk t i.to))) (Nat.le_trans (enf_len (grt_f h1).1 _) (by omega)) (fun _ => enf_T he2) (fun s hs => by have h5 := enf_in he2 hs; have h6 := spE_0 he2; (try dsimp only at h5 h6); omega)) rfl)) ?_
                refine rg_put (d := 92) (v := .d (.fl (.int .i64 (((tot ((enf z (Ivl.mk i.fr t)))) + (tot ((enf z (Ivl.mk t i.to))))))))) rfl (oy rfl rfl rfl (show (((spE i) == 0)) = true from by rw [hei]; rfl) (op_bin rfl rfl rfl (fun x y w => b_add64 _ _ _ x y w (by omega)) rfl)) ?_
                refine rg_put (d := 93) (v := .d (.sl 2 (List.map eIv (enf z i)))) rfl (oy rfl rfl rfl (show (((spE i) == 0)) = true from by rw [hei]; rfl) (op_move rfl rfl rfl)) ?_
                refine rg_put (d := 94) (v := .d (.fl (.int .i64 ((tot (enf z i)))))) rfl (oy rfl rfl rfl (show (((spE i) == 0)) = true from by rw [hei]; rfl) (op_call rfl Try.func19 nm19 rfl (.cons rfl (.d _) .nil) (tot19 (enf z i) (Nat.le_trans (enf_len (grt_f h1).1 _) (by omega)) (fun _ => enf_T hei) (fun s hs => by have h5 := enf_in hei hs; have h6 := spE_0 hei; (try dsimp only at h5 h6); omega)) rfl)) ?_
                refine rg_put (d := 95) (v := .d (.fl (.bool ((((tot ((enf z (Ivl.mk i.fr t)))) + (tot ((enf z (Ivl.mk t i.to))))) == (tot (enf z i))))))) rfl (oy rfl rfl rfl (show (((spE i) == 0)) = true from by rw [hei]; rfl) (op_bin rfl rfl rfl (b_eql _ _ _ _) rfl)) ?_
                refine rg_put (d := 96) (v := .d (.fl (.bool ((((tot ((enf z (Ivl.mk i.fr t)))) + (tot ((enf z (Ivl.mk t i.to))))) == (tot (enf z i))))))) rfl (og rfl (op_pick rfl rfl (by rw [(show (((spE i) == 0)) = true from by rw [hei]; rfl)]; rfl) rfl)) ?_
                refine rg_put (d := 97) (v := .d (.fl (.bool ((((tot ((enf z (Ivl.mk i.fr t)))) + (tot ((enf z (Ivl.mk t i.to))))) == (tot (enf z i))))))) rfl (og rfl (op_move rfl rfl rfl)) ?_
                refine rg_put (d := 98) (v := .d (.fl (.bool true))) rfl (oy rfl rfl rfl (show ((((tot ((enf z (Ivl.mk i.fr t)))) + (tot ((enf z (Ivl.mk t i.to))))) == (tot (enf z i)))) = true from beq_iff_eq.2 hj.symm) (op_call rfl Try.func9 nm9 rfl .nil alive9 rfl)) ?_
                refine rg_put (d := 99) (v := .d (.fl (.bool true))) rfl (og rfl (op_pick rfl rfl (by rw [(show ((((tot ((enf z (Ivl.mk i.fr t)))) + (tot ((enf z (Ivl.mk t i.to))))) == (tot (enf z i)))) = true from beq_iff_eq.2 hj.symm)]; rfl) rfl)) ?_
                refine rg_put (d := 6) (v := .d (.fl (.bool true))) rfl (og rfl (op_assign rfl rfl rfl)) ?_
                refine rg_done rfl ?_
                refine a_ret ?_
                show ∃ ds, ResL _ _ _ ds ∧ RV.of ds = _
                refine ⟨[.fl (.bool true)], (.cons (.tmp rfl (.d _)) .nil), ?_⟩
                rfl
            · skip
              have h15 := t_dec h10
              refine rg_put (d := 47) (v := .d (.fl undef)) rfl (on rfl rfl rfl h10) ?_
              refine rg_put (d := 48) (v := .d (.fl undef)) rfl (on rfl rfl rfl h10) ?_
              refine rg_put (d := 49) (v := .d (.fl undef)) rfl (on rfl rfl rfl h10) ?_
              refine rg_put (d := 50) (v := .d (.fl undef)) rfl (on rfl rfl rfl h10) ?_
              refine rg_put (d := 51) (v := .d (.fl (.bool true))) rfl (og rfl (op_pick rfl rfl (by rw [h10]; rfl) rfl)) ?_
              refine rg_done rfl ?_
              refine a_condK rfl rfl ?_
              refine a_rseq ?_
              refine rg_put (d := 52) (v := .d (.fl (.bool true))) rfl (og rfl (op_call rfl Try.func9 nm9 rfl .nil alive9 rfl)) ?_
              refine rg_put (d := 6) (v := .d (.fl (.bool true))) rfl (og rfl (op_assign rfl rfl rfl)) ?_
              refine rg_done rfl ?_
              refine a_ret ?_
              show ∃ ds, ResL _ _ _ ds ∧ RV.of ds = _
              refine ⟨[.fl (.bool true)], (.cons (.tmp rfl (.d _)) .nil), ?_⟩
              rfl
          · skip
            have h16 := t_dec h8
            refine rg_put (d := 41) (v := .d (.fl undef)) rfl (on rfl rfl rfl h8) ?_
            refine rg_put (d := 42) (v := .d (.fl undef)) rfl (on rfl rfl rfl h8) ?_
            refine rg_put (d := 43) (v := .d (.fl undef)) rfl (on rfl rfl rfl h8) ?_
            refine rg_put (d := 44) (v := .d (.fl undef)) rfl (on rfl rfl rfl h8) ?_
            refine rg_put (d := 45) (v := .d (.fl (.bool true))) rfl (og rfl (op_pick rfl rfl (by rw [h8]; rfl) rfl)) ?_
            refine rg_put (d := 46) (v := .d (.fl (.bool true))) rfl (og rfl (op_move rfl rfl rfl)) ?_
            refine rg_put (d := 47) (v := .d (.fl undef)) rfl (on rfl rfl rfl rfl) ?_
            refine rg_put (d := 48) (v := .d (.fl undef)) rfl (on rfl rfl rfl rfl) ?_
            refine rg_put (d := 49) (v := .d (.fl undef)) rfl (on rfl rfl rfl rfl) ?_
            refine rg_put (d := 50) (v := .d (.fl undef)) rfl (on rfl rfl rfl rfl) ?_
            refine rg_put (d := 51) (v := .d (.fl (.bool true))) rfl (og rfl (op_pick rfl rfl rfl rfl)) ?_
            refine rg_done rfl ?_
            refine a_condK rfl rfl ?_
            refine a_rseq ?_
            refine rg_put (d := 52) (v := .d (.fl (.bool true))) rfl (og rfl (op_call rfl Try.func9 nm9 rfl .nil alive9 rfl)) ?_
            refine rg_put (d := 6) (v := .d (.fl (.bool true))) rfl (og rfl (op_assign rfl rfl rfl)) ?_
            refine rg_done rfl ?_
            refine a_ret ?_
            show ∃ ds, ResL _ _ _ ds ∧ RV.of ds = _
            refine ⟨[.fl (.bool true)], (.cons (.tmp rfl (.d _)) .nil), ?_⟩
            rfl
        · skip
          have h17 := t_dec h6
          refine rg_put (d := 33) (v := .d (.fl undef)) rfl (on rfl rfl rfl h6) ?_
          refine rg_put (d := 34) (v := .d (.fl undef)) rfl (on rfl rfl rfl h6) ?_
          refine rg_put (d := 35) (v := .d (.fl undef)) rfl (on rfl rfl rfl h6) ?_
          refine rg_put (d := 36) (v := .d (.fl undef)) rfl (on rfl rfl rfl h6) ?_
          refine rg_put (d := 37) (v := .d (.fl undef)) rfl (on rfl rfl rfl h6) ?_
          refine rg_put (d := 38) (v := .d (.fl undef)) rfl (on rfl rfl rfl h6) ?_
          refine rg_put (d := 39) (v := .d (.fl (.bool true))) rfl (og rfl (op_pick rfl rfl (by rw [h6]; rfl) rfl)) ?_
          refine rg_put (d := 40) (v := .d (.fl (.bool true))) rfl (og rfl (op_move rfl rfl rfl)) ?_
          refine rg_put (d := 41) (v := .d (.fl undef)) rfl (on rfl rfl rfl rfl) ?_
          refine rg_put (d := 42) (v := .d (.fl undef)) rfl (on rfl rfl rfl rfl) ?_
          refine rg_put (d := 43) (v := .d (.fl undef)) rfl (on rfl rfl rfl rfl) ?_
          refine rg_put (d := 44) (v := .d (.fl undef)) rfl (on rfl rfl rfl rfl) ?_
          refine rg_put (d := 45) (v := .d (.fl (.bool true))) rfl (og rfl (op_pick rfl rfl rfl rfl)) ?_
          refine rg_put (d := 46) (v := .d (.fl (.bool true))) rfl (og rfl (op_move rfl rfl rfl)) ?_
          refine rg_put (d := 47) (v := .d (.fl undef)) rfl (on rfl rfl rfl rfl) ?_
          refine rg_put (d := 48) (v := .d (.fl undef)) rfl (on rfl rfl rfl rfl) ?_
          refine rg_put (d := 49) (v := .d (.fl undef)) rfl (on rfl rfl rfl rfl) ?_
          refine rg_put (d := 50) (v := .d (.fl undef)) rfl (on rfl rfl rfl rfl) ?_
          refine rg_put (d := 51) (v := .d (.fl (.bool true))) rfl (og rfl (op_pick rfl rfl rfl rfl)) ?_
          refine rg_done rfl ?_
          refine a_condK rfl rfl ?_
          refine a_rseq ?_
          refine rg_put (d := 52) (v := .d (.fl (.bool true))) rfl (og rfl (op_call rfl Try.func9 nm9 rfl .nil alive9 rfl)) ?_
          refine rg_put (d := 6) (v := .d (.fl (.bool true))) rfl (og rfl (op_assign rfl rfl rfl)) ?_
          refine rg_done rfl ?_
          refine a_ret ?_
          show ∃ ds, ResL _ _ _ ds ∧ RV.of ds = _
          refine ⟨[.fl (.bool true)], (.cons (.tmp rfl (.d _)) .nil), ?_⟩
          rfl
      · skip
        have h18 := t_dec h4
        refine rg_put (d := 28) (v := .d (.fl undef)) rfl (on rfl rfl rfl h4) ?_
        refine rg_put (d := 29) (v := .d (.fl undef)) rfl (on rfl rfl rfl h4) ?_
        refine rg_put (d := 30) (v := .d (.fl undef)) rfl (on rfl rfl rfl h4) ?_
        refine rg_put (d := 31) (v := .d (.fl (.bool true))) rfl (og rfl (op_pick rfl rfl (by rw [h4]; rfl) rfl)) ?_
        refine rg_put (d := 32) (v := .d (.fl (.bool true))) rfl (og rfl (op_move rfl rfl rfl)) ?_
        refine rg_put (d := 33) (v := .d (.fl undef)) rfl (on rfl rfl rfl rfl) ?_
        refine rg_put (d := 34) (v := .d (.fl undef)) rfl (on rfl rfl rfl rfl) ?_
        refine rg_put (d := 35) (v := .d (.fl undef)) rfl (on rfl rfl rfl rfl) ?_
        refine rg_put (d := 36) (v := .d (.fl undef)) rfl (on rfl rfl rfl rfl) ?_
        refine rg_put (d := 37) (v := .d (.fl undef)) rfl (on rfl rfl rfl rfl) ?_
        refine rg_put (d := 38) (v := .d (.fl undef)) rfl (on rfl rfl rfl rfl) ?_
        refine rg_put (d := 39) (v := .d (.fl (.bool true))) rfl (og rfl (op_pick rfl rfl rfl rfl)) ?_
        refine rg_put (d := 40) (v := .d (.fl (.bool true))) rfl (og rfl (op_move rfl rfl rfl)) ?_
        refine rg_put (d := 41) (v := .d (.fl undef)) rfl (on rfl rfl rfl rfl) ?_
        refine rg_put (d := 42) (v := .d (.fl undef)) rfl (on rfl rfl rfl rfl) ?_
        refine rg_put (d := 43) (v := .d (.fl undef)) rfl (on rfl rfl rfl rfl) ?_
        refine rg_put (d := 44) (v := .d (.fl undef)) rfl (on rfl rfl rfl rfl) ?_
        refine rg_put (d := 45) (v := .d (.fl (.bool true))) rfl (og rfl (op_pick rfl rfl rfl rfl)) ?_
        refine rg_put (d := 46) (v := .d (.fl (.bool true))) rfl (og rfl (op_move rfl rfl rfl)) ?_
        refine rg_put (d := 47) (v := .d (.fl undef)) rfl (on rfl rfl rfl rfl) ?_
        refine rg_put (d := 48) (v := .d (.fl undef)) rfl (on rfl rfl rfl rfl) ?_
        refine rg_put (d := 49) (v := .d (.fl undef)) rfl (on rfl rfl rfl rfl) ?_
        refine rg_put (d := 50) (v := .d (.fl undef)) rfl (on rfl rfl rfl rfl) ?_
        refine rg_put (d := 51) (v := .d (.fl (.bool true))) rfl (og rfl (op_pick rfl rfl rfl rfl)) ?_
        refine rg_done rfl ?_
        refine a_condK rfl rfl ?_
        refine a_rseq ?_
        refine rg_put (d := 52) (v := .d (.fl (.bool true))) rfl (og rfl (op_call rfl Try.func9 nm9 rfl .nil alive9 rfl)) ?_
        refine rg_put (d := 6) (v := .d (.fl (.bool true))) rfl (og rfl (op_assign rfl rfl rfl)) ?_
        refine rg_done rfl ?_
        refine a_ret ?_
        show ∃ ds, ResL _ _ _ ds ∧ RV.of ds = _
        refine ⟨[.fl (.bool true)], (.cons (.tmp rfl (.d _)) .nil), ?_⟩
        rfl
    · skip
      have h19 := t_dec h2
      refine rg_put (d := 21) (v := .d (.fl undef)) rfl (on rfl rfl rfl h2) ?_
      refine rg_put (d := 22) (v := .d (.fl undef)) rfl (on rfl rfl rfl h2) ?_
      refine rg_put (d := 23) (v := .d (.fl undef)) rfl (on rfl rfl rfl h2) ?_
      refine rg_put (d := 24) (v := .d (.fl undef)) rfl (on rfl rfl rfl h2) ?_
      refine rg_put (d := 25) (v := .d (.fl undef)) rfl (on rfl rfl rfl h2) ?_
      refine rg_put (d := 26) (v := .d (.fl (.bool true))) rfl (og rfl (op_pick rfl rfl (by rw [h2]; rfl) rfl)) ?_
      refine rg_put (d := 27) (v := .d (.fl (.bool true))) rfl (og rfl (op_move rfl rfl rfl)) ?_
      refine rg_put (d := 28) (v := .d (.fl undef)) rfl (on rfl rfl rfl rfl) ?_
      refine rg_put (d := 29) (v := .d (.fl undef)) rfl (on rfl rfl rfl rfl) ?_
      refine rg_put (d := 30) (v := .d (.fl undef)) rfl (on rfl rfl rfl rfl) ?_
      refine rg_put (d := 31) (v := .d (.fl (.bool true))) rfl (og rfl (op_pick rfl rfl rfl rfl)) ?_
      refine rg_put (d := 32) (v := .d (.fl (.bool true))) rfl (og rfl (op_move rfl rfl rfl)) ?_
      refine rg_put (d := 33) (v := .d (.fl undef)) rfl (on rfl rfl rfl rfl) ?_
      refine rg_put (d := 34) (v := .d (.fl undef)) rfl (on rfl rfl rfl rfl) ?_
      refine rg_put (d := 35) (v := .d (.fl undef)) rfl (on rfl rfl rfl rfl) ?_
      refine rg_put (d := 36) (v := .d (.fl undef)) rfl (on rfl rfl rfl rfl) ?_
      refine rg_put (d := 37) (v := .d (.fl undef)) rfl (on rfl rfl rfl rfl) ?_
      refine rg_put (d := 38) (v := .d (.fl undef)) rfl (on rfl rfl rfl rfl) ?_
      refine rg_put (d := 39) (v := .d (.fl (.bool true))) rfl (og rfl (op_pick rfl rfl rfl rfl)) ?_
      refine rg_put (d := 40) (v := .d (.fl (.bool true))) rfl (og rfl (op_move rfl rfl rfl)) ?_
      refine rg_put (d := 41) (v := .d (.fl undef)) rfl (on rfl rfl rfl rfl) ?_
      refine rg_put (d := 42) (v := .d (.fl undef)) rfl (on rfl rfl rfl rfl) ?_
      refine rg_put (d := 43) (v := .d (.fl undef)) rfl (on rfl rfl rfl rfl) ?_
      refine rg_put (d := 44) (v := .d (.fl undef)) rfl (on rfl rfl rfl rfl) ?_
      refine rg_put (d := 45) (v := .d (.fl (.bool true))) rfl (og rfl (op_pick rfl rfl rfl rfl)) ?_
      refine rg_put (d := 46) (v := .d (.fl (.bool true))) rfl (og rfl (op_move rfl rfl rfl)) ?_
      refine rg_put (d := 47) (v := .d (.fl undef)) rfl (on rfl rfl rfl rfl) ?_
      refine rg_put (d := 48) (v := .d (.fl undef)) rfl (on rfl rfl rfl rfl) ?_
      refine rg_put (d := 49) (v := .d (.fl undef)) rfl (on rfl rfl rfl rfl) ?_
      refine rg_put (d := 50) (v := .d (.fl undef)) rfl (on rfl rfl rfl rfl) ?_
      refine rg_put (d := 51) (v := .d (.fl (.bool true))) rfl (og rfl (op_pick rfl rfl rfl rfl)) ?_
      refine rg_done rfl ?_
      refine a_condK rfl rfl ?_
      refine a_rseq ?_
      refine rg_put (d := 52) (v := .d (.fl (.bool true))) rfl (og rfl (op_call rfl Try.func9 nm9 rfl .nil alive9 rfl)) ?_
      refine rg_put (d := 6) (v := .d (.fl (.bool true))) rfl (og rfl (op_assign rfl rfl rfl)) ?_
      refine rg_done rfl ?_
      refine a_ret ?_
      show ∃ ds, ResL _ _ _ ds ∧ RV.of ds = _
      refine ⟨[.fl (.bool true)], (.cons (.tmp rfl (.d _)) .nil), ?_⟩
      rfl
  · skip
    refine rg_put (d := 16) (v := .d (.fl undef)) rfl (on rfl rfl rfl h1) ?_
    refine rg_put (d := 17) (v := .d (.fl undef)) rfl (on rfl rfl rfl h1) ?_
    refine rg_put (d := 18) (v := .d (.fl undef)) rfl (on rfl rfl rfl h1) ?_
    refine rg_put (d := 19) (v := .d (.fl (.bool true))) rfl (og rfl (op_pick rfl rfl (by rw [h1]; rfl) rfl)) ?_
    refine rg_put (d := 20) (v := .d (.fl (.bool true))) rfl (og rfl (op_move rfl rfl rfl)) ?_
    refine rg_put (d := 21) (v := .d (.fl undef)) rfl (on rfl rfl rfl rfl) ?_
    refine rg_put (d := 22) (v := .d (.fl undef)) rfl (on rfl rfl rfl rfl) ?_
    refine rg_put (d := 23) (v := .d (.fl undef)) rfl (on rfl rfl rfl rfl) ?_
    refine rg_put (d := 24) (v := .d (.fl undef)) rfl (on rfl rfl rfl rfl) ?_
    refine rg_put (d := 25) (v := .d (.fl undef)) rfl (on rfl rfl rfl rfl) ?_
    refine rg_put (d := 26) (v := .d (.fl (.bool true))) rfl (og rfl (op_pick rfl rfl rfl rfl)) ?_
    refine rg_put (d := 27) (v := .d (.fl (.bool true))) rfl (og rfl (op_move rfl rfl rfl)) ?_
    refine rg_put (d := 28) (v := .d (.fl undef)) rfl (on rfl rfl rfl rfl) ?_
    refine rg_put (d := 29) (v := .d (.fl undef)) rfl (on rfl rfl rfl rfl) ?_
    refine rg_put (d := 30) (v := .d (.fl undef)) rfl (on rfl rfl rfl rfl) ?_
    refine rg_put (d := 31) (v := .d (.fl (.bool true))) rfl (og rfl (op_pick rfl rfl rfl rfl)) ?_
    refine rg_put (d := 32) (v := .d (.fl (.bool true))) rfl (og rfl (op_move rfl rfl rfl)) ?_
    refine rg_put (d := 33) (v := .d (.fl undef)) rfl (on rfl rfl rfl rfl) ?_
    refine rg_put (d := 34) (v := .d (.fl undef)) rfl (on rfl rfl rfl rfl) ?_
    refine rg_put (d := 35) (v := .d (.fl undef)) rfl (on rfl rfl rfl rfl) ?_
    refine rg_put (d := 36) (v := .d (.fl undef)) rfl (on rfl rfl rfl rfl) ?_
    refine rg_put (d := 37) (v := .d (.fl undef)) rfl (on rfl rfl rfl rfl) ?_
    refine rg_put (d := 38) (v := .d (.fl undef)) rfl (on rfl rfl rfl rfl) ?_
    refine rg_put (d := 39) (v := .d (.fl (.bool true))) rfl (og rfl (op_pick rfl rfl rfl rfl)) ?_
    refine rg_put (d := 40) (v := .d (.fl (.bool true))) rfl (og rfl (op_move rfl rfl rfl)) ?_
    refine rg_put (d := 41) (v := .d (.fl undef)) rfl (on rfl rfl rfl rfl) ?_
    refine rg_put (d := 42) (v := .d (.fl undef)) rfl (on rfl rfl rfl rfl) ?_
    refine rg_put (d := 43) (v := .d (.fl undef)) rfl (on rfl rfl rfl rfl) ?_
    refine rg_put (d := 44) (v := .d (.fl undef)) rfl (on rfl rfl rfl rfl) ?_
    refine rg_put (d := 45) (v := .d (.fl (.bool true))) rfl (og rfl (op_pick rfl rfl rfl rfl)) ?_
    refine rg_put (d := 46) (v := .d (.fl (.bool true))) rfl (og rfl (op_move rfl rfl rfl)) ?_
    refine rg_put (d := 47) (v := .d (.fl undef)) rfl (on rfl rfl rfl rfl) ?_
    refine rg_put (d := 48) (v := .d (.fl undef)) rfl (on rfl rfl rfl rfl) ?_
    refine rg_put (d := 49) (v := .d (.fl undef)) rfl (on rfl rfl rfl rfl) ?_
    refine rg_put (d := 50) (v := .d (.fl undef)) rfl (on rfl rfl rfl rfl) ?_
    refine rg_put (d := 51) (v := .d (.fl (.bool true))) rfl (og rfl (op_pick rfl rfl rfl rfl)) ?_
    refine rg_done rfl ?_
    refine a_condK rfl rfl ?_
    refine a_rseq ?_
    refine rg_put (d := 52) (v := .d (.fl (.bool true))) rfl (og rfl (op_call rfl Try.func9 nm9 rfl .nil alive9 rfl)) ?_
    refine rg_put (d := 6) (v := .d (.fl (.bool true))) rfl (og rfl (op_assign rfl rfl rfl)) ?_
    refine rg_done rfl ?_
    refine a_ret ?_
    show ∃ ds, ResL _ _ _ ds ∧ RV.of ds = _
    refine ⟨[.fl (.bool true)], (.cons (.tmp rfl (.d _)) .nil), ?_⟩
    rfl
end Go.Proofs.Ytniefocnfcaebaa.Wk
