/- The parts of an interval in a window. Conditions: as each theorem names them. -/
import Derived.Test.YtniefocnfcaebaaAvS
import Derived.Test.YtniefocnfcaebaaAvN
import Derived.Test.YtniefocnfcaebaaB5
set_option linter.unusedSimpArgs false
set_option linter.unusedVariables false
namespace Go.Proofs.Ytniefocnfcaebaa.Wk
open Go Go.RowKit Go.Proofs.Ytniefocnfcaebaa.Av
def pc (w : Wd) (i : Ivl) (d : Int) : Ivl := ⟨max i.fr (d * 86400 + w.fr * 60), min i.to (d * 86400 + w.to * 60)⟩
def pok (w : Wd) (i : Ivl) (d : Int) : Bool := bitd w.days (d % 7).toNat && decide ((pc w i d).fr < (pc w i d).to)
def spS (w : Wd) (i : Ivl) : Nat → List Ivl
  | 0 => []
  | n + 1 => if pok w i (i.fr / 86400 + (n : Int)) = true then extJ (spS w i n) (pc w i (i.fr / 86400 + (n : Int))) else spS w i n
theorem spS_len (w : Wd) (i : Ivl) : ∀ n, (spS w i n).length ≤ n
  | 0 => Nat.le_refl _
  | n + 1 => by
    have h1 := spS_len w i n
    have h2 := (extJ_len (spS w i n) (pc w i (i.fr / 86400 + (n : Int)))).1
    show (if _ then _ else _ : List Ivl).length ≤ _
    split <;> omega
theorem pok_p {w : Wd} {i : Ivl} {d : Int} : pok w i d = true ↔ bitd w.days (d % 7).toNat = true ∧ (pc w i d).fr < (pc w i d).to := by
  unfold pok; rw [Bool.and_eq_true, decide_eq_true_eq]
theorem spS_ok {w : Wd} {i : Ivl} (hv : vW w = true) : ∀ n : Nat, NF (spS w i n) ∧ (∀ t, Mem (spS w i n) t ↔ ∃ j : Nat, j < n ∧ pok w i (i.fr / 86400 + (j : Int)) = true ∧ (pc w i (i.fr / 86400 + (j : Int))).fr ≤ t ∧ t < (pc w i (i.fr / 86400 + (j : Int))).to) ∧ (∀ s ∈ spS w i n, s.to ≤ (i.fr / 86400 + (n : Int)) * 86400)
  | 0 => ⟨NF.nil, fun t => ⟨fun h => absurd h Mem.nil, fun ⟨j, h, _⟩ => by omega⟩, fun s hs => by cases hs⟩
  | n + 1 => by
    obtain ⟨h1, h2, h3⟩ := spS_ok hv (i := i) n
    obtain ⟨_, _, v3, v4, v5⟩ := vW_p hv
    by_cases hp : pok w i (i.fr / 86400 + (n : Int)) = true
    · have e : spS w i (n + 1) = extJ (spS w i n) (pc w i (i.fr / 86400 + (n : Int))) := if_pos hp
      have hp2 := pok_p.1 hp
      have hf : (i.fr / 86400 + (n : Int)) * 86400 ≤ (pc w i (i.fr / 86400 + (n : Int))).fr := by show _ ≤ max _ _; omega
      have ht : (pc w i (i.fr / 86400 + (n : Int))).to ≤ (i.fr / 86400 + ((n + 1 : Nat) : Int)) * 86400 := by show min _ _ ≤ _; omega
      obtain ⟨g1, g2, g3⟩ := extJ_ok h1 hp2.2 (fun s hs => by have := h3 s hs; omega)
      rw [e]
      refine ⟨g1, fun t => ?_, fun s hs => by have := g3 s hs; omega⟩
      rw [g2, h2]
      constructor
      · rintro (⟨j, a, b⟩ | b)
        · exact ⟨j, by omega, b⟩
        · exact ⟨n, by omega, hp, b⟩
      · rintro ⟨j, a, b⟩
        by_cases hj : j = n
        · subst hj; exact .inr b.2
        · exact .inl ⟨j, by omega, b⟩
    · have e : spS w i (n + 1) = spS w i n := if_neg hp
      rw [e]
      refine ⟨h1, fun t => ?_, fun s hs => by have := h3 s hs; omega⟩
      rw [h2]
      constructor
      · rintro ⟨j, a, b⟩; exact ⟨j, by omega, b⟩
      · rintro ⟨j, a, b⟩
        by_cases hj : j = n
        · subst hj; exact absurd b.1 hp
        · exact ⟨j, by omega, b⟩
def okI (i : Ivl) : Bool := (decide (0 ≤ i.fr) && decide (i.fr < i.to)) && decide (i.to ≤ 68719476736)
theorem okI_p {i : Ivl} : okI i = true ↔ 0 ≤ i.fr ∧ i.fr < i.to ∧ i.to ≤ 68719476736 := by
  unfold okI
  simp only [Bool.and_eq_true, decide_eq_true_eq]
  exact ⟨fun h => ⟨h.1.1, h.1.2, h.2⟩, fun h => ⟨⟨h.1, h.2.1⟩, h.2.2⟩⟩
def spN (i : Ivl) : Nat := ((i.to - 1) / 86400 - i.fr / 86400 + 1).toNat
def spE (i : Ivl) : Int := if okI i = false then 12 else if 366 ≤ (i.to - 1) / 86400 - i.fr / 86400 then 3 else 0
theorem spE_0 {i : Ivl} (h : spE i = 0) : 0 ≤ i.fr ∧ i.fr < i.to ∧ i.to ≤ 68719476736 ∧ (i.to - 1) / 86400 - i.fr / 86400 < 366 := by
  unfold spE at h
  split at h
  · exact absurd h (by decide)
  · split at h
    · exact absurd h (by decide)
    · rename_i h1 h2
      have := okI_p.1 (by simpa using h1)
      exact ⟨this.1, this.2.1, this.2.2, by omega⟩
theorem spE_ok {i : Ivl} (h : 0 ≤ i.fr ∧ i.fr < i.to ∧ i.to ≤ 68719476736 ∧ (i.to - 1) / 86400 - i.fr / 86400 < 366) : spE i = 0 := by
  unfold spE
  rw [if_neg (by rw [okI_p.2 ⟨h.1, h.2.1, h.2.2.1⟩]; decide), if_neg (by omega)]
def spL (w : Wd) (i : Ivl) : List Ivl := if spE i = 0 ∧ vW w = true then spS w i (spN i) else []
theorem spL_len (w : Wd) (i : Ivl) : (spL w i).length ≤ 366 := by
  unfold spL
  split
  · rename_i h
    have h1 := spE_0 h.1
    have h2 := spS_len w i (spN i)
    have : spN i ≤ 366 := by unfold spN; omega
    omega
  · simp
theorem spL_mem {w : Wd} {i : Ivl} (he : spE i = 0) (t : Int) : Mem (spL w i) t ↔ (i.fr ≤ t ∧ t < i.to) ∧ inW w t = true := by
  obtain ⟨a1, a2, a3, a4⟩ := spE_0 he
  unfold spL
  by_cases hv : vW w = true
  · rw [if_pos ⟨he, hv⟩, (spS_ok hv (spN i)).2.1]
    obtain ⟨_, _, v3, v4, v5⟩ := vW_p hv
    constructor
    · rintro ⟨j, hj, hp, h1, h2⟩
      have h1 : max i.fr ((i.fr / 86400 + (j : Int)) * 86400 + w.fr * 60) ≤ t := h1
      have h2 : t < min i.to ((i.fr / 86400 + (j : Int)) * 86400 + w.to * 60) := h2
      have e : t / 86400 = i.fr / 86400 + (j : Int) := by omega
      exact ⟨⟨by omega, by omega⟩, inW_p.2 ⟨hv, by omega, by omega, by rw [e]; exact (pok_p.1 hp).1, by omega, by omega⟩⟩
    · rintro ⟨⟨h1, h2⟩, h3⟩
      obtain ⟨_, q1, q2, q3, q4, q5⟩ := inW_p.1 h3
      refine ⟨(t / 86400 - i.fr / 86400).toNat, by unfold spN; omega, ?_⟩
      have e : i.fr / 86400 + (((t / 86400 - i.fr / 86400).toNat : Nat) : Int) = t / 86400 := by omega
      rw [e]
      have g1 : (pc w i (t / 86400)).fr ≤ t := by show max _ _ ≤ _; omega
      have g2 : t < (pc w i (t / 86400)).to := by show _ < min _ _; omega
      exact ⟨pok_p.2 ⟨q3, by omega⟩, g1, g2⟩
  · rw [if_neg (fun h => hv h.2)]
    exact ⟨fun h => absurd h Mem.nil, fun h => absurd (inW_p.1 h.2).1 hv⟩
theorem mem_lo {M : List Ivl} {s : Ivl} (hs : s ∈ M) (h : s.fr < s.to) : Mem M s.fr ∧ Mem M (s.to - 1) := ⟨⟨s, hs, by omega, by omega⟩, ⟨s, hs, by omega, by omega⟩⟩
theorem spL_in {w : Wd} {i : Ivl} {s : Ivl} (hs : s ∈ spL w i) : i.fr ≤ s.fr ∧ s.fr < s.to ∧ s.to ≤ i.to ∧ spE i = 0 := by
  have hs0 := hs
  unfold spL at hs
  split at hs
  · rename_i h
    have hv := (spS_ok h.2 (spN i)).1.v s hs
    obtain ⟨h1, h2⟩ := mem_lo hs0 hv
    have h1 := (spL_mem h.1 _).1 h1
    have h2 := (spL_mem h.1 _).1 h2
    exact ⟨h1.1.1, hv, by omega, h.1⟩
  · cases hs
def cat (l : List Wd) (i : Ivl) : Nat → List Ivl
  | 0 => []
  | k + 1 => cat l i k ++ spL (ix l k) i
theorem cat_s (l : List Wd) (i : Ivl) (k : Nat) : cat l i (k + 1) = cat l i k ++ spL (ix l k) i := rfl
theorem cat_len (l : List Wd) (i : Ivl) : ∀ k, (cat l i k).length ≤ 366 * k
  | 0 => Nat.le_refl _
  | k + 1 => by
    have h1 := cat_len l i k
    have h2 := spL_len (ix l k) i
    rw [cat_s, List.length_append]; omega
theorem cat_mem {l : List Wd} {i : Ivl} (he : spE i = 0) (t : Int) : ∀ k, Mem (cat l i k) t ↔ (i.fr ≤ t ∧ t < i.to) ∧ ∃ j, j < k ∧ inW (ix l j) t = true
  | 0 => ⟨fun h => absurd h Mem.nil, fun ⟨_, j, h, _⟩ => by omega⟩
  | k + 1 => by
    rw [cat_s, mem_app, cat_mem he t k, spL_mem he]
    constructor
    · rintro (⟨a, j, b, c⟩ | ⟨a, b⟩)
      · exact ⟨a, j, by omega, c⟩
      · exact ⟨a, k, by omega, b⟩
    · rintro ⟨a, j, b, c⟩
      by_cases hj : j = k
      · subst hj; exact .inr ⟨a, c⟩
      · exact .inl ⟨a, j, by omega, c⟩
theorem cat_in {l : List Wd} {i : Ivl} {s : Ivl} : ∀ k, s ∈ cat l i k → i.fr ≤ s.fr ∧ s.fr < s.to ∧ s.to ≤ i.to ∧ spE i = 0
  | 0, h => by cases h
  | k + 1, h => by
    rw [cat_s] at h
    rcases List.mem_append.1 h with h | h
    · exact cat_in k h
    · exact spL_in h
theorem cat_f (l : List Wd) (i : Ivl) (k : Nat) : (cat l i k).filter vI = cat l i k := by
  rw [List.filter_eq_self]
  intro s hs
  obtain ⟨h1, h2, h3, h4⟩ := cat_in k hs
  have h5 := spE_0 h4
  unfold vI
  simp only [Bool.and_eq_true, decide_eq_true_eq]
  omega
noncomputable def enf (z : Zn) (i : Ivl) : List Ivl := nrm (cat (vws (hrs z)) i (vws (hrs z)).length)
theorem enf_ok {z : Zn} {i : Ivl} (he : spE i = 0) : NF (enf z i) ∧ (∀ t, Mem (enf z i) t ↔ (i.fr ≤ t ∧ t < i.to) ∧ opn z t = true) := by
  obtain ⟨h1, h2⟩ := nrm_ok (cat (vws (hrs z)) i (vws (hrs z)).length)
  refine ⟨h1, fun t => ?_⟩
  unfold enf
  rw [h2, cat_f, cat_mem he, opn_ex]
theorem enf_in {z : Zn} {i : Ivl} (he : spE i = 0) {s : Ivl} (hs : s ∈ enf z i) : i.fr ≤ s.fr ∧ s.fr < s.to ∧ s.to ≤ i.to := by
  obtain ⟨h1, h2⟩ := enf_ok (z := z) he
  have hv := h1.v s hs
  obtain ⟨g1, g2⟩ := mem_lo hs hv
  have g1 := (h2 _).1 g1
  have g2 := (h2 _).1 g2
  exact ⟨g1.1.1, hv, by omega⟩
theorem enf_len {z : Zn} (hl : z.hours.length ≤ 60) (i : Ivl) : (enf z i).length ≤ 21960 := by
  have h1 := nrm_len (cat (vws (hrs z)) i (vws (hrs z)).length)
  have h2 := cat_len (vws (hrs z)) i (vws (hrs z)).length
  have h3 := vws_le (hrs z)
  have h4 := hrs_le z hl
  unfold enf; omega

set_option maxHeartbeats 4000000 in
set_option maxRecDepth 100000 in
theorem norm30 (l : List Ivl) (hl : l.length ≤ 1000000) : Ctr Try.prog 30 [.sl 2 (List.map eIv l)] (.d (.sl 2 (List.map eIv (nrm l)))) := by
  refine ctr (n := 6) (rs := #[.tmp 2]) (L := [(0, .d (.sl 2 (List.map eIv l)))]) Try.func30 rfl rfl rfl rfl rfl (fun w0 U0 => ?_)
  refine a_rseq ?_
  refine rg_put (d := 2) (v := .d (.fl (.slice none 0 0))) rfl (og rfl (op_assign rfl rfl rfl)) ?_
  refine rg_done rfl ?_
  refine a_rseq ?_
  refine rg_put (d := 3) (v := .d (.sl 2 (List.map eIv l))) rfl (og rfl (op_move rfl rfl rfl)) ?_
  refine rg_put (d := 4) (v := .d (.sl 1 (List.map (rL 2 eIv) [l]))) rfl (og rfl (of_eff (op_slices rfl Try.underlying75 ti34 rfl rfl rfl (by kernel_rfl) (xs := [.sl 2 (List.map eIv l)]) rfl rfl (.cons rfl rfl (.d _) rfl rfl rfl .nil) rfl) rfl)) ?_
  refine rg_put (d := 5) (v := .d (.sl 2 (List.map eIv (nrm l)))) rfl (og rfl (op_call rfl Try.func44 nm44 rfl (.cons rfl (.d _) .nil) (join44 l hl) rfl)) ?_
  refine rg_put (d := 2) (v := .d (.sl 2 (List.map eIv (nrm l)))) rfl (og rfl (op_assign rfl rfl rfl)) ?_
  refine rg_done rfl ?_
  refine a_ret ?_
  show ∃ ds, ResL _ _ _ ds ∧ RV.of ds = _
  refine ⟨[.sl 2 (List.map eIv (nrm l))], (.cons (.tmp rfl (.d _)) .nil), ?_⟩
  rfl
set_option maxHeartbeats 4000000 in
set_option maxRecDepth 100000 in
theorem spans29 (w : Wd) (i : Ivl) : Ctr Try.prog 29 [.ag (eWd w), .ag (eIv i)] (.tu [.sl 2 (List.map eIv (spL w i)), .fl (.int .i64 (spE i))]) := by
  refine ctr (n := 102) (rs := #[.tmp 4, .tmp 5]) (L := [(0, .d (.ag (eWd w))), (1, .d (.ag (eIv i)))]) Try.func29 rfl rfl rfl rfl rfl (fun w0 U0 => ?_)
  refine a_rseq ?_
  refine rg_nam (d := 2) (v := .pt 101 0) (m := 101) (nw := [(101, .bx 48 (eWd w))]) rfl (og rfl (of_eff (op_box 101 rfl rfl rfl rfl) rfl)) rfl ?_
  refine rg_nam (d := 3) (v := .pt 102 0) (m := 102) (nw := [(102, .bx 32 (eIv i))]) rfl (og rfl (of_eff (op_box 102 rfl rfl rfl rfl) rfl)) rfl ?_
  refine rg_put (d := 4) (v := .d (.fl (.slice none 0 0))) rfl (og rfl (op_assign rfl rfl rfl)) ?_
  refine rg_put (d := 5) (v := .d (.fl (.int .i64 0))) rfl (og rfl (op_assign rfl rfl rfl)) ?_
  refine rg_done rfl ?_
  refine a_seq ?_
  refine a_rseq ?_
  refine rg_put (d := 13) (v := .pt 102 0) rfl (og rfl (of_eff (s_field_pt rfl Try.underlying32 rfl ti3 rfl rfl rfl) rfl)) ?_
  refine rg_put (d := 14) (v := .d (.fl (.int .i64 i.fr))) rfl (og rfl (op_load_pt rfl Try.underlying3 rfl rfl rfl rfl rfl)) ?_
  refine rg_put (d := 15) (v := .d (.fl (.bool ((decide (i.fr < 0)))))) rfl (og rfl (op_bin rfl rfl rfl (b_lss _ _ _ _) rfl)) ?_
  refine rg_put (d := 16) (v := .d (.fl (.bool ((decide (i.fr < 0)))))) rfl (og rfl (op_move rfl rfl rfl)) ?_
  rcases fot ((decide (i.fr < 0))) with h1 | h1
  · skip
    have h2 := f_dec h1
    refine rg_put (d := 17) (v := .pt 102 0) rfl (oy rfl rfl rfl h1 (of_eff (s_field_pt rfl Try.underlying32 rfl ti3 rfl rfl rfl) rfl)) ?_
    refine rg_put (d := 18) (v := .d (.fl (.int .i64 i.fr))) rfl (oy rfl rfl rfl h1 (op_load_pt rfl Try.underlying3 rfl rfl rfl rfl rfl)) ?_
    refine rg_put (d := 19) (v := .pt 102 1) rfl (oy rfl rfl rfl h1 (of_eff (s_field_pt rfl Try.underlying32 rfl ti3 rfl rfl rfl) rfl)) ?_
    refine rg_put (d := 20) (v := .d (.fl (.int .i64 i.to))) rfl (oy rfl rfl rfl h1 (op_load_pt rfl Try.underlying3 rfl rfl rfl rfl rfl)) ?_
    refine rg_put (d := 21) (v := .d (.fl (.bool ((decide (i.to ≤ i.fr)))))) rfl (oy rfl rfl rfl h1 (op_bin rfl rfl rfl (b_geq _ _ _ _) rfl)) ?_
    refine rg_put (d := 22) (v := .d (.fl (.bool ((decide (i.to ≤ i.fr)))))) rfl (og rfl (op_pick rfl rfl (by rw [h1]; rfl) rfl)) ?_
    refine rg_put (d := 23) (v := .d (.fl (.bool ((decide (i.to ≤ i.fr)))))) rfl (og rfl (op_move rfl rfl rfl)) ?_
    rcases fot ((decide (i.to ≤ i.fr))) with h3 | h3
    · skip
      have h4 := f_dec h3
      refine rg_put (d := 24) (v := .pt 102 1) rfl (oy rfl rfl rfl h3 (of_eff (s_field_pt rfl Try.underlying32 rfl ti3 rfl rfl rfl) rfl)) ?_
      refine rg_put (d := 25) (v := .d (.fl (.int .i64 i.to))) rfl (oy rfl rfl rfl h3 (op_load_pt rfl Try.underlying3 rfl rfl rfl rfl rfl)) ?_
      refine rg_put (d := 26) (v := .d (.fl (.bool ((decide (68719476736 < i.to)))))) rfl (oy rfl rfl rfl h3 (op_bin rfl rfl rfl (b_gtr _ _ _ _) rfl)) ?_
      refine rg_put (d := 27) (v := .d (.fl (.bool ((decide (68719476736 < i.to)))))) rfl (og rfl (op_pick rfl rfl (by rw [h3]; rfl) rfl)) ?_
      refine rg_done rfl ?_
      refine a_cond rfl (fun h5 => ?_) (fun h5 => ?_)
      · skip
        have h6 := t_dec h5
        refine a_rseq ?_
        refine rg_put (d := 4) (v := .d (.fl (.slice none 0 0))) rfl (og rfl (op_assign rfl rfl rfl)) ?_
        refine rg_put (d := 5) (v := .d (.fl (.int .i64 12))) rfl (og rfl (op_assign rfl rfl rfl)) ?_
        refine rg_done rfl ?_
        refine a_ret ?_
        show ∃ ds, ResL _ _ _ ds ∧ RV.of ds = _
        refine ⟨[.sl 2 (List.map eIv []), .fl (.int .i64 12)], (.cons (.tmp rfl (.cv (Cv.nil _))) (.cons (.tmp rfl (.d _)) .nil)), ?_⟩
        have hE : spE i = 12 := by unfold spE; rw [if_pos (by cases hq : okI i with | false => rfl | true => (exfalso; have := okI_p.1 hq; omega))]
        have hL : spL w i = [] := by unfold spL; rw [if_neg (fun h => by rw [hE] at h; exact absurd h.1 (by decide))]
        rw [hE, hL]; rfl
      · skip
        have h7 := f_dec h5
        refine a_skip ?_
        show A _ _ _ _ _ _ _
        refine a_dseq (by kernel_rfl) ?_
        refine dr_put (d := 28) (v := .pt 102 0) rfl (og rfl (of_eff (s_field_pt rfl Try.underlying32 rfl ti3 rfl rfl rfl) rfl)) ?_
        refine dr_put (d := 29) (v := .d (.fl (.int .i64 i.fr))) rfl (og rfl (op_load_pt rfl Try.underlying3 rfl rfl rfl rfl rfl)) ?_
        refine dr_put (d := 30) (v := .d (.fl (.int .i64 (i.fr / 86400)))) rfl (og rfl (op_call rfl Try.func41 nm41 rfl (.cons rfl (.d _) .nil) (day32 i.fr (by omega)) rfl)) ?_
        refine dr_put (d := 31) (v := .pt 102 1) rfl (og rfl (of_eff (s_field_pt rfl Try.underlying32 rfl ti3 rfl rfl rfl) rfl)) ?_
        refine dr_put (d := 32) (v := .d (.fl (.int .i64 i.to))) rfl (og rfl (op_load_pt rfl Try.underlying3 rfl rfl rfl rfl rfl)) ?_
        refine dr_put (d := 33) (v := .d (.fl (.int .i64 (i.to - 1)))) rfl (og rfl (op_bin rfl rfl rfl (fun x y w => b_sub64 _ _ _ x y w (by first | omega | (simp only [spN] at *; omega))) rfl)) ?_
        refine dr_put (d := 34) (v := .d (.fl (.int .i64 (((i.to - 1) / 86400))))) rfl (og rfl (op_call rfl Try.func41 nm41 rfl (.cons rfl (.d _) .nil) (day32 (i.to - 1) (by omega)) rfl)) ?_
        refine dr_put (d := 6) (v := .d (.fl (.int .i64 (i.fr / 86400)))) rfl (og rfl (op_assign rfl rfl rfl)) ?_
        refine dr_put (d := 7) (v := .d (.fl (.int .i64 (((i.to - 1) / 86400))))) rfl (og rfl (op_assign rfl rfl rfl)) ?_
        refine dr_done rfl (by kernel_rfl) (by kernel_rfl) ?_
        refine a_seq ?_
        refine a_rseq ?_
        refine rg_put (d := 35) (v := .d (.fl (.int .i64 (((i.to - 1) / 86400))))) rfl (og rfl (op_move rfl rfl rfl)) ?_
        refine rg_put (d := 36) (v := .d (.fl (.int .i64 (i.fr / 86400)))) rfl (og rfl (op_move rfl rfl rfl)) ?_
        refine rg_put (d := 37) (v := .d (.fl (.int .i64 ((((i.to - 1) / 86400) - (i.fr / 86400)))))) rfl (og rfl (op_bin rfl rfl rfl (fun x y w => b_sub64 _ _ _ x y w (by first | omega | (simp only [spN] at *; omega))) rfl)) ?_
        refine rg_put (d := 38) (v := .d (.fl (.bool ((decide (366 ≤ (((i.to - 1) / 86400) - (i.fr / 86400)))))))) rfl (og rfl (op_bin rfl rfl rfl (b_geq _ _ _ _) rfl)) ?_
        refine rg_done rfl ?_
        refine a_cond rfl (fun h8 => ?_) (fun h8 => ?_)
        · skip
          have h9 := t_dec h8
          refine a_rseq ?_
          refine rg_put (d := 4) (v := .d (.fl (.slice none 0 0))) rfl (og rfl (op_assign rfl rfl rfl)) ?_
          refine rg_put (d := 5) (v := .d (.fl (.int .i64 3))) rfl (og rfl (op_assign rfl rfl rfl)) ?_
          refine rg_done rfl ?_
          refine a_ret ?_
          show ∃ ds, ResL _ _ _ ds ∧ RV.of ds = _
          refine ⟨[.sl 2 (List.map eIv []), .fl (.int .i64 3)], (.cons (.tmp rfl (.cv (Cv.nil _))) (.cons (.tmp rfl (.d _)) .nil)), ?_⟩
          have hok2 : okI i = true := okI_p.2 (by omega)
          have hE : spE i = 3 := by unfold spE; rw [if_neg (by rw [hok2]; decide), if_pos (by omega)]
          have hL : spL w i = [] := by unfold spL; rw [if_neg (fun h => by rw [hE] at h; exact absurd h.1 (by decide))]
          rw [hE, hL]; rfl
        · skip
          have h10 := f_dec h8
          refine a_skip ?_
          show A _ _ _ _ _ _ _
          refine a_seq ?_
          refine a_rseq ?_
          refine rg_put (d := 39) (v := .d (.ag (eWd w))) rfl (og rfl (of_eff (s_load_pts rfl Try.underlying48 rfl ti48 rfl rfl rfl rfl) rfl)) ?_
          refine rg_put (d := 40) (v := .d (.fl (.bool (vW w)))) rfl (og rfl (op_call rfl Try.func33 nm33 rfl (.cons rfl (.d _) .nil) (vW28 w) rfl)) ?_
          refine rg_put (d := 41) (v := .d (.fl (.bool ((!(vW w)))))) rfl (og rfl (op_un rfl rfl (u_not _) rfl)) ?_
          refine rg_done rfl ?_
          refine a_cond rfl (fun h11 => ?_) (fun h11 => ?_)
          · skip
            have h12 := t_not h11
            refine a_rseq ?_
            refine rg_put (d := 4) (v := .d (.fl (.slice none 0 0))) rfl (og rfl (op_assign rfl rfl rfl)) ?_
            refine rg_put (d := 5) (v := .d (.fl (.int .i64 0))) rfl (og rfl (op_assign rfl rfl rfl)) ?_
            refine rg_done rfl ?_
            refine a_ret ?_
            show ∃ ds, ResL _ _ _ ds ∧ RV.of ds = _
            refine ⟨[.sl 2 (List.map eIv []), .fl (.int .i64 0)], (.cons (.tmp rfl (.cv (Cv.nil _))) (.cons (.tmp rfl (.d _)) .nil)), ?_⟩
            have hok2 : okI i = true := okI_p.2 (by omega)
            have hE : spE i = 0 := spE_ok (by omega)
            have hL : spL w i = [] := by unfold spL; rw [if_neg (fun h => by rw [h12] at h; exact absurd h.2 (by decide))]
            rw [hE, hL]; rfl
          · skip
            have h13 := f_not h11
            refine a_skip ?_
            show A _ _ _ _ _ _ _
            refine a_rseq ?_
            refine rg_put (d := 8) (v := .d (.fl (.slice none 0 0))) rfl (og rfl (op_assign rfl rfl rfl)) ?_
            refine rg_done rfl ?_
            refine a_seq ?_
            refine a_rseq ?_
            refine rg_imp (imp_nilT 8 103 32 2 rfl rfl) ?_
            have hf1 := vW_p h13
            refine rg_put (d := 42) (v := .d (.fl (.int .i64 (i.fr / 86400)))) rfl (og rfl (op_move rfl rfl rfl)) ?_
            refine rg_put (d := 9) (v := .d (.fl (.int .i64 (i.fr / 86400)))) rfl (og rfl (op_assign rfl rfl rfl)) ?_
            refine rg_done rfl ?_
            refine a_block ?_
            refine a_loop (ι := Nat) (fun n => SS [(0, .d (.ag (eWd w))), (1, .d (.ag (eIv i))), (2, .pt 101 0), (3, .pt 102 0), (4, .d (.fl (.slice none 0 0))), (5, .d (.fl (.int .i64 0))), (6, .d (.fl (.int .i64 (i.fr / 86400)))), (7, .d (.fl (.int .i64 (((i.to - 1) / 86400))))), (27, .d (.fl (.bool ((decide (68719476736 < i.to)))))), (38, .d (.fl (.bool ((decide (366 ≤ (((i.to - 1) / 86400) - (i.fr / 86400)))))))), (41, .d (.fl (.bool ((!(vW w)))))), (9, .d (.fl (.int .i64 ((i.fr / 86400 + (n : Int)))))), (8, .ow 103)] [(101, .bx 48 (eWd w)), (102, .bx 32 (eIv i)), (103, .tr 32 2 (tD eIv (spS w i n)))]) (fun n => n ≤ spN i) (fun n => spN i - n) 0 (by omega) (imp_forget rfl ⟨rfl, rfl, rfl, rfl, rfl, rfl, rfl, rfl, rfl, rfl, rfl, (by show AV.d (.fl (.int .i64 (i.fr / 86400))) = AV.d (.fl (.int .i64 (i.fr / 86400 + ((0 : Nat) : Int)))); simp), rfl, trivial⟩ ⟨rfl, rfl, rfl, trivial⟩) (fun n hok => ?_)
            have hn := hok
            have hsl := spS_len w i n
            have hnn : (n : Int) ≤ (i.to - 1) / 86400 - i.fr / 86400 + 1 := by unfold spN at hn; omega
            refine a_seq ?_
            refine a_rseq ?_
            refine rg_put (d := 43) (v := .d (.fl (.int .i64 ((i.fr / 86400 + (n : Int)))))) rfl (og rfl (op_move rfl rfl rfl)) ?_
            refine rg_put (d := 44) (v := .d (.fl (.int .i64 (((i.to - 1) / 86400))))) rfl (og rfl (op_move rfl rfl rfl)) ?_
            refine rg_put (d := 45) (v := .d (.fl (.bool ((decide ((i.fr / 86400 + (n : Int)) ≤ ((i.to - 1) / 86400))))))) rfl (og rfl (op_bin rfl rfl rfl (b_leq _ _ _ _) rfl)) ?_
            refine rg_done rfl ?_
            refine a_cond rfl (fun h14 => ?_) (fun h14 => ?_)
            · skip
              have h15 := t_dec h14
              refine a_skip ?_
              show A _ _ _ _ _ _ _
              refine a_seq ?_
              refine a_block ?_
              refine a_rseq ?_
              refine rg_put (d := 48) (v := .pt 102 0) rfl (og rfl (of_eff (s_field_pt rfl Try.underlying32 rfl ti3 rfl rfl rfl) rfl)) ?_
              refine rg_put (d := 49) (v := .d (.fl (.int .i64 i.fr))) rfl (og rfl (op_load_pt rfl Try.underlying3 rfl rfl rfl rfl rfl)) ?_
              refine rg_put (d := 50) (v := .d (.fl (.int .i64 ((i.fr / 86400 + (n : Int)))))) rfl (og rfl (op_move rfl rfl rfl)) ?_
              refine rg_put (d := 51) (v := .d (.fl (.int .i64 (((i.fr / 86400 + (n : Int)) * 86400))))) rfl (og rfl (op_bin rfl rfl rfl (fun x y w => b_mul64 _ _ _ x y w (by first | omega | (simp only [spN] at *; omega))) rfl)) ?_
              refine rg_put (d := 52) (v := .pt 101 1) rfl (og rfl (of_eff (s_field_pt rfl Try.underlying48 rfl ti3 rfl rfl rfl) rfl)) ?_
              refine rg_put (d := 53) (v := .d (.fl (.int .i64 w.fr))) rfl (og rfl (op_load_pt rfl Try.underlying3 rfl rfl rfl rfl rfl)) ?_
              refine rg_put (d := 54) (v := .d (.fl (.int .i64 (w.fr * 60)))) rfl (og rfl (op_bin rfl rfl rfl (fun x y w => b_mul64 _ _ _ x y w (by first | omega | (simp only [spN] at *; omega))) rfl)) ?_
              refine rg_put (d := 55) (v := .d (.fl (.int .i64 ((((i.fr / 86400 + (n : Int)) * 86400) + (w.fr * 60)))))) rfl (og rfl (op_bin rfl rfl rfl (fun x y w => b_add64 _ _ _ x y w (by first | omega | (simp only [spN] at *; omega))) rfl)) ?_
              refine rg_put (d := 56) (v := .d (.fl (.int .i64 ((max i.fr ((((i.fr / 86400 + (n : Int)) * 86400) + (w.fr * 60)))))))) rfl (og rfl (op_max rfl rfl rfl rfl)) ?_
              refine rg_put (d := 10) (v := .d (.fl (.int .i64 ((max i.fr ((((i.fr / 86400 + (n : Int)) * 86400) + (w.fr * 60)))))))) rfl (og rfl (op_assign rfl rfl rfl)) ?_
              refine rg_done rfl ?_
              refine a_rseq ?_
              refine rg_put (d := 57) (v := .pt 102 1) rfl (og rfl (of_eff (s_field_pt rfl Try.underlying32 rfl ti3 rfl rfl rfl) rfl)) ?_
              refine rg_put (d := 58) (v := .d (.fl (.int .i64 i.to))) rfl (og rfl (op_load_pt rfl Try.underlying3 rfl rfl rfl rfl rfl)) ?_
              refine rg_put (d := 59) (v := .d (.fl (.int .i64 ((i.fr / 86400 + (n : Int)))))) rfl (og rfl (op_move rfl rfl rfl)) ?_
              refine rg_put (d := 60) (v := .d (.fl (.int .i64 (((i.fr / 86400 + (n : Int)) * 86400))))) rfl (og rfl (op_bin rfl rfl rfl (fun x y w => b_mul64 _ _ _ x y w (by first | omega | (simp only [spN] at *; omega))) rfl)) ?_
              refine rg_put (d := 61) (v := .pt 101 2) rfl (og rfl (of_eff (s_field_pt rfl Try.underlying48 rfl ti3 rfl rfl rfl) rfl)) ?_
              refine rg_put (d := 62) (v := .d (.fl (.int .i64 w.to))) rfl (og rfl (op_load_pt rfl Try.underlying3 rfl rfl rfl rfl rfl)) ?_
              refine rg_put (d := 63) (v := .d (.fl (.int .i64 (w.to * 60)))) rfl (og rfl (op_bin rfl rfl rfl (fun x y w => b_mul64 _ _ _ x y w (by first | omega | (simp only [spN] at *; omega))) rfl)) ?_
              refine rg_put (d := 64) (v := .d (.fl (.int .i64 ((((i.fr / 86400 + (n : Int)) * 86400) + (w.to * 60)))))) rfl (og rfl (op_bin rfl rfl rfl (fun x y w => b_add64 _ _ _ x y w (by first | omega | (simp only [spN] at *; omega))) rfl)) ?_
              refine rg_put (d := 65) (v := .d (.fl (.int .i64 ((min i.to ((((i.fr / 86400 + (n : Int)) * 86400) + (w.to * 60)))))))) rfl (og rfl (op_min rfl rfl rfl rfl)) ?_
              refine rg_put (d := 11) (v := .d (.fl (.int .i64 ((min i.to ((((i.fr / 86400 + (n : Int)) * 86400) + (w.to * 60)))))))) rfl (og rfl (op_assign rfl rfl rfl)) ?_
              refine rg_done rfl ?_
              refine a_seq ?_
              refine a_rseq ?_
              refine rg_put (d := 66) (v := .d (.ag (eWd w))) rfl (og rfl (of_eff (s_load_pts rfl Try.underlying48 rfl ti48 rfl rfl rfl rfl) rfl)) ?_
              refine rg_put (d := 67) (v := .d (.fl (.int .i64 ((i.fr / 86400 + (n : Int)))))) rfl (og rfl (op_move rfl rfl rfl)) ?_
              refine rg_put (d := 68) (v := .d (.fl (.bool ((bitd w.days (((i.fr / 86400 + (n : Int))) % 7).toNat))))) rfl (og rfl (op_call rfl Try.func40 nm40 rfl (.cons rfl (.d _) (.cons rfl (.d _) .nil)) (onDay31 w ((i.fr / 86400 + (n : Int))) ⟨hf1.1, hf1.2.1⟩ (by omega)) rfl)) ?_
              refine rg_put (d := 69) (v := .d (.fl (.bool ((!((bitd w.days (((i.fr / 86400 + (n : Int))) % 7).toNat))))))) rfl (og rfl (op_un rfl rfl (u_not _) rfl)) ?_
              refine rg_put (d := 70) (v := .d (.fl (.bool ((!((bitd w.days (((i.fr / 86400 + (n : Int))) % 7).toNat))))))) rfl (og rfl (op_move rfl rfl rfl)) ?_
              rcases fot ((!((bitd w.days (((i.fr / 86400 + (n : Int))) % 7).toNat)))) with h16 | h16
              · skip
                have h17 := f_not h16
                refine rg_put (d := 71) (v := .d (.fl (.int .i64 ((max i.fr ((((i.fr / 86400 + (n : Int)) * 86400) + (w.fr * 60)))))))) rfl (oy rfl rfl rfl h16 (op_move rfl rfl rfl)) ?_
                refine rg_put (d := 72) (v := .d (.fl (.int .i64 ((min i.to ((((i.fr / 86400 + (n : Int)) * 86400) + (w.to * 60)))))))) rfl (oy rfl rfl rfl h16 (op_move rfl rfl rfl)) ?_
                refine rg_put (d := 73) (v := .d (.fl (.bool ((decide ((min i.to ((((i.fr / 86400 + (n : Int)) * 86400) + (w.to * 60)))) ≤ (max i.fr ((((i.fr / 86400 + (n : Int)) * 86400) + (w.fr * 60)))))))))) rfl (oy rfl rfl rfl h16 (op_bin rfl rfl rfl (b_geq _ _ _ _) rfl)) ?_
                refine rg_put (d := 74) (v := .d (.fl (.bool ((decide ((min i.to ((((i.fr / 86400 + (n : Int)) * 86400) + (w.to * 60)))) ≤ (max i.fr ((((i.fr / 86400 + (n : Int)) * 86400) + (w.fr * 60)))))))))) rfl (og rfl (op_pick rfl rfl (by rw [h16]; rfl) rfl)) ?_
                refine rg_done rfl ?_
                refine a_cond rfl (fun h18 => ?_) (fun h18 => ?_)
                · skip
                  have h19 := t_dec h18
                  refine a_exit ?_
                  show A _ _ _ _ _ _ _
                  refine a_region ?_
                  refine rg_put (d := 46) (v := .d (.fl (.int .i64 ((i.fr / 86400 + (n : Int)))))) rfl (og rfl (op_move rfl rfl rfl)) ?_
                  refine rg_put (d := 47) (v := .d (.fl (.int .i64 (((i.fr / 86400 + (n : Int)) + 1))))) rfl (og rfl (op_bin rfl rfl rfl (fun x y w => b_add64 _ _ _ x y w (by first | omega | (simp only [spN] at *; omega))) rfl)) ?_
                  refine rg_put (d := 9) (v := .d (.fl (.int .i64 (((i.fr / 86400 + (n : Int)) + 1))))) rfl (og rfl (op_assign rfl rfl rfl)) ?_
                  refine rg_done rfl ?_
                  have hds : spS w i (n + 1) = if pok w i (i.fr / 86400 + (n : Int)) = true then extJ (spS w i n) (pc w i (i.fr / 86400 + (n : Int))) else (spS w i n) := rfl
                  have hpk : ¬ pok w i (i.fr / 86400 + (n : Int)) = true := fun h => by have h1 := (pok_p.1 h).2; have h2 := of_decide_eq_true h18; change max _ _ < min _ _ at h1; omega
                  have hst : tD eIv (spS w i n) = tD eIv (spS w i (n + 1)) := by rw [hds, if_neg hpk]
                  show ∃ i, _ ∧ _ ∧ Imp _ _ _ _ _
                  refine ⟨n + 1, (by (show n + 1 ≤ spN i); unfold spN; omega), (by (show spN i - (n + 1) < spN i - n); unfold spN; omega), imp_forget rfl ⟨rfl, rfl, rfl, rfl, rfl, rfl, rfl, rfl, rfl, rfl, rfl, (by show AV.d (.fl (.int .i64 _)) = AV.d (.fl (.int .i64 _)); congr 3; omega), rfl, trivial⟩ ⟨rfl, rfl, (congrArg (fun z => Ob.tr 32 2 z) hst), trivial⟩⟩
                · skip
                  have h20 := f_dec h18
                  refine a_skip ?_
                  show A _ _ _ _ _ _ _
                  refine a_rseq ?_
                  refine rg_put (d := 75) (v := .ow 103) rfl (og rfl (op_move rfl rfl rfl)) ?_
                  refine rg_put (d := 76) (v := .d (.fl (.int .i64 ((((spS w i n)).length : Int))))) rfl (og rfl (op_len_tr rfl Try.underlying34 rfl rfl tD_len rfl)) ?_
                  refine rg_put (d := 12) (v := .d (.fl (.int .i64 ((((spS w i n)).length : Int))))) rfl (og rfl (op_assign rfl rfl rfl)) ?_
                  refine rg_done rfl ?_
                  refine a_rseq ?_
                  refine rg_put (d := 77) (v := .d (.fl (.int .i64 ((((spS w i n)).length : Int))))) rfl (og rfl (op_move rfl rfl rfl)) ?_
                  refine rg_put (d := 78) (v := .d (.fl (.bool ((decide (0 < (((spS w i n)).length : Int))))))) rfl (og rfl (op_bin rfl rfl rfl (b_gtr _ _ _ _) rfl)) ?_
                  refine rg_put (d := 79) (v := .d (.fl (.bool ((decide (0 < (((spS w i n)).length : Int))))))) rfl (og rfl (op_move rfl rfl rfl)) ?_
                  rcases fot ((decide (0 < (((spS w i n)).length : Int)))) with h21 | h21
                  · skip
                    have h22 := f_dec h21
                    refine rg_put (d := 80) (v := .d (.fl undef)) rfl (on rfl rfl rfl h21) ?_
                    refine rg_put (d := 81) (v := .d (.fl undef)) rfl (on rfl rfl rfl h21) ?_
                    refine rg_put (d := 82) (v := .d (.fl undef)) rfl (on rfl rfl rfl h21) ?_
                    refine rg_put (d := 83) (v := .d (.fl undef)) rfl (on rfl rfl rfl h21) ?_
                    refine rg_put (d := 84) (v := .d (.fl undef)) rfl (on rfl rfl rfl h21) ?_
                    refine rg_put (d := 85) (v := .d (.fl undef)) rfl (on rfl rfl rfl h21) ?_
                    refine rg_put (d := 86) (v := .d (.fl undef)) rfl (on rfl rfl rfl h21) ?_
                    refine rg_put (d := 87) (v := .d (.fl undef)) rfl (on rfl rfl rfl h21) ?_
                    refine rg_put (d := 88) (v := .d (.fl (.bool false))) rfl (og rfl (op_pick rfl rfl (by rw [h21]; rfl) rfl)) ?_
                    refine rg_done rfl ?_
                    refine a_condF rfl rfl ?_
                    refine a_region ?_
                    refine rg_put (d := 95) (v := .ow 103) rfl (og rfl (op_move rfl rfl rfl)) ?_
                    refine rg_put (d := 96) (v := .d (.fl (.int .i64 ((max i.fr ((((i.fr / 86400 + (n : Int)) * 86400) + (w.fr * 60)))))))) rfl (og rfl (op_move rfl rfl rfl)) ?_
                    refine rg_put (d := 97) (v := .d (.fl (.int .i64 ((min i.to ((((i.fr / 86400 + (n : Int)) * 86400) + (w.to * 60)))))))) rfl (og rfl (op_move rfl rfl rfl)) ?_
                    refine rg_put (d := 98) (v := .d (.ag (eIv ((Ivl.mk ((max i.fr ((((i.fr / 86400 + (n : Int)) * 86400) + (w.fr * 60))))) ((min i.to ((((i.fr / 86400 + (n : Int)) * 86400) + (w.to * 60)))))))))) rfl (og rfl (of_eff (op_build rfl Try.underlying32 ti32 rfl (by kernel_rfl) (by kernel_rfl) (pl := #[(0, 1), (1, 1)]) (by kernel_rfl) (.cons rfl rfl (.d _) rfl rfl rfl (.cons rfl rfl (.d _) rfl rfl rfl .nil)) rfl) rfl)) ?_
                    refine rg_put (d := 99) (v := .d (.sl 2 (List.map eIv [(Ivl.mk ((max i.fr ((((i.fr / 86400 + (n : Int)) * 86400) + (w.fr * 60))))) ((min i.to ((((i.fr / 86400 + (n : Int)) * 86400) + (w.to * 60))))))]))) rfl (og rfl (of_eff (op_slices rfl Try.underlying34 ti32 rfl rfl rfl (by kernel_rfl) (xs := [.ag (eIv ((Ivl.mk ((max i.fr ((((i.fr / 86400 + (n : Int)) * 86400) + (w.fr * 60))))) ((min i.to ((((i.fr / 86400 + (n : Int)) * 86400) + (w.to * 60))))))))]) rfl rfl (.cons rfl rfl (.d _) rfl rfl rfl .nil) rfl) rfl)) ?_
                    refine rg_nam (d := 100) (v := .ow 104) (m := 104) (nw := [(104, .tr 32 2 (tD eIv (((spS w i n) ++ [(Ivl.mk ((max i.fr ((((i.fr / 86400 + (n : Int)) * 86400) + (w.fr * 60))))) ((min i.to ((((i.fr / 86400 + (n : Int)) * 86400) + (w.to * 60))))))])))), (103, .no)]) rfl (og rfl (of_eff (s_append_td 104 rfl Try.underlying34 ti32 rfl rfl rfl rfl rfl (.d _) (by simp only [List.length_append, List.length_cons, List.length_nil]; omega) rfl) rfl)) rfl ?_
                    refine rg_put (d := 8) (v := .ow 104) rfl (og rfl (op_assign rfl rfl rfl)) ?_
                    refine rg_done rfl ?_
                    show A _ _ _ _ _ _ _
                    refine a_region ?_
                    refine rg_put (d := 46) (v := .d (.fl (.int .i64 ((i.fr / 86400 + (n : Int)))))) rfl (og rfl (op_move rfl rfl rfl)) ?_
                    refine rg_put (d := 47) (v := .d (.fl (.int .i64 (((i.fr / 86400 + (n : Int)) + 1))))) rfl (og rfl (op_bin rfl rfl rfl (fun x y w => b_add64 _ _ _ x y w (by first | omega | (simp only [spN] at *; omega))) rfl)) ?_
                    refine rg_put (d := 9) (v := .d (.fl (.int .i64 (((i.fr / 86400 + (n : Int)) + 1))))) rfl (og rfl (op_assign rfl rfl rfl)) ?_
                    refine rg_done rfl ?_
                    have hds : spS w i (n + 1) = if pok w i (i.fr / 86400 + (n : Int)) = true then extJ (spS w i n) (pc w i (i.fr / 86400 + (n : Int))) else (spS w i n) := rfl
                    have hpk : pok w i (i.fr / 86400 + (n : Int)) = true := pok_p.2 ⟨h17, by have h2 := of_decide_eq_false h18; show max _ _ < min _ _; omega⟩
                    have hno : ¬ (0 < (spS w i n).length ∧ (ix (spS w i n) ((spS w i n).length - 1)).to = (pc w i (i.fr / 86400 + (n : Int))).fr) := fun h => by omega
                    have hxx : spS w i (n + 1) = (spS w i n) ++ [(pc w i (i.fr / 86400 + (n : Int)))] := by rw [hds, if_pos hpk]; exact if_neg hno
                    have hst : tD eIv ((spS w i n) ++ [(pc w i (i.fr / 86400 + (n : Int)))]) = tD eIv (spS w i (n + 1)) := by rw [hxx]
                    show ∃ i, _ ∧ _ ∧ Imp _ _ _ _ _
                    refine ⟨n + 1, (by (show n + 1 ≤ spN i); unfold spN; omega), (by (show spN i - (n + 1) < spN i - n); unfold spN; omega), imp_ren (fun m => bif Nat.beq m 103 then 104 else m) rfl ⟨rfl, rfl, rfl, rfl, rfl, rfl, rfl, rfl, rfl, rfl, rfl, (by show AV.d (.fl (.int .i64 _)) = AV.d (.fl (.int .i64 _)); congr 3; omega), rfl, trivial⟩ ⟨rfl, rfl, (congrArg (fun z => Ob.tr 32 2 z) hst), trivial⟩⟩
                  · skip
                    have h23 := t_dec h21
                    refine rg_put (d := 80) (v := .ow 103) rfl (oy rfl rfl rfl h21 (op_move rfl rfl rfl)) ?_
                    refine rg_put (d := 81) (v := .d (.fl (.int .i64 ((((spS w i n)).length : Int))))) rfl (oy rfl rfl rfl h21 (op_move rfl rfl rfl)) ?_
                    refine rg_put (d := 82) (v := .d (.fl (.int .i64 (((((spS w i n)).length : Int) - 1))))) rfl (oy rfl rfl rfl h21 (op_bin rfl rfl rfl (fun x y w => b_sub64 _ _ _ x y w (by first | omega | (simp only [spN] at *; omega))) rfl)) ?_
                    refine rg_put (d := 83) (v := .pe 103 2 ((((((spS w i n)).length : Int) - 1)).toNat) 0) rfl (oy rfl rfl rfl h21 (op_index_trI rfl Try.underlying34 ti32 rfl rfl rfl (by first | omega | (simp only [spN] at *; omega)) (get_lt (tD_at (by first | omega | (simp only [spN] at *; omega)))) rfl)) ?_
                    refine rg_put (d := 84) (v := .pe 103 2 ((((((spS w i n)).length : Int) - 1)).toNat) 1) rfl (oy rfl rfl rfl h21 (of_eff (op_field_pe rfl Try.underlying32 rfl ti3 rfl rfl rfl) rfl)) ?_
                    refine rg_put (d := 85) (v := .d (.fl (.int .i64 (((ix (spS w i n) ((((((spS w i n)).length : Int) - 1)).toNat))).to)))) rfl (oy rfl rfl rfl h21 (of_eff (op_load_pe rfl Try.underlying3 rfl rfl rfl (tD_at (by first | omega | (simp only [spN] at *; omega))) rfl rfl) rfl)) ?_
                    refine rg_put (d := 86) (v := .d (.fl (.int .i64 ((max i.fr ((((i.fr / 86400 + (n : Int)) * 86400) + (w.fr * 60)))))))) rfl (oy rfl rfl rfl h21 (op_move rfl rfl rfl)) ?_
                    refine rg_put (d := 87) (v := .d (.fl (.bool ((((ix (spS w i n) ((((((spS w i n)).length : Int) - 1)).toNat))).to == (max i.fr ((((i.fr / 86400 + (n : Int)) * 86400) + (w.fr * 60))))))))) rfl (oy rfl rfl rfl h21 (op_bin rfl rfl rfl (b_eql _ _ _ _) rfl)) ?_
                    refine rg_put (d := 88) (v := .d (.fl (.bool ((((ix (spS w i n) ((((((spS w i n)).length : Int) - 1)).toNat))).to == (max i.fr ((((i.fr / 86400 + (n : Int)) * 86400) + (w.fr * 60))))))))) rfl (og rfl (op_pick rfl rfl (by rw [h21]; rfl) rfl)) ?_
                    refine rg_done rfl ?_
                    refine a_cond rfl (fun h24 => ?_) (fun h24 => ?_)
                    · skip
                      have h25 := t_beq h24
                      refine a_region ?_
                      refine rg_put (d := 89) (v := .ow 103) rfl (og rfl (op_move rfl rfl rfl)) ?_
                      refine rg_put (d := 90) (v := .d (.fl (.int .i64 ((((spS w i n)).length : Int))))) rfl (og rfl (op_move rfl rfl rfl)) ?_
                      refine rg_put (d := 91) (v := .d (.fl (.int .i64 (((((spS w i n)).length : Int) - 1))))) rfl (og rfl (op_bin rfl rfl rfl (fun x y w => b_sub64 _ _ _ x y w (by first | omega | (simp only [spN] at *; omega))) rfl)) ?_
                      refine rg_put (d := 92) (v := .d (.fl (.int .i64 ((min i.to ((((i.fr / 86400 + (n : Int)) * 86400) + (w.to * 60)))))))) rfl (og rfl (op_move rfl rfl rfl)) ?_
                      refine rg_put (d := 93) (v := .pe 103 2 ((((((spS w i n)).length : Int) - 1)).toNat) 0) rfl (og rfl (op_index_trI rfl Try.underlying34 ti32 rfl rfl rfl (by first | omega | (simp only [spN] at *; omega)) (get_lt (tD_at (by first | omega | (simp only [spN] at *; omega)))) rfl)) ?_
                      refine rg_put (d := 94) (v := .pe 103 2 ((((((spS w i n)).length : Int) - 1)).toNat) 1) rfl (og rfl (of_eff (op_field_pe rfl Try.underlying32 rfl ti3 rfl rfl rfl) rfl)) ?_
                      refine rg_sto (nw := [(103, .tr 32 2 ((((tD eIv (spS w i n))).set ((((((spS w i n)).length : Int) - 1)).toNat) [.dv (.fl (.int .i64 (((ix (spS w i n) ((((((spS w i n)).length : Int) - 1)).toNat))).fr))), .dv (.fl (.int .i64 ((min i.to ((((i.fr / 86400 + (n : Int)) * 86400) + (w.to * 60)))))))])))]) rfl (og rfl (of_eff (op_store_pe rfl rfl ti3 rfl rfl (tD_at (by first | omega | (simp only [spN] at *; omega))) rfl (.d rfl) rfl rfl rfl) rfl)) ?_
                      refine rg_done rfl ?_
                      show A _ _ _ _ _ _ _
                      refine a_region ?_
                      refine rg_put (d := 46) (v := .d (.fl (.int .i64 ((i.fr / 86400 + (n : Int)))))) rfl (og rfl (op_move rfl rfl rfl)) ?_
                      refine rg_put (d := 47) (v := .d (.fl (.int .i64 (((i.fr / 86400 + (n : Int)) + 1))))) rfl (og rfl (op_bin rfl rfl rfl (fun x y w => b_add64 _ _ _ x y w (by first | omega | (simp only [spN] at *; omega))) rfl)) ?_
                      refine rg_put (d := 9) (v := .d (.fl (.int .i64 (((i.fr / 86400 + (n : Int)) + 1))))) rfl (og rfl (op_assign rfl rfl rfl)) ?_
                      refine rg_done rfl ?_
                      have hds : spS w i (n + 1) = if pok w i (i.fr / 86400 + (n : Int)) = true then extJ (spS w i n) (pc w i (i.fr / 86400 + (n : Int))) else (spS w i n) := rfl
                      have hpk : pok w i (i.fr / 86400 + (n : Int)) = true := pok_p.2 ⟨h17, by have h2 := of_decide_eq_false h18; show max _ _ < min _ _; omega⟩
                      have hpv : (((spS w i n).length : Int) - 1).toNat = (spS w i n).length - 1 := by omega
                      have hee : (ix (spS w i n) ((spS w i n).length - 1)).to = (pc w i (i.fr / 86400 + (n : Int))).fr := by have h := eq_of_beq h24; rw [hpv] at h; exact h
                      have hxx : spS w i (n + 1) = (spS w i n).set ((spS w i n).length - 1) ⟨(ix (spS w i n) ((spS w i n).length - 1)).fr, (pc w i (i.fr / 86400 + (n : Int))).to⟩ := by rw [hds, if_pos hpk]; exact if_pos ⟨by omega, hee⟩
                      have hst : (((tD eIv (spS w i n))).set ((((((spS w i n)).length : Int) - 1)).toNat) [.dv (.fl (.int .i64 (((ix (spS w i n) ((((((spS w i n)).length : Int) - 1)).toNat))).fr))), .dv (.fl (.int .i64 ((min i.to ((((i.fr / 86400 + (n : Int)) * 86400) + (w.to * 60)))))))]) = tD eIv (spS w i (n + 1)) := (tD_set (α := Ivl) (x := ⟨(ix (spS w i n) (((spS w i n).length : Int) - 1).toNat).fr, (pc w i (i.fr / 86400 + (n : Int))).to⟩) rfl).trans (by rw [hpv, hxx])
                      show ∃ i, _ ∧ _ ∧ Imp _ _ _ _ _
                      refine ⟨n + 1, (by (show n + 1 ≤ spN i); unfold spN; omega), (by (show spN i - (n + 1) < spN i - n); unfold spN; omega), imp_forget rfl ⟨rfl, rfl, rfl, rfl, rfl, rfl, rfl, rfl, rfl, rfl, rfl, (by show AV.d (.fl (.int .i64 _)) = AV.d (.fl (.int .i64 _)); congr 3; omega), rfl, trivial⟩ ⟨rfl, rfl, (congrArg (fun z => Ob.tr 32 2 z) hst), trivial⟩⟩
                    · skip
                      have h26 := f_beq h24
                      refine a_region ?_
                      refine rg_put (d := 95) (v := .ow 103) rfl (og rfl (op_move rfl rfl rfl)) ?_
                      refine rg_put (d := 96) (v := .d (.fl (.int .i64 ((max i.fr ((((i.fr / 86400 + (n : Int)) * 86400) + (w.fr * 60)))))))) rfl (og rfl (op_move rfl rfl rfl)) ?_
                      refine rg_put (d := 97) (v := .d (.fl (.int .i64 ((min i.to ((((i.fr / 86400 + (n : Int)) * 86400) + (w.to * 60)))))))) rfl (og rfl (op_move rfl rfl rfl)) ?_
                      refine rg_put (d := 98) (v := .d (.ag (eIv ((Ivl.mk ((max i.fr ((((i.fr / 86400 + (n : Int)) * 86400) + (w.fr * 60))))) ((min i.to ((((i.fr / 86400 + (n : Int)) * 86400) + (w.to * 60)))))))))) rfl (og rfl (of_eff (op_build rfl Try.underlying32 ti32 rfl (by kernel_rfl) (by kernel_rfl) (pl := #[(0, 1), (1, 1)]) (by kernel_rfl) (.cons rfl rfl (.d _) rfl rfl rfl (.cons rfl rfl (.d _) rfl rfl rfl .nil)) rfl) rfl)) ?_
                      refine rg_put (d := 99) (v := .d (.sl 2 (List.map eIv [(Ivl.mk ((max i.fr ((((i.fr / 86400 + (n : Int)) * 86400) + (w.fr * 60))))) ((min i.to ((((i.fr / 86400 + (n : Int)) * 86400) + (w.to * 60))))))]))) rfl (og rfl (of_eff (op_slices rfl Try.underlying34 ti32 rfl rfl rfl (by kernel_rfl) (xs := [.ag (eIv ((Ivl.mk ((max i.fr ((((i.fr / 86400 + (n : Int)) * 86400) + (w.fr * 60))))) ((min i.to ((((i.fr / 86400 + (n : Int)) * 86400) + (w.to * 60))))))))]) rfl rfl (.cons rfl rfl (.d _) rfl rfl rfl .nil) rfl) rfl)) ?_
                      refine rg_nam (d := 100) (v := .ow 105) (m := 105) (nw := [(105, .tr 32 2 (tD eIv (((spS w i n) ++ [(Ivl.mk ((max i.fr ((((i.fr / 86400 + (n : Int)) * 86400) + (w.fr * 60))))) ((min i.to ((((i.fr / 86400 + (n : Int)) * 86400) + (w.to * 60))))))])))), (103, .no)]) rfl (og rfl (of_eff (s_append_td 105 rfl Try.underlying34 ti32 rfl rfl rfl rfl rfl (.d _) (by simp only [List.length_append, List.length_cons, List.length_nil]; omega) rfl) rfl)) rfl ?_
                      refine rg_put (d := 8) (v := .ow 105) rfl (og rfl (op_assign rfl rfl rfl)) ?_
                      refine rg_done rfl ?_
                      show A _ _ _ _ _ _ _
                      refine a_region ?_
                      refine rg_put (d := 46) (v := .d (.fl (.int .i64 ((i.fr / 86400 + (n : Int)))))) rfl (og rfl (op_move rfl rfl rfl)) ?_
                      refine rg_put (d := 47) (v := .d (.fl (.int .i64 (((i.fr / 86400 + (n : Int)) + 1))))) rfl (og rfl (op_bin rfl rfl rfl (fun x y w => b_add64 _ _ _ x y w (by first | omega | (simp only [spN] at *; omega))) rfl)) ?_
                      refine rg_put (d := 9) (v := .d (.fl (.int .i64 (((i.fr / 86400 + (n : Int)) + 1))))) rfl (og rfl (op_assign rfl rfl rfl)) ?_
                      refine rg_done rfl ?_
                      have hds : spS w i (n + 1) = if pok w i (i.fr / 86400 + (n : Int)) = true then extJ (spS w i n) (pc w i (i.fr / 86400 + (n : Int))) else (spS w i n) := rfl
                      have hpk : pok w i (i.fr / 86400 + (n : Int)) = true := pok_p.2 ⟨h17, by have h2 := of_decide_eq_false h18; show max _ _ < min _ _; omega⟩
                      have hpv : (((spS w i n).length : Int) - 1).toNat = (spS w i n).length - 1 := by omega
                      have hno : ¬ (0 < (spS w i n).length ∧ (ix (spS w i n) ((spS w i n).length - 1)).to = (pc w i (i.fr / 86400 + (n : Int))).fr) := fun h => by have h1 := h24; rw [hpv] at h1; have h2 := f_beq h1; exact h2 h.2
                      have hxx : spS w i (n + 1) = (spS w i n) ++ [(pc w i (i.fr / 86400 + (n : Int)))] := by rw [hds, if_pos hpk]; exact if_neg hno
                      have hst : tD eIv ((spS w i n) ++ [(pc w i (i.fr / 86400 + (n : Int)))]) = tD eIv (spS w i (n + 1)) := by rw [hxx]
                      show ∃ i, _ ∧ _ ∧ Imp _ _ _ _ _
                      refine ⟨n + 1, (by (show n + 1 ≤ spN i); unfold spN; omega), (by (show spN i - (n + 1) < spN i - n); unfold spN; omega), imp_ren (fun m => bif Nat.beq m 103 then 105 else m) rfl ⟨rfl, rfl, rfl, rfl, rfl, rfl, rfl, rfl, rfl, rfl, rfl, (by show AV.d (.fl (.int .i64 _)) = AV.d (.fl (.int .i64 _)); congr 3; omega), rfl, trivial⟩ ⟨rfl, rfl, (congrArg (fun z => Ob.tr 32 2 z) hst), trivial⟩⟩
              · skip
                have h27 := t_not h16
                refine rg_put (d := 71) (v := .d (.fl undef)) rfl (on rfl rfl rfl h16) ?_
                refine rg_put (d := 72) (v := .d (.fl undef)) rfl (on rfl rfl rfl h16) ?_
                refine rg_put (d := 73) (v := .d (.fl undef)) rfl (on rfl rfl rfl h16) ?_
                refine rg_put (d := 74) (v := .d (.fl (.bool true))) rfl (og rfl (op_pick rfl rfl (by rw [h16]; rfl) rfl)) ?_
                refine rg_done rfl ?_
                refine a_condK rfl rfl ?_
                refine a_exit ?_
                show A _ _ _ _ _ _ _
                refine a_region ?_
                refine rg_put (d := 46) (v := .d (.fl (.int .i64 ((i.fr / 86400 + (n : Int)))))) rfl (og rfl (op_move rfl rfl rfl)) ?_
                refine rg_put (d := 47) (v := .d (.fl (.int .i64 (((i.fr / 86400 + (n : Int)) + 1))))) rfl (og rfl (op_bin rfl rfl rfl (fun x y w => b_add64 _ _ _ x y w (by first | omega | (simp only [spN] at *; omega))) rfl)) ?_
                refine rg_put (d := 9) (v := .d (.fl (.int .i64 (((i.fr / 86400 + (n : Int)) + 1))))) rfl (og rfl (op_assign rfl rfl rfl)) ?_
                refine rg_done rfl ?_
                have hds : spS w i (n + 1) = if pok w i (i.fr / 86400 + (n : Int)) = true then extJ (spS w i n) (pc w i (i.fr / 86400 + (n : Int))) else (spS w i n) := rfl
                have hpk : ¬ pok w i (i.fr / 86400 + (n : Int)) = true := fun h => by have h1 := (pok_p.1 h).1; rw [h27] at h1; cases h1
                have hst : tD eIv (spS w i n) = tD eIv (spS w i (n + 1)) := by rw [hds, if_neg hpk]
                show ∃ i, _ ∧ _ ∧ Imp _ _ _ _ _
                refine ⟨n + 1, (by (show n + 1 ≤ spN i); unfold spN; omega), (by (show spN i - (n + 1) < spN i - n); unfold spN; omega), imp_forget rfl ⟨rfl, rfl, rfl, rfl, rfl, rfl, rfl, rfl, rfl, rfl, rfl, (by show AV.d (.fl (.int .i64 _)) = AV.d (.fl (.int .i64 _)); congr 3; omega), rfl, trivial⟩ ⟨rfl, rfl, (congrArg (fun z => Ob.tr 32 2 z) hst), trivial⟩⟩
            · skip
              have h28 := f_dec h14
              refine a_exit ?_
              show A _ _ _ _ _ _ _
              refine a_rseq ?_
              refine rg_put (d := 101) (v := .ow 103) rfl (og rfl (op_move rfl rfl rfl)) ?_
              refine rg_put (d := 4) (v := .ow 103) rfl (og rfl (op_assign rfl rfl rfl)) ?_
              refine rg_put (d := 5) (v := .d (.fl (.int .i64 0))) rfl (og rfl (op_assign rfl rfl rfl)) ?_
              refine rg_done rfl ?_
              refine a_imp (imp_leakT 4 103 rfl rfl) ?_
              refine a_ret ?_
              show ∃ ds, ResL _ _ _ ds ∧ RV.of ds = _
              refine ⟨[.sl 2 (List.map eIv (spS w i n)), .fl (.int .i64 0)], (.cons (.tmp rfl (.d _)) (.cons (.tmp rfl (.d _)) .nil)), ?_⟩
              have hok2 : okI i = true := okI_p.2 (by omega)
              have hE : spE i = 0 := spE_ok (by omega)
              have hnq : n = spN i := by unfold spN at hn ⊢; omega
              have hL : spL w i = spS w i n := by unfold spL; rw [if_pos ⟨hE, h13⟩, hnq]
              rw [hE, hL]; rfl
    · skip
      have h29 := t_dec h3
      refine rg_put (d := 24) (v := .d (.fl undef)) rfl (on rfl rfl rfl h3) ?_
      refine rg_put (d := 25) (v := .d (.fl undef)) rfl (on rfl rfl rfl h3) ?_
      refine rg_put (d := 26) (v := .d (.fl undef)) rfl (on rfl rfl rfl h3) ?_
      refine rg_put (d := 27) (v := .d (.fl (.bool true))) rfl (og rfl (op_pick rfl rfl (by rw [h3]; rfl) rfl)) ?_
      refine rg_done rfl ?_
      refine a_condK rfl rfl ?_
      refine a_rseq ?_
      refine rg_put (d := 4) (v := .d (.fl (.slice none 0 0))) rfl (og rfl (op_assign rfl rfl rfl)) ?_
      refine rg_put (d := 5) (v := .d (.fl (.int .i64 12))) rfl (og rfl (op_assign rfl rfl rfl)) ?_
      refine rg_done rfl ?_
      refine a_ret ?_
      show ∃ ds, ResL _ _ _ ds ∧ RV.of ds = _
      refine ⟨[.sl 2 (List.map eIv []), .fl (.int .i64 12)], (.cons (.tmp rfl (.cv (Cv.nil _))) (.cons (.tmp rfl (.d _)) .nil)), ?_⟩
      have hE : spE i = 12 := by unfold spE; rw [if_pos (by cases hq : okI i with | false => rfl | true => (exfalso; have := okI_p.1 hq; omega))]
      have hL : spL w i = [] := by unfold spL; rw [if_neg (fun h => by rw [hE] at h; exact absurd h.1 (by decide))]
      rw [hE, hL]; rfl
  · skip
    have h30 := t_dec h1
    refine rg_put (d := 17) (v := .d (.fl undef)) rfl (on rfl rfl rfl h1) ?_
    refine rg_put (d := 18) (v := .d (.fl undef)) rfl (on rfl rfl rfl h1) ?_
    refine rg_put (d := 19) (v := .d (.fl undef)) rfl (on rfl rfl rfl h1) ?_
    refine rg_put (d := 20) (v := .d (.fl undef)) rfl (on rfl rfl rfl h1) ?_
    refine rg_put (d := 21) (v := .d (.fl undef)) rfl (on rfl rfl rfl h1) ?_
    refine rg_put (d := 22) (v := .d (.fl (.bool true))) rfl (og rfl (op_pick rfl rfl (by rw [h1]; rfl) rfl)) ?_
    refine rg_put (d := 23) (v := .d (.fl (.bool true))) rfl (og rfl (op_move rfl rfl rfl)) ?_
    refine rg_put (d := 24) (v := .d (.fl undef)) rfl (on rfl rfl rfl rfl) ?_
    refine rg_put (d := 25) (v := .d (.fl undef)) rfl (on rfl rfl rfl rfl) ?_
    refine rg_put (d := 26) (v := .d (.fl undef)) rfl (on rfl rfl rfl rfl) ?_
    refine rg_put (d := 27) (v := .d (.fl (.bool true))) rfl (og rfl (op_pick rfl rfl rfl rfl)) ?_
    refine rg_done rfl ?_
    refine a_condK rfl rfl ?_
    refine a_rseq ?_
    refine rg_put (d := 4) (v := .d (.fl (.slice none 0 0))) rfl (og rfl (op_assign rfl rfl rfl)) ?_
    refine rg_put (d := 5) (v := .d (.fl (.int .i64 12))) rfl (og rfl (op_assign rfl rfl rfl)) ?_
    refine rg_done rfl ?_
    refine a_ret ?_
    show ∃ ds, ResL _ _ _ ds ∧ RV.of ds = _
    refine ⟨[.sl 2 (List.map eIv []), .fl (.int .i64 12)], (.cons (.tmp rfl (.cv (Cv.nil _))) (.cons (.tmp rfl (.d _)) .nil)), ?_⟩
    have hE : spE i = 12 := by unfold spE; rw [if_pos (by cases hq : okI i with | false => rfl | true => (exfalso; have := okI_p.1 hq; omega))]
    have hL : spL w i = [] := by unfold spL; rw [if_neg (fun h => by rw [hE] at h; exact absurd h.1 (by decide))]
    rw [hE, hL]; rfl
end Go.Proofs.Ytniefocnfcaebaa.Wk
