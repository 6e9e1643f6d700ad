/- The next time at which a fee is due. Conditions: as each theorem names them. -/
import Derived.Test.YtniefocnfcaebaaAvN
import Derived.Test.YtniefocnfcaebaaB1
set_option linter.unusedSimpArgs false
set_option linter.unusedVariables false
namespace Go.Proofs.Ytniefocnfcaebaa.Wk
open Go Go.RowKit Go.Proofs.Ytniefocnfcaebaa.Av
theorem inW_p {w : Wd} {x : Int} : inW w x = true ↔ (vW w = true ∧ 0 ≤ x ∧ x < 68719476736 ∧ bitd w.days (x / 86400 % 7).toNat = true ∧ w.fr ≤ x % 86400 / 60 ∧ x % 86400 / 60 < w.to) := by
  unfold inW isT
  simp only [Bool.and_eq_true, decide_eq_true_eq]
  constructor
  · rintro ⟨⟨h1, h2, h3⟩, ⟨h4, h5⟩, h6⟩; exact ⟨h1, h2, h3, h4, h5, h6⟩
  · rintro ⟨h1, h2, h3, h4, h5, h6⟩; exact ⟨⟨h1, h2, h3⟩, ⟨h4, h5⟩, h6⟩
theorem vW_p {w : Wd} (h : vW w = true) : 1 ≤ w.days ∧ w.days ≤ 127 ∧ 0 ≤ w.fr ∧ w.fr < w.to ∧ w.to ≤ 1440 := by
  unfold vW at h
  simp only [Bool.and_eq_true, decide_eq_true_eq] at h
  exact ⟨h.1.1.1.1, h.1.1.1.2, h.1.1.2, h.1.2, h.2⟩
def cdt (w : Wd) (d : Int) : Int := d * 86400 + w.fr * 60
def stp (w : Wd) (t F d : Int) : Int := bif (decide (t < cdt w d) && decide (cdt w d < F)) && inW w (cdt w d) then cdt w d else F
def inn (w : Wd) (t F : Int) : Nat → Int
  | 0 => F
  | n + 1 => stp w t (inn w t F n) (t / 86400 + (n : Int))
def outT (l : List Wd) (t : Int) : Nat → Int
  | 0 => 68719476736
  | k + 1 => inn (ix l k) t (outT l t k) 8
theorem inn_s (w : Wd) (t F : Int) (n : Nat) : inn w t F (n + 1) = stp w t (inn w t F n) (t / 86400 + (n : Int)) := rfl
theorem outT_s (l : List Wd) (t : Int) (k : Nat) : outT l t (k + 1) = inn (ix l k) t (outT l t k) 8 := rfl
theorem stp_yes {w : Wd} {t F d : Int} (h1 : t < cdt w d) (h2 : cdt w d < F) (h3 : inW w (cdt w d) = true) : stp w t F d = cdt w d := by unfold stp; rw [decide_eq_true h1, decide_eq_true h2, h3]; rfl
theorem stp_no {w : Wd} {t F d : Int} (h : ¬ (t < cdt w d ∧ cdt w d < F ∧ inW w (cdt w d) = true)) : stp w t F d = F := by
  unfold stp
  cases hb : (decide (t < cdt w d) && decide (cdt w d < F)) && inW w (cdt w d) with
  | false => rfl
  | true =>
    simp only [Bool.and_eq_true, decide_eq_true_eq] at hb
    exact absurd ⟨hb.1.1, hb.1.2, hb.2⟩ h
theorem stp_le (w : Wd) (t F d : Int) : stp w t F d ≤ F ∧ (stp w t F d = F ∨ (t < stp w t F d ∧ inW w (stp w t F d) = true)) ∧ (t < cdt w d → inW w (cdt w d) = true → stp w t F d ≤ cdt w d) := by
  by_cases h : t < cdt w d ∧ cdt w d < F ∧ inW w (cdt w d) = true
  · rw [stp_yes h.1 h.2.1 h.2.2]
    exact ⟨by omega, .inr ⟨h.1, h.2.2⟩, fun _ _ => by omega⟩
  · rw [stp_no h]
    refine ⟨by omega, .inl rfl, fun h1 h2 => ?_⟩
    rcases Int.lt_or_le (cdt w d) F with h3 | h3
    · exact absurd ⟨h1, h3, h2⟩ h
    · exact h3
theorem inn_le (w : Wd) (t F : Int) : ∀ n, inn w t F n ≤ F ∧ (inn w t F n = F ∨ (t < inn w t F n ∧ inW w (inn w t F n) = true)) ∧ (∀ j : Nat, j < n → t < cdt w (t / 86400 + (j : Int)) → inW w (cdt w (t / 86400 + (j : Int))) = true → inn w t F n ≤ cdt w (t / 86400 + (j : Int)))
  | 0 => ⟨Int.le_refl _, .inl rfl, fun j hj => by omega⟩
  | n + 1 => by
    obtain ⟨h1, h2, h3⟩ := inn_le w t F n
    obtain ⟨g1, g2, g3⟩ := stp_le w t (inn w t F n) (t / 86400 + (n : Int))
    rw [inn_s]
    refine ⟨by omega, ?_, fun j hj a b => ?_⟩
    · rcases g2 with g2 | g2
      · rw [g2]; exact h2
      · exact .inr g2
    · by_cases hjn : j = n
      · subst hjn; exact g3 a b
      · have := h3 j (by omega) a b
        omega
theorem outT_le (l : List Wd) (t : Int) : ∀ k, outT l t k ≤ 68719476736 ∧ (outT l t k = 68719476736 ∨ (t < outT l t k ∧ ∃ i, i < k ∧ inW (ix l i) (outT l t k) = true)) ∧ (∀ i, i < k → ∀ j : Nat, j < 8 → t < cdt (ix l i) (t / 86400 + (j : Int)) → inW (ix l i) (cdt (ix l i) (t / 86400 + (j : Int))) = true → outT l t k ≤ cdt (ix l i) (t / 86400 + (j : Int)))
  | 0 => ⟨Int.le_refl _, .inl rfl, fun i hi => by omega⟩
  | k + 1 => by
    obtain ⟨h1, h2, h3⟩ := outT_le l t k
    obtain ⟨g1, g2, g3⟩ := inn_le (ix l k) t (outT l t k) 8
    rw [outT_s]
    refine ⟨by omega, ?_, fun i hi j hj a b => ?_⟩
    · rcases g2 with g2 | ⟨g2, g4⟩
      · rw [g2]
        rcases h2 with h2 | ⟨h2, i, h4, h5⟩
        · exact .inl h2
        · exact .inr ⟨h2, i, by omega, h5⟩
      · exact .inr ⟨g2, k, by omega, g4⟩
    · by_cases hik : i = k
      · subst hik; exact g3 j hj a b
      · have := h3 i (by omega) j hj a b
        omega
theorem cdt_in {w : Wd} {d : Int} (hv : vW w = true) (h0 : 0 ≤ d) (hlt : cdt w d < 68719476736) (hb : bitd w.days (d % 7).toNat = true) : inW w (cdt w d) = true := by
  obtain ⟨_, _, h3, h4, h5⟩ := vW_p hv
  have hlt := hlt
  unfold cdt at hlt ⊢
  have e1 : (d * 86400 + w.fr * 60) / 86400 = d := by omega
  have e2 : (d * 86400 + w.fr * 60) % 86400 / 60 = w.fr := by omega
  rw [inW_p, e1, e2]
  exact ⟨hv, by omega, hlt, hb, by omega, h4⟩
theorem key_start {w : Wd} {t x : Int} (ht : 0 ≤ t) (hx : inW w x = true) (htx : t < x) (hn : inW w t = false) : ∃ j : Nat, j < 8 ∧ t < cdt w (t / 86400 + (j : Int)) ∧ inW w (cdt w (t / 86400 + (j : Int))) = true ∧ cdt w (t / 86400 + (j : Int)) ≤ x := by
  obtain ⟨hv, hx0, hx1, hb, hf, hto⟩ := inW_p.1 hx
  obtain ⟨_, _, h3, h4, h5⟩ := vW_p hv
  by_cases hd : x / 86400 ≤ t / 86400 + 7
  · refine ⟨(x / 86400 - t / 86400).toNat, by omega, ?_⟩
    have e : t / 86400 + (((x / 86400 - t / 86400).toNat : Nat) : Int) = x / 86400 := by omega
    rw [e]
    have hle : cdt w (x / 86400) ≤ x := by unfold cdt; omega
    refine ⟨?_, cdt_in hv (by omega) (by omega) hb, hle⟩
    rcases Int.lt_or_le t (cdt w (x / 86400)) with h | h
    · exact h
    · exfalso
      unfold cdt at h
      have e1 : t / 86400 = x / 86400 := by omega
      have : inW w t = true := inW_p.2 ⟨hv, ht, by omega, by rw [e1]; exact hb, by omega, by omega⟩
      rw [this] at hn; cases hn
  · refine ⟨(x / 86400 - t / 86400 - 7 * ((x / 86400 - t / 86400 - 1) / 7)).toNat, by omega, ?_⟩
    have e : t / 86400 + (((x / 86400 - t / 86400 - 7 * ((x / 86400 - t / 86400 - 1) / 7)).toNat : Nat) : Int) = x / 86400 - 7 * ((x / 86400 - t / 86400 - 1) / 7) := by omega
    rw [e]
    have hle : cdt w (x / 86400 - 7 * ((x / 86400 - t / 86400 - 1) / 7)) ≤ x := by unfold cdt; omega
    refine ⟨by unfold cdt; omega, cdt_in hv (by omega) (by omega) ?_, hle⟩
    rw [show (x / 86400 - 7 * ((x / 86400 - t / 86400 - 1) / 7)) % 7 = x / 86400 % 7 by omega]
    exact hb
theorem opn_ex {z : Zn} {x : Int} : opn z x = true ↔ ∃ i, i < (vws (hrs z)).length ∧ inW (ix (vws (hrs z)) i) x = true := by
  unfold opn
  rw [List.any_eq_true]
  constructor
  · rintro ⟨w, hw, h⟩
    obtain ⟨i, hi, rfl⟩ := mem_ix hw
    exact ⟨i, hi, h⟩
  · rintro ⟨i, hi, h⟩
    exact ⟨_, ix_mem hi, h⟩
noncomputable def fst (z : Zn) (t : Int) : Int := outT (vws (hrs z)) t (vws (hrs z)).length
theorem fst_no {z : Zn} {t : Int} (ht : 0 ≤ t) (ho : opn z t = false) (h : fst z t = 68719476736) : ∀ x, t ≤ x → opn z x = false := by
  intro x hx
  cases hc : opn z x with
  | false => rfl
  | true =>
    exfalso
    obtain ⟨i, hi, hw⟩ := opn_ex.1 hc
    have hne : t ≠ x := by rintro rfl; rw [ho] at hc; cases hc
    obtain ⟨j, h1, h2, h3, h4⟩ := key_start ht hw (by omega) (opn_at ho hi)
    have h5 := (outT_le (vws (hrs z)) t _).2.2 i hi j h1 h2 h3
    have h6 := (inW_p.1 h3).2.2.1
    unfold fst at h
    omega
theorem fst_yes {z : Zn} {t : Int} (ht : 0 ≤ t) (ho : opn z t = false) (h : fst z t ≠ 68719476736) : t < fst z t ∧ opn z (fst z t) = true ∧ ∀ x, t ≤ x → x < fst z t → opn z x = false := by
  rcases (outT_le (vws (hrs z)) t (vws (hrs z)).length).2.1 with h1 | ⟨h1, i, h2, h3⟩
  · exact absurd h1 h
  · refine ⟨h1, opn_ex.2 ⟨i, h2, h3⟩, fun x hx hlt => ?_⟩
    cases hc : opn z x with
    | false => rfl
    | true =>
      exfalso
      obtain ⟨i, hi, hw⟩ := opn_ex.1 hc
      have hne : t ≠ x := by rintro rfl; rw [ho] at hc; cases hc
      obtain ⟨j, h1, h2, h3, h4⟩ := key_start ht hw (by omega) (opn_at ho hi)
      have h5 := (outT_le (vws (hrs z)) t _).2.2 i hi j h1 h2 h3
      unfold fst at hlt
      omega
theorem bit_ex : ∀ n : Fin 128, 1 ≤ n.val → ∃ b : Fin 7, (n.val / 2 ^ b.val % 2 == 1) = true := by decide
theorem bitd_ex {d : Int} (h : 1 ≤ d ∧ d ≤ 127) : ∃ b : Nat, b < 7 ∧ bitd d b = true := by
  obtain ⟨b, hb⟩ := bit_ex ⟨d.toNat, by omega⟩ (by show 1 ≤ d.toNat; omega)
  refine ⟨b.val, b.isLt, ?_⟩
  have e : d = ((d.toNat : Nat) : Int) := by omega
  unfold bitd
  rw [e]
  have hb2 : d.toNat / 2 ^ b.val % 2 = 1 := eq_of_beq hb
  have : ((d.toNat : Nat) : Int) / 2 ^ b.val % 2 = 1 := by
    have h3 : ((d.toNat / 2 ^ b.val % 2 : Nat) : Int) = ((d.toNat : Nat) : Int) / 2 ^ b.val % 2 := by simp
    rw [← h3, hb2]; rfl
  rw [this]; rfl
theorem fst_week {z : Zn} {t : Int} (ht : 0 ≤ t) (hlt : t < 68718785536) (ho : opn z t = false) (hne : 0 < (vws (hrs z)).length) : fst z t ≠ 68719476736 ∧ fst z t - t ≤ 604800 := by
  have hm := ix_mem hne
  have hv : vW (ix (vws (hrs z)) 0) = true := (List.mem_filter.1 hm).2
  obtain ⟨hd1, hd2, h3, h4, h5⟩ := vW_p hv
  obtain ⟨b, hb7, hb⟩ := bitd_ex ⟨hd1, hd2⟩
  have key : ∃ j : Nat, j < 8 ∧ t < cdt (ix (vws (hrs z)) 0) (t / 86400 + (j : Int)) ∧ (t / 86400 + (j : Int)) % 7 = (b : Int) ∧ cdt (ix (vws (hrs z)) 0) (t / 86400 + (j : Int)) ≤ t + 604800 := by
    have hj : ∃ j : Nat, j < 7 ∧ (t / 86400 + (j : Int)) % 7 = (b : Int) := ⟨(((b : Int) - t / 86400) % 7).toNat, by omega, by omega⟩
    obtain ⟨j, hj7, hjb⟩ := hj
    by_cases hc : t < cdt (ix (vws (hrs z)) 0) (t / 86400 + (j : Int))
    · exact ⟨j, by omega, hc, hjb, by unfold cdt; omega⟩
    · have hj0 : j = 0 := by unfold cdt at hc; omega
      subst hj0
      refine ⟨7, by omega, by unfold cdt at hc ⊢; omega, by omega, by unfold cdt at hc ⊢; omega⟩
  obtain ⟨j, h8, hlt2, hmod, hle⟩ := key
  have hin := cdt_in hv (d := t / 86400 + (j : Int)) (by omega) (by omega) (by rw [hmod]; simpa using hb)
  have := (outT_le (vws (hrs z)) t _).2.2 0 hne j h8 hlt2 hin
  unfold fst
  omega
noncomputable def nxv (z : Zn) (t : Int) : Int × Bool := if (t < 0 ∨ 68719476736 ≤ t) then (0, false) else if opn z t = true then (t, true) else if fst z t = 68719476736 then (0, false) else (fst z t, true)

theorem vW_ix {z : Zn} {k : Nat} (h : k < (vws (hrs z)).length) : vW (ix (vws (hrs z)) k) = true := (List.mem_filter.1 (ix_mem h)).2

set_option maxHeartbeats 4000000 in
set_option maxRecDepth 100000 in
theorem next10 (z : Zn) (t : Int) (hl : z.hours.length ≤ 60) : Ctr Try.prog 10 [.ag (eZn z), .fl (.int .i64 t)] (.tu [.fl (.int .i64 (nxv z t).1), .fl (.bool (nxv z t).2)]) := by
  refine ctrN (n := 55) (rs := #[.tmp 4, .tmp 5]) (L := [(0, .d (.ag (eZn z))), (1, .d (.fl (.int .i64 t)))]) Try.func10 rfl rfl rfl rfl rfl (fun w0 U0 => ?_)
  refine b_rseq ?_
  refine rg_nam (d := 2) (v := .pt 101 0) (m := 101) (nw := [(101, .bx 25 (eZn z))]) rfl (og rfl (of_eff (op_box 101 rfl rfl rfl rfl) rfl)) rfl ?_
  refine rg_nam (d := 3) (v := .pt 102 0) (m := 102) (nw := [(102, .bx 3 [.fl (.int .i64 t)])]) rfl (og rfl (of_eff (op_box 102 rfl rfl rfl rfl) rfl)) rfl ?_
  refine rg_put (d := 4) (v := .d (.fl (.int .i64 0))) rfl (og rfl (op_assign rfl rfl rfl)) ?_
  refine rg_put (d := 5) (v := .d (.fl (.bool false))) rfl (og rfl (op_assign rfl rfl rfl)) ?_
  refine rg_done rfl ?_
  refine b_seqA ?_
  refine a_rseq ?_
  refine rg_put (d := 10) (v := .d (.fl (.int .i64 t))) rfl (og rfl (op_load_pt rfl Try.underlying3 rfl rfl rfl rfl rfl)) ?_
  refine rg_put (d := 11) (v := .d (.fl (.bool ((decide (t < 0)))))) rfl (og rfl (op_bin rfl rfl rfl (b_lss _ _ _ _) rfl)) ?_
  refine rg_put (d := 12) (v := .d (.fl (.bool ((decide (t < 0)))))) rfl (og rfl (op_move rfl rfl rfl)) ?_
  rcases fot ((decide (t < 0))) with h1 | h1
  · skip
    have h2 := f_dec h1
    refine rg_put (d := 13) (v := .d (.fl (.int .i64 t))) rfl (oy rfl rfl rfl h1 (op_load_pt rfl Try.underlying3 rfl rfl rfl rfl rfl)) ?_
    refine rg_put (d := 14) (v := .d (.fl (.bool ((decide (68719476736 ≤ t)))))) rfl (oy rfl rfl rfl h1 (op_bin rfl rfl rfl (b_geq _ _ _ _) rfl)) ?_
    refine rg_put (d := 15) (v := .d (.fl (.bool ((decide (68719476736 ≤ t)))))) rfl (og rfl (op_pick rfl rfl (by rw [h1]; rfl) rfl)) ?_
    refine rg_done rfl ?_
    refine a_cond rfl (fun h3 => ?_) (fun h3 => ?_)
    · skip
      have h4 := t_dec h3
      refine a_rseq ?_
      refine rg_put (d := 4) (v := .d (.fl (.int .i64 0))) rfl (og rfl (op_assign rfl rfl rfl)) ?_
      refine rg_put (d := 5) (v := .d (.fl (.bool false))) rfl (og rfl (op_assign rfl rfl rfl)) ?_
      refine rg_done rfl ?_
      refine a_ret ?_
      show ∃ ds, ResL _ _ _ ds ∧ RV.of ds = _
      refine ⟨[.fl (.int .i64 0), .fl (.bool false)], (.cons (.tmp rfl (.d _)) (.cons (.tmp rfl (.d _)) .nil)), ?_⟩
      unfold nxv; rw [if_pos (by omega)]; rfl
    · skip
      have h5 := f_dec h3
      refine a_skip ?_
      show B _ _ _ _ _ _ _
      refine b_seqA ?_
      refine a_rseq ?_
      refine rg_put (d := 16) (v := .d (.ag (eZn z))) rfl (og rfl (of_eff (s_load_pts rfl Try.underlying25 rfl ti25 rfl rfl rfl rfl) rfl)) ?_
      refine rg_put (d := 17) (v := .d (.fl (.int .i64 t))) rfl (og rfl (op_load_pt rfl Try.underlying3 rfl rfl rfl rfl rfl)) ?_
      refine rg_put (d := 18) (v := .d (.fl (.bool (opn z t)))) rfl (og rfl (op_call rfl Try.func12 nm12 rfl (.cons rfl (.d _) (.cons rfl (.d _) .nil)) (open12 z t hl) rfl)) ?_
      refine rg_done rfl ?_
      refine a_cond rfl (fun h6 => ?_) (fun h6 => ?_)
      · skip
        refine a_rseq ?_
        refine rg_put (d := 19) (v := .d (.fl (.int .i64 t))) rfl (og rfl (op_load_pt rfl Try.underlying3 rfl rfl rfl rfl rfl)) ?_
        refine rg_put (d := 4) (v := .d (.fl (.int .i64 t))) rfl (og rfl (op_assign rfl rfl rfl)) ?_
        refine rg_put (d := 5) (v := .d (.fl (.bool true))) rfl (og rfl (op_assign rfl rfl rfl)) ?_
        refine rg_done rfl ?_
        refine a_ret ?_
        show ∃ ds, ResL _ _ _ ds ∧ RV.of ds = _
        refine ⟨[.fl (.int .i64 t), .fl (.bool true)], (.cons (.tmp rfl (.d _)) (.cons (.tmp rfl (.d _)) .nil)), ?_⟩
        unfold nxv; rw [if_neg (by omega), if_pos h6]; rfl
      · skip
        refine a_skip ?_
        show B _ _ _ _ _ _ _
        refine b_rseq ?_
        refine rg_nam (d := 6) (v := .pt 103 0) (m := 103) (nw := [(103, .bx 3 [.fl (.int .i64 0)])]) rfl (og rfl (of_eff (s_alloc 103 rfl ti3 (by kernel_rfl) rfl) rfl)) rfl ?_
        refine rg_sto (nw := [(103, .bx 3 [.fl (.int .i64 68719476736)])]) rfl (og rfl (of_eff (s_store rfl rfl ti3 rfl rfl rfl rfl rfl rfl) rfl)) ?_
        refine rg_done rfl ?_
        refine b_seqB ?_
        refine b_rseq ?_
        refine rg_put (d := 20) (v := .d (.ag (eZn z))) rfl (og rfl (of_eff (s_load_pts rfl Try.underlying25 rfl ti25 rfl rfl rfl rfl) rfl)) ?_
        refine rg_put (d := 21) (v := .d (.fn 37 [.el [.sl 3 (List.map eWd (hrs z))]])) rfl (og rfl (op_call rfl Try.func24 nm24 rfl (.cons rfl (.d _) .nil) (hours24 z hl) rfl)) ?_
        refine rg_done rfl ?_
        refine b_block ?_
        refine b_name 2 101 rfl (fun vn2 => ?_)
        refine b_name 3 102 rfl (fun vn3 => ?_)
        refine b_name 6 103 rfl (fun vn6 => ?_)
        refine b_imp (τ := SS [(0, .d (.ag (eZn z))), (1, .d (.fl (.int .i64 t))), (2, .pv 101 vn2), (3, .pv 102 vn3), (4, .d (.fl (.int .i64 0))), (5, .d (.fl (.bool false))), (6, .pv 103 vn6), (15, .d (.fl (.bool ((decide (68719476736 ≤ t)))))), (18, .d (.fl (.bool (opn z t)))), (21, .d (.fn 37 [.el [.sl 3 (List.map eWd (hrs z))]]))] [(101, .bx 25 (eZn z)), (102, .bx 3 [.fl (.int .i64 t)]), (103, .bx 3 [.fl (.int .i64 ((outT (vws (hrs z)) t 0)))])]) (imp_forget rfl ⟨rfl, rfl, rfl, rfl, rfl, rfl, rfl, rfl, rfl, rfl, trivial⟩ ⟨rfl, rfl, (by first | rfl | simp), trivial⟩) ?_
        refine b_range (L := [(0, .d (.ag (eZn z))), (1, .d (.fl (.int .i64 t))), (2, .pv 101 vn2), (3, .pv 102 vn3), (4, .d (.fl (.int .i64 0))), (5, .d (.fl (.bool false))), (6, .pv 103 vn6), (15, .d (.fl (.bool ((decide (68719476736 ≤ t)))))), (18, .d (.fl (.bool (opn z t)))), (21, .d (.fn 37 [.el [.sl 3 (List.map eWd (hrs z))]]))]) (xs := List.map (fun x => .ag (eWd x)) ((vws (hrs z)))) (fun _ => false) (fun k => [(101, .bx 25 (eZn z)), (102, .bx 3 [.fl (.int .i64 t)]), (103, .bx 3 [.fl (.int .i64 ((outT (vws (hrs z)) t k)))])]) rfl Try.func37 nm37 rfl (seqH (hrs z) (hrs_le z hl)) rfl rfl (fun k => rfl) (fun k => rfl) (fun k x hx hst H0 V0 Q0 => ?_) (fun hst H0 V0 Q0 => ?_)
        · skip
          obtain ⟨hkk, rfl⟩ := mapget hx
          refine a_region ?_
          refine rg_nam (d := 7) (v := .pt 104 0) (m := 104) (nw := [(104, .bx 48 [.fl (.int .i64 0), .fl (.int .i64 0), .fl (.int .i64 0)])]) rfl (og rfl (of_eff (s_alloc 104 rfl ti48 (by kernel_rfl) rfl) rfl)) rfl ?_
          refine rg_sto (nw := [(104, .bx 48 ((eWd ((ix ((vws (hrs z))) k)))))]) rfl (og rfl (of_eff (s_store rfl rfl ti48 rfl rfl rfl rfl rfl rfl) rfl)) ?_
          refine rg_done rfl ?_
          show ∃ L1 M1, _ ∧ _ ∧ _
          refine ⟨_, _, rfl, rfl, fun H0 V0 Q0 => ?_⟩
          show A _ _ _ _ _ _ (SS _ _)
          refine a_block ?_
          refine a_rseq ?_
          refine rg_put (d := 23) (v := .d (.fl (.int .i64 t))) rfl (og rfl (op_load_pt rfl Try.underlying3 rfl rfl rfl rfl rfl)) ?_
          refine rg_put (d := 24) (v := .d (.fl (.int .i64 (t / 86400)))) rfl (og rfl (op_bin rfl rfl rfl (fun x y w => b_quo64 _ _ _ x y w (by first | omega | (have hf1 := vW_p (vW_ix hkk); omega)) (by first | omega | (have hf1 := vW_p (vW_ix hkk); omega)) (by first | omega | (have hf1 := vW_p (vW_ix hkk); omega))) rfl)) ?_
          refine rg_put (d := 8) (v := .d (.fl (.int .i64 (t / 86400)))) rfl (og rfl (op_assign rfl rfl rfl)) ?_
          refine rg_done rfl ?_
          refine a_block ?_
          refine a_loop (ι := Nat) (fun j => SS [(0, .d (.ag (eZn z))), (1, .d (.fl (.int .i64 t))), (2, .pv 101 vn2), (3, .pv 102 vn3), (4, .d (.fl (.int .i64 0))), (5, .d (.fl (.bool false))), (6, .pv 103 vn6), (7, .pt 104 0), (15, .d (.fl (.bool ((decide (68719476736 ≤ t)))))), (18, .d (.fl (.bool (opn z t)))), (21, .d (.fn 37 [.el [.sl 3 (List.map eWd (hrs z))]])), (22, .d (.ag (eWd ((ix ((vws (hrs z))) k))))), (8, .d (.fl (.int .i64 ((t / 86400 + (j : Int))))))] [(101, .bx 25 (eZn z)), (102, .bx 3 [.fl (.int .i64 t)]), (999, .pin H0 V0 Q0), (104, .bx 48 ((eWd ((ix ((vws (hrs z))) k))))), (103, .bx 3 [.fl (.int .i64 ((inn (ix (vws (hrs z)) k) t (outT (vws (hrs z)) t k) j)))])]) (fun j => j ≤ 8) (fun j => 8 - j) 0 (by omega) (imp_forget rfl ⟨rfl, rfl, rfl, rfl, rfl, rfl, rfl, rfl, rfl, rfl, rfl, rfl, (by show AV.d (.fl (.int .i64 (t / 86400))) = AV.d (.fl (.int .i64 (t / 86400 + ((0 : Nat) : Int)))); simp), trivial⟩ ⟨rfl, rfl, rfl, rfl, rfl, trivial⟩) (fun j hok => ?_)
          have hj := hok
          have hf1 := vW_p (vW_ix hkk)
          refine a_seq ?_
          refine a_rseq ?_
          refine rg_put (d := 25) (v := .d (.fl (.int .i64 ((t / 86400 + (j : Int)))))) rfl (og rfl (op_move rfl rfl rfl)) ?_
          refine rg_put (d := 26) (v := .d (.fl (.int .i64 t))) rfl (og rfl (op_load_pt rfl Try.underlying3 rfl rfl rfl rfl rfl)) ?_
          refine rg_put (d := 27) (v := .d (.fl (.int .i64 (t / 86400)))) rfl (og rfl (op_bin rfl rfl rfl (fun x y w => b_quo64 _ _ _ x y w (by first | omega | (have hf1 := vW_p (vW_ix hkk); omega)) (by first | omega | (have hf1 := vW_p (vW_ix hkk); omega)) (by first | omega | (have hf1 := vW_p (vW_ix hkk); omega))) rfl)) ?_
          refine rg_put (d := 28) (v := .d (.fl (.int .i64 (((t / 86400) + 7))))) rfl (og rfl (op_bin rfl rfl rfl (fun x y w => b_add64 _ _ _ x y w (by first | omega | (have hf1 := vW_p (vW_ix hkk); omega))) rfl)) ?_
          refine rg_put (d := 29) (v := .d (.fl (.bool ((decide ((t / 86400 + (j : Int)) ≤ ((t / 86400) + 7))))))) rfl (og rfl (op_bin rfl rfl rfl (b_leq _ _ _ _) rfl)) ?_
          refine rg_done rfl ?_
          refine a_cond rfl (fun h7 => ?_) (fun h7 => ?_)
          · skip
            have h8 := t_dec h7
            refine a_skip ?_
            show A _ _ _ _ _ _ _
            refine a_seq ?_
            refine a_block ?_
            refine a_rseq ?_
            refine rg_put (d := 32) (v := .d (.fl (.int .i64 ((t / 86400 + (j : Int)))))) rfl (og rfl (op_move rfl rfl rfl)) ?_
            refine rg_put (d := 33) (v := .d (.fl (.int .i64 (((t / 86400 + (j : Int)) * 86400))))) rfl (og rfl (op_bin rfl rfl rfl (fun x y w => b_mul64 _ _ _ x y w (by first | omega | (have hf1 := vW_p (vW_ix hkk); omega))) rfl)) ?_
            refine rg_put (d := 34) (v := .pt 104 1) rfl (og rfl (of_eff (s_field_pt rfl Try.underlying48 rfl ti3 rfl rfl rfl) rfl)) ?_
            refine rg_put (d := 35) (v := .d (.fl (.int .i64 (((ix ((vws (hrs z))) k)).fr)))) rfl (og rfl (op_load_pt rfl Try.underlying3 rfl rfl rfl rfl rfl)) ?_
            refine rg_put (d := 36) (v := .d (.fl (.int .i64 ((((ix ((vws (hrs z))) k)).fr * 60))))) rfl (og rfl (op_bin rfl rfl rfl (fun x y w => b_mul64 _ _ _ x y w (by first | omega | (have hf1 := vW_p (vW_ix hkk); omega))) rfl)) ?_
            refine rg_put (d := 37) (v := .d (.fl (.int .i64 ((((t / 86400 + (j : Int)) * 86400) + (((ix ((vws (hrs z))) k)).fr * 60)))))) rfl (og rfl (op_bin rfl rfl rfl (fun x y w => b_add64 _ _ _ x y w (by first | omega | (have hf1 := vW_p (vW_ix hkk); omega))) rfl)) ?_
            refine rg_put (d := 9) (v := .d (.fl (.int .i64 ((((t / 86400 + (j : Int)) * 86400) + (((ix ((vws (hrs z))) k)).fr * 60)))))) rfl (og rfl (op_assign rfl rfl rfl)) ?_
            refine rg_done rfl ?_
            refine a_rseq ?_
            refine rg_put (d := 38) (v := .d (.fl (.int .i64 ((((t / 86400 + (j : Int)) * 86400) + (((ix ((vws (hrs z))) k)).fr * 60)))))) rfl (og rfl (op_move rfl rfl rfl)) ?_
            refine rg_put (d := 39) (v := .d (.fl (.int .i64 t))) rfl (og rfl (op_load_pt rfl Try.underlying3 rfl rfl rfl rfl rfl)) ?_
            refine rg_put (d := 40) (v := .d (.fl (.bool ((decide (t < (((t / 86400 + (j : Int)) * 86400) + (((ix ((vws (hrs z))) k)).fr * 60)))))))) rfl (og rfl (op_bin rfl rfl rfl (b_gtr _ _ _ _) rfl)) ?_
            refine rg_put (d := 41) (v := .d (.fl (.bool ((decide (t < (((t / 86400 + (j : Int)) * 86400) + (((ix ((vws (hrs z))) k)).fr * 60)))))))) rfl (og rfl (op_move rfl rfl rfl)) ?_
            rcases fot ((decide (t < (((t / 86400 + (j : Int)) * 86400) + (((ix ((vws (hrs z))) k)).fr * 60))))) with h9 | h9
            · skip
              have h10 := f_dec h9
              refine rg_put (d := 42) (v := .d (.fl undef)) rfl (on rfl rfl rfl h9) ?_
              refine rg_put (d := 43) (v := .d (.fl undef)) rfl (on rfl rfl rfl h9) ?_
              refine rg_put (d := 44) (v := .d (.fl undef)) rfl (on rfl rfl rfl h9) ?_
              refine rg_put (d := 45) (v := .d (.fl (.bool false))) rfl (og rfl (op_pick rfl rfl (by rw [h9]; rfl) rfl)) ?_
              refine rg_put (d := 46) (v := .d (.fl (.bool false))) rfl (og rfl (op_move rfl rfl rfl)) ?_
              refine rg_put (d := 47) (v := .d (.fl undef)) rfl (on rfl rfl rfl rfl) ?_
              refine rg_put (d := 48) (v := .d (.fl undef)) rfl (on rfl rfl rfl rfl) ?_
              refine rg_put (d := 49) (v := .d (.fl undef)) rfl (on rfl rfl rfl rfl) ?_
              refine rg_put (d := 50) (v := .d (.fl (.bool false))) rfl (og rfl (op_pick rfl rfl rfl rfl)) ?_
              refine rg_done rfl ?_
              refine a_condF rfl rfl ?_
              refine a_skip ?_
              show A _ _ _ _ _ _ _
              refine a_region ?_
              refine rg_put (d := 30) (v := .d (.fl (.int .i64 ((t / 86400 + (j : Int)))))) rfl (og rfl (op_move rfl rfl rfl)) ?_
              refine rg_put (d := 31) (v := .d (.fl (.int .i64 (((t / 86400 + (j : Int)) + 1))))) rfl (og rfl (op_bin rfl rfl rfl (fun x y w => b_add64 _ _ _ x y w (by first | omega | (have hf1 := vW_p (vW_ix hkk); omega))) rfl)) ?_
              refine rg_put (d := 8) (v := .d (.fl (.int .i64 (((t / 86400 + (j : Int)) + 1))))) rfl (og rfl (op_assign rfl rfl rfl)) ?_
              refine rg_done rfl ?_
              show ∃ i, _ ∧ _ ∧ Imp _ _ _ _ _
              refine ⟨j + 1, (by omega), by omega, imp_forget rfl ⟨rfl, rfl, rfl, rfl, rfl, rfl, rfl, rfl, rfl, rfl, rfl, rfl, (by show AV.d (.fl (.int .i64 _)) = AV.d (.fl (.int .i64 _)); congr 3; omega), trivial⟩ ⟨rfl, rfl, rfl, rfl, (by show Ob.bx 3 [.fl (.int .i64 _)] = Ob.bx 3 [.fl (.int .i64 (inn (ix (vws (hrs z)) k) t (outT (vws (hrs z)) t k) (j + 1)))]; rw [(inn_s _ _ _ _).trans (stp_no (fun h => of_decide_eq_false h9 h.1))]; try rfl), trivial⟩⟩
            · skip
              have h11 := t_dec h9
              refine rg_put (d := 42) (v := .d (.fl (.int .i64 ((((t / 86400 + (j : Int)) * 86400) + (((ix ((vws (hrs z))) k)).fr * 60)))))) rfl (oy rfl rfl rfl h9 (op_move rfl rfl rfl)) ?_
              refine rg_put (d := 43) (v := .d (.fl (.int .i64 ((inn (ix (vws (hrs z)) k) t (outT (vws (hrs z)) t k) j))))) rfl (oy rfl rfl rfl h9 (op_load_pt rfl Try.underlying3 rfl rfl rfl rfl rfl)) ?_
              refine rg_put (d := 44) (v := .d (.fl (.bool ((decide ((((t / 86400 + (j : Int)) * 86400) + (((ix ((vws (hrs z))) k)).fr * 60)) < (inn (ix (vws (hrs z)) k) t (outT (vws (hrs z)) t k) j))))))) rfl (oy rfl rfl rfl h9 (op_bin rfl rfl rfl (b_lss _ _ _ _) rfl)) ?_
              refine rg_put (d := 45) (v := .d (.fl (.bool ((decide ((((t / 86400 + (j : Int)) * 86400) + (((ix ((vws (hrs z))) k)).fr * 60)) < (inn (ix (vws (hrs z)) k) t (outT (vws (hrs z)) t k) j))))))) rfl (og rfl (op_pick rfl rfl (by rw [h9]; rfl) rfl)) ?_
              refine rg_put (d := 46) (v := .d (.fl (.bool ((decide ((((t / 86400 + (j : Int)) * 86400) + (((ix ((vws (hrs z))) k)).fr * 60)) < (inn (ix (vws (hrs z)) k) t (outT (vws (hrs z)) t k) j))))))) rfl (og rfl (op_move rfl rfl rfl)) ?_
              rcases fot ((decide ((((t / 86400 + (j : Int)) * 86400) + (((ix ((vws (hrs z))) k)).fr * 60)) < (inn (ix (vws (hrs z)) k) t (outT (vws (hrs z)) t k) j)))) with h12 | h12
              · skip
                have h13 := f_dec h12
                refine rg_put (d := 47) (v := .d (.fl undef)) rfl (on rfl rfl rfl h12) ?_
                refine rg_put (d := 48) (v := .d (.fl undef)) rfl (on rfl rfl rfl h12) ?_
                refine rg_put (d := 49) (v := .d (.fl undef)) rfl (on rfl rfl rfl h12) ?_
                refine rg_put (d := 50) (v := .d (.fl (.bool false))) rfl (og rfl (op_pick rfl rfl (by rw [h12]; rfl) rfl)) ?_
                refine rg_done rfl ?_
                refine a_condF rfl rfl ?_
                refine a_skip ?_
                show A _ _ _ _ _ _ _
                refine a_region ?_
                refine rg_put (d := 30) (v := .d (.fl (.int .i64 ((t / 86400 + (j : Int)))))) rfl (og rfl (op_move rfl rfl rfl)) ?_
                refine rg_put (d := 31) (v := .d (.fl (.int .i64 (((t / 86400 + (j : Int)) + 1))))) rfl (og rfl (op_bin rfl rfl rfl (fun x y w => b_add64 _ _ _ x y w (by first | omega | (have hf1 := vW_p (vW_ix hkk); omega))) rfl)) ?_
                refine rg_put (d := 8) (v := .d (.fl (.int .i64 (((t / 86400 + (j : Int)) + 1))))) rfl (og rfl (op_assign rfl rfl rfl)) ?_
                refine rg_done rfl ?_
                show ∃ i, _ ∧ _ ∧ Imp _ _ _ _ _
                refine ⟨j + 1, (by omega), by omega, imp_forget rfl ⟨rfl, rfl, rfl, rfl, rfl, rfl, rfl, rfl, rfl, rfl, rfl, rfl, (by show AV.d (.fl (.int .i64 _)) = AV.d (.fl (.int .i64 _)); congr 3; omega), trivial⟩ ⟨rfl, rfl, rfl, rfl, (by show Ob.bx 3 [.fl (.int .i64 _)] = Ob.bx 3 [.fl (.int .i64 (inn (ix (vws (hrs z)) k) t (outT (vws (hrs z)) t k) (j + 1)))]; rw [(inn_s _ _ _ _).trans (stp_no (fun h => of_decide_eq_false h12 h.2.1))]; try rfl), trivial⟩⟩
              · skip
                have h14 := t_dec h12
                refine rg_put (d := 47) (v := .d (.ag (eWd (((ix ((vws (hrs z))) k)))))) rfl (oy rfl rfl rfl h12 (of_eff (s_load_pts rfl Try.underlying48 rfl ti48 rfl rfl rfl rfl) rfl)) ?_
                refine rg_put (d := 48) (v := .d (.fl (.int .i64 ((((t / 86400 + (j : Int)) * 86400) + (((ix ((vws (hrs z))) k)).fr * 60)))))) rfl (oy rfl rfl rfl h12 (op_move rfl rfl rfl)) ?_
                refine rg_put (d := 49) (v := .d (.fl (.bool ((inW (((ix ((vws (hrs z))) k))) ((((t / 86400 + (j : Int)) * 86400) + (((ix ((vws (hrs z))) k)).fr * 60)))))))) rfl (oy rfl rfl rfl h12 (op_call rfl Try.func25 nm25 rfl (.cons rfl (.d _) (.cons rfl (.d _) .nil)) (inW19 (((ix ((vws (hrs z))) k))) ((((t / 86400 + (j : Int)) * 86400) + (((ix ((vws (hrs z))) k)).fr * 60)))) rfl)) ?_
                refine rg_put (d := 50) (v := .d (.fl (.bool ((inW (((ix ((vws (hrs z))) k))) ((((t / 86400 + (j : Int)) * 86400) + (((ix ((vws (hrs z))) k)).fr * 60)))))))) rfl (og rfl (op_pick rfl rfl (by rw [h12]; rfl) rfl)) ?_
                refine rg_done rfl ?_
                refine a_cond rfl (fun h15 => ?_) (fun h15 => ?_)
                · skip
                  refine a_region ?_
                  refine rg_put (d := 51) (v := .d (.fl (.int .i64 ((((t / 86400 + (j : Int)) * 86400) + (((ix ((vws (hrs z))) k)).fr * 60)))))) rfl (og rfl (op_move rfl rfl rfl)) ?_
                  refine rg_sto (nw := [(103, .bx 3 [.fl (.int .i64 ((((t / 86400 + (j : Int)) * 86400) + (((ix ((vws (hrs z))) k)).fr * 60))))])]) rfl (og rfl (of_eff (s_store rfl rfl ti3 rfl rfl rfl rfl rfl rfl) rfl)) ?_
                  refine rg_done rfl ?_
                  show A _ _ _ _ _ _ _
                  refine a_region ?_
                  refine rg_put (d := 30) (v := .d (.fl (.int .i64 ((t / 86400 + (j : Int)))))) rfl (og rfl (op_move rfl rfl rfl)) ?_
                  refine rg_put (d := 31) (v := .d (.fl (.int .i64 (((t / 86400 + (j : Int)) + 1))))) rfl (og rfl (op_bin rfl rfl rfl (fun x y w => b_add64 _ _ _ x y w (by first | omega | (have hf1 := vW_p (vW_ix hkk); omega))) rfl)) ?_
                  refine rg_put (d := 8) (v := .d (.fl (.int .i64 (((t / 86400 + (j : Int)) + 1))))) rfl (og rfl (op_assign rfl rfl rfl)) ?_
                  refine rg_done rfl ?_
                  show ∃ i, _ ∧ _ ∧ Imp _ _ _ _ _
                  refine ⟨j + 1, (by omega), by omega, imp_forget rfl ⟨rfl, rfl, rfl, rfl, rfl, rfl, rfl, rfl, rfl, rfl, rfl, rfl, (by show AV.d (.fl (.int .i64 _)) = AV.d (.fl (.int .i64 _)); congr 3; omega), trivial⟩ ⟨rfl, rfl, rfl, rfl, (by show Ob.bx 3 [.fl (.int .i64 _)] = Ob.bx 3 [.fl (.int .i64 (inn (ix (vws (hrs z)) k) t (outT (vws (hrs z)) t k) (j + 1)))]; rw [(inn_s _ _ _ _).trans (stp_yes (of_decide_eq_true h9) (of_decide_eq_true h12) h15)]; try rfl), trivial⟩⟩
                · skip
                  refine a_skip ?_
                  show A _ _ _ _ _ _ _
                  refine a_region ?_
                  refine rg_put (d := 30) (v := .d (.fl (.int .i64 ((t / 86400 + (j : Int)))))) rfl (og rfl (op_move rfl rfl rfl)) ?_
                  refine rg_put (d := 31) (v := .d (.fl (.int .i64 (((t / 86400 + (j : Int)) + 1))))) rfl (og rfl (op_bin rfl rfl rfl (fun x y w => b_add64 _ _ _ x y w (by first | omega | (have hf1 := vW_p (vW_ix hkk); omega))) rfl)) ?_
                  refine rg_put (d := 8) (v := .d (.fl (.int .i64 (((t / 86400 + (j : Int)) + 1))))) rfl (og rfl (op_assign rfl rfl rfl)) ?_
                  refine rg_done rfl ?_
                  show ∃ i, _ ∧ _ ∧ Imp _ _ _ _ _
                  refine ⟨j + 1, (by omega), by omega, imp_forget rfl ⟨rfl, rfl, rfl, rfl, rfl, rfl, rfl, rfl, rfl, rfl, rfl, rfl, (by show AV.d (.fl (.int .i64 _)) = AV.d (.fl (.int .i64 _)); congr 3; omega), trivial⟩ ⟨rfl, rfl, rfl, rfl, (by show Ob.bx 3 [.fl (.int .i64 _)] = Ob.bx 3 [.fl (.int .i64 (inn (ix (vws (hrs z)) k) t (outT (vws (hrs z)) t k) (j + 1)))]; rw [(inn_s _ _ _ _).trans (stp_no (fun h => by have h1 := h.2.2; have h2 : inW (ix (vws (hrs z)) k) (cdt (ix (vws (hrs z)) k) (t / 86400 + (j : Int))) = false := h15; rw [h2] at h1; cases h1))]; try rfl), trivial⟩⟩
          · skip
            have h16 := f_dec h7
            refine a_exit ?_
            show (_ ∧ _ ∧ _) ∨ _
            refine .inl ⟨rfl, rfl, ?_⟩
            exact imp_forget rfl ⟨rfl, rfl, rfl, rfl, rfl, rfl, rfl, rfl, rfl, rfl, trivial⟩ ⟨rfl, rfl, rfl, (by show Ob.bx 3 [.fl (.int .i64 (inn (ix (vws (hrs z)) k) t (outT (vws (hrs z)) t k) j))] = Ob.bx 3 [.fl (.int .i64 (outT (vws (hrs z)) t (k + 1)))]; rw [show j = 8 by omega]; rfl), trivial⟩
        · skip
          rw [List.length_map]
          show A _ _ _ _ _ _ _
          refine a_seq ?_
          refine a_rseq ?_
          refine rg_put (d := 52) (v := .d (.fl (.int .i64 ((outT (vws (hrs z)) t (vws (hrs z)).length))))) rfl (og rfl (op_load_pt rfl Try.underlying3 rfl rfl rfl rfl rfl)) ?_
          refine rg_put (d := 53) (v := .d (.fl (.bool (((outT (vws (hrs z)) t (vws (hrs z)).length) == 68719476736))))) rfl (og rfl (op_bin rfl rfl rfl (b_eql _ _ _ _) rfl)) ?_
          refine rg_done rfl ?_
          refine a_cond rfl (fun h17 => ?_) (fun h17 => ?_)
          · skip
            have h18 := t_beq h17
            refine a_rseq ?_
            refine rg_put (d := 4) (v := .d (.fl (.int .i64 0))) rfl (og rfl (op_assign rfl rfl rfl)) ?_
            refine rg_put (d := 5) (v := .d (.fl (.bool false))) rfl (og rfl (op_assign rfl rfl rfl)) ?_
            refine rg_done rfl ?_
            refine a_ret ?_
            show _ ∧ _
            refine ⟨?_, rfl⟩
            show ∃ ds, ResL _ _ _ ds ∧ RV.of ds = _
            refine ⟨[.fl (.int .i64 0), .fl (.bool false)], (.cons (.tmp rfl (.d _)) (.cons (.tmp rfl (.d _)) .nil)), ?_⟩
            have he : fst z t = 68719476736 := by unfold fst; exact eq_of_beq h17
            unfold nxv; rw [if_neg (by omega), if_neg (by rw [h6]; decide), if_pos he]; rfl
          · skip
            have h19 := f_beq h17
            refine a_skip ?_
            show A _ _ _ _ _ _ _
            refine a_rseq ?_
            refine rg_put (d := 54) (v := .d (.fl (.int .i64 ((outT (vws (hrs z)) t (vws (hrs z)).length))))) rfl (og rfl (op_load_pt rfl Try.underlying3 rfl rfl rfl rfl rfl)) ?_
            refine rg_put (d := 4) (v := .d (.fl (.int .i64 ((outT (vws (hrs z)) t (vws (hrs z)).length))))) rfl (og rfl (op_assign rfl rfl rfl)) ?_
            refine rg_put (d := 5) (v := .d (.fl (.bool true))) rfl (og rfl (op_assign rfl rfl rfl)) ?_
            refine rg_done rfl ?_
            refine a_ret ?_
            show _ ∧ _
            refine ⟨?_, rfl⟩
            show ∃ ds, ResL _ _ _ ds ∧ RV.of ds = _
            refine ⟨[.fl (.int .i64 ((outT (vws (hrs z)) t (vws (hrs z)).length))), .fl (.bool true)], (.cons (.tmp rfl (.d _)) (.cons (.tmp rfl (.d _)) .nil)), ?_⟩
            have he : fst z t ≠ 68719476736 := by unfold fst; exact fun h => by rw [h] at h17; exact absurd h17 (by decide)
            unfold nxv; rw [if_neg (by omega), if_neg (by rw [h6]; decide), if_neg he]; rfl
  · skip
    have h20 := t_dec h1
    refine rg_put (d := 13) (v := .d (.fl undef)) rfl (on rfl rfl rfl h1) ?_
    refine rg_put (d := 14) (v := .d (.fl undef)) rfl (on rfl rfl rfl h1) ?_
    refine rg_put (d := 15) (v := .d (.fl (.bool true))) rfl (og rfl (op_pick rfl rfl (by rw [h1]; rfl) rfl)) ?_
    refine rg_done rfl ?_
    refine a_condK rfl rfl ?_
    refine a_rseq ?_
    refine rg_put (d := 4) (v := .d (.fl (.int .i64 0))) rfl (og rfl (op_assign rfl rfl rfl)) ?_
    refine rg_put (d := 5) (v := .d (.fl (.bool false))) rfl (og rfl (op_assign rfl rfl rfl)) ?_
    refine rg_done rfl ?_
    refine a_ret ?_
    show ∃ ds, ResL _ _ _ ds ∧ RV.of ds = _
    refine ⟨[.fl (.int .i64 0), .fl (.bool false)], (.cons (.tmp rfl (.d _)) (.cons (.tmp rfl (.d _)) .nil)), ?_⟩
    unfold nxv; rw [if_pos (by omega)]; rfl
end Go.Proofs.Ytniefocnfcaebaa.Wk
