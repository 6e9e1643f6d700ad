/- What the types of the arguments lead to, laid out. No condition. -/
import Derived.Test.YtglhonnmppclpaaDoorRows
import Derived.Test.YtglhonnmppclpaaDoorProg
import Derived.ProofKit
import Derived.JoinedOf
import Derived.Stop.Joined
set_option linter.unusedSimpArgs false
set_option linter.unusedVariables false
namespace Go.Proofs.YtglhonnmppclpaaDoor.Bk
open Go
theorem grown_add (P : Program) : ∀ (a b : Nat) (S : List TypeId), P.grown (a + b) S = P.grown b (P.grown a S)
  | 0, b, S => by rw [Nat.zero_add]; rfl
  | a + 1, b, S => by rw [show a + 1 + b = (a + b) + 1 by omega]; show P.grown (a + b) (P.grow S) = _; rw [grown_add P a b]; rfl
theorem grown_fix (P : Program) {S : List TypeId} (h : P.grow S = S) : ∀ d, P.grown d S = S
  | 0 => rfl
  | d + 1 => by show P.grown d (P.grow S) = S; rw [h]; exact grown_fix P h d
theorem book_is {P : Program} {t : TypeId} {n r : Nat} {L : List TypeId} (h1 : P.types.size = n + r) (h2 : P.grown n [t] = L) (h3 : P.grow L = L) : P.book t = L := by
  unfold Program.book
  rw [h1, grown_add, h2, grown_fix P h3]
theorem grown_inv (P : Program) {p : TypeId → Prop} (h : ∀ u, p u → ∀ v ∈ P.partsOf u, p v) : ∀ (d : Nat) (S : List TypeId), (∀ u ∈ S, p u) → ∀ u ∈ P.grown d S, p u
  | 0, S, hS => hS
  | d + 1, S, hS => grown_inv P h d (P.grow S) (fun u hu => by
    unfold Program.grow at hu
    rw [List.mem_eraseDups, List.mem_append] at hu
    rcases hu with hu | hu
    · exact hS u hu
    · obtain ⟨x, hx, hv⟩ := List.mem_flatMap.1 hu
      exact h x (hS x hx) u hv)
theorem loops_no {P : Program} {t : TypeId} {L : List TypeId} (rk : TypeId → Nat) (hb : P.book t = L) (h : (L.all fun u => (P.partsOf u).all fun v => Nat.blt (rk v) (rk u) && L.contains v) = true) : P.loopsFrom t = false := by
  unfold Program.loopsFrom
  rw [hb, List.any_eq_false]
  intro u hu
  rw [Bool.not_eq_true, List.any_eq_false]
  intro v hv
  rw [Bool.not_eq_true]
  have step : ∀ x, x ∈ L → ∀ y ∈ P.partsOf x, rk y < rk x ∧ y ∈ L := fun x hx y hy => by
    have h1 := List.all_eq_true.1 (List.all_eq_true.1 h x hx) y hy
    simp only [Bool.and_eq_true] at h1
    exact ⟨Nat.le_of_ble_eq_true h1.1, by simpa using h1.2⟩
  have key := grown_inv P (p := fun x => x ∈ L ∧ rk x ≤ rk v) (fun x hx y hy => by
    have h2 := step x hx.1 y hy
    exact ⟨h2.2, by have := hx.2; omega⟩) P.types.size [v] (fun x hx => by
      have : x = v := by simpa using hx
      subst this
      exact ⟨(step u hu x hv).2, Nat.le_refl _⟩)
  cases hc : (P.book v).contains u with
  | false => rfl
  | true =>
    have h3 := key u (by simpa [Program.book] using hc)
    have h4 := (step u hu v hv).1
    omega
def L70 : List TypeId := [70, 52, 53, 54, 55, 3, 62, 67, 68, 34, 35, 36, 37, 38, 41, 42, 43, 44, 45, 46, 47, 39, 49, 50, 9, 234, 236, 238, 56, 57, 58, 59, 60, 65, 102, 31, 32, 204, 206, 208, 214, 218, 220, 224, 226, 115, 228, 230, 232, 241, 244, 246, 24, 248, 63, 100, 28, 29, 200, 201, 202, 210, 211, 212, 216, 221, 222, 98, 4, 111, 113, 239, 242, 22, 105, 196, 198, 252, 254, 256, 258, 250, 260, 262, 84, 103, 107]
theorem sz70 : Tryd.prog.types.size = 6 + 257 := by kernel_rfl
theorem gr70 : Tryd.prog.grown 6 [70] = L70 := by kernel_rfl
theorem fx70 : Tryd.prog.grow L70 = L70 := by kernel_rfl
theorem bk70 : Tryd.prog.book 70 = L70 := book_is sz70 gr70 fx70
def rk70 (u : TypeId) : Nat := (([(70, 8), (52, 7), (53, 4), (54, 4), (55, 3), (3, 1), (62, 6), (67, 7), (68, 4), (34, 5), (35, 5), (36, 3), (37, 3), (38, 6), (41, 3), (42, 4), (43, 3), (44, 5), (45, 5), (46, 6), (47, 3), (39, 2), (49, 3), (50, 3), (9, 1), (234, 3), (236, 3), (238, 2), (56, 5), (57, 5), (58, 4), (59, 5), (60, 3), (65, 6), (102, 3), (31, 4), (32, 3), (204, 4), (206, 2), (208, 2), (214, 5), (218, 3), (220, 2), (224, 4), (226, 4), (115, 5), (228, 2), (230, 2), (232, 2), (241, 4), (244, 4), (246, 3), (24, 4), (248, 2), (63, 5), (100, 2), (28, 3), (29, 3), (200, 2), (201, 3), (202, 3), (210, 2), (211, 4), (212, 3), (216, 2), (221, 3), (222, 3), (98, 2), (4, 1), (111, 4), (113, 2), (239, 3), (242, 3), (22, 3), (105, 4), (196, 2), (198, 2), (252, 2), (254, 3), (256, 2), (258, 2), (250, 3), (260, 2), (262, 2), (84, 2), (103, 3), (107, 2)] : List (Nat × Nat)).find? fun x => Nat.beq x.1 u).elim 0 (·.2)
theorem loops70 : Tryd.prog.loopsFrom 70 = false := loops_no rk70 bk70 (by kernel_rfl)
theorem readableRec70 : Tryd.prog.readableRec 70 = true := by
  unfold Program.readableRec
  rw [bk70]
  kernel_rfl
theorem mapsRec70 : Tryd.prog.mapsRec 70 = false := by
  unfold Program.mapsRec
  rw [bk70]
  kernel_rfl
theorem ifacesRec70 : Tryd.prog.ifacesRec 70 = false := by
  unfold Program.ifacesRec
  rw [bk70]
  kernel_rfl
theorem wideKeysFrom70 : Tryd.prog.wideKeysFrom 70 = false := by
  unfold Program.wideKeysFrom
  rw [bk70]
  kernel_rfl
theorem veiledRec70 : Tryd.prog.veiledRec 70 = false := by
  unfold Program.veiledRec
  rw [bk70]
  kernel_rfl
theorem veiledOwn70 : Tryd.prog.veiledOwn 70 = true := by
  unfold Program.veiledOwn
  rw [veiledRec70]
  rfl
theorem ps_ReportDays : Tryd.f4.params.toList ++ Rows.reportDaysSpec.plain.varTypes Tryd.prog = [70, 3] := by kernel_rfl
theorem pr_ReportDays : Tryd.f4.params.toList = [70, 3] := by kernel_rfl
theorem rt_ReportDays : Tryd.f4.resultTypes.toList = [4] := by kernel_rfl
theorem pa_ReportDays : (Tryd.f4.params.all fun t => Tryd.prog.readableRec t) = true := by
  rw [← Array.all_toList, pr_ReportDays]
  simp only [List.all_cons, List.all_nil, readableRec70]
  kernel_rfl
theorem vf_ReportDays : Rows.reportDaysRow.veiledFits Tryd.prog [70, 3] ([70, 3] ++ [4]) = true := by
  unfold OpenClaim.veiledFits
  simp only [List.cons_append, List.nil_append, List.all_cons, List.any_cons, List.all_append, mapsRec70, ifacesRec70, wideKeysFrom70, veiledRec70, loops70, veiledOwn70]
  kernel_rfl
theorem closed_ReportDays : joinedFacts Tryd.prog 4 Tryd.f4 Rows.reportDaysSpec Rows.reportDaysRow = true := by
  unfold joinedFacts
  rw [pa_ReportDays, ps_ReportDays, rt_ReportDays, pr_ReportDays, vf_ReportDays]
  simp only [List.cons_append, List.nil_append, List.any_cons, List.any_nil, mapsRec70, ifacesRec70, wideKeysFrom70, veiledRec70, loops70]
  kernel_rfl
theorem ps_ReportCases : Tryd.f6.params.toList ++ Rows.reportCasesSpec.plain.varTypes Tryd.prog = [70, 9] := by kernel_rfl
theorem pr_ReportCases : Tryd.f6.params.toList = [70, 9] := by kernel_rfl
theorem rt_ReportCases : Tryd.f6.resultTypes.toList = [4] := by kernel_rfl
theorem pa_ReportCases : (Tryd.f6.params.all fun t => Tryd.prog.readableRec t) = true := by
  rw [← Array.all_toList, pr_ReportCases]
  simp only [List.all_cons, List.all_nil, readableRec70]
  kernel_rfl
theorem vf_ReportCases : Rows.reportCasesRow.veiledFits Tryd.prog [70, 9] ([70, 9] ++ [4]) = true := by
  unfold OpenClaim.veiledFits
  simp only [List.cons_append, List.nil_append, List.all_cons, List.any_cons, List.all_append, mapsRec70, ifacesRec70, wideKeysFrom70, veiledRec70, loops70, veiledOwn70]
  kernel_rfl
theorem closed_ReportCases : joinedFacts Tryd.prog 6 Tryd.f6 Rows.reportCasesSpec Rows.reportCasesRow = true := by
  unfold joinedFacts
  rw [pa_ReportCases, ps_ReportCases, rt_ReportCases, pr_ReportCases, vf_ReportCases]
  simp only [List.cons_append, List.nil_append, List.any_cons, List.any_nil, mapsRec70, ifacesRec70, wideKeysFrom70, veiledRec70, loops70]
  kernel_rfl
theorem ps_ReportTotals : Tryd.f7.params.toList ++ Rows.reportTotalsSpec.plain.varTypes Tryd.prog = [70] := by kernel_rfl
theorem pr_ReportTotals : Tryd.f7.params.toList = [70] := by kernel_rfl
theorem rt_ReportTotals : Tryd.f7.resultTypes.toList = [4] := by kernel_rfl
theorem pa_ReportTotals : (Tryd.f7.params.all fun t => Tryd.prog.readableRec t) = true := by
  rw [← Array.all_toList, pr_ReportTotals]
  simp only [List.all_cons, List.all_nil, readableRec70]
  kernel_rfl
theorem vf_ReportTotals : Rows.reportTotalsRow.veiledFits Tryd.prog [70] ([70] ++ [4]) = true := by
  unfold OpenClaim.veiledFits
  simp only [List.cons_append, List.nil_append, List.all_cons, List.any_cons, List.all_append, mapsRec70, ifacesRec70, wideKeysFrom70, veiledRec70, loops70, veiledOwn70]
  kernel_rfl
theorem closed_ReportTotals : joinedFacts Tryd.prog 7 Tryd.f7 Rows.reportTotalsSpec Rows.reportTotalsRow = true := by
  unfold joinedFacts
  rw [pa_ReportTotals, ps_ReportTotals, rt_ReportTotals, pr_ReportTotals, vf_ReportTotals]
  simp only [List.cons_append, List.nil_append, List.any_cons, List.any_nil, mapsRec70, ifacesRec70, wideKeysFrom70, veiledRec70, loops70]
  kernel_rfl
end Go.Proofs.YtglhonnmppclpaaDoor.Bk
