/- Contracts of great, of Part and of Next, in the layer and in its reference. Conditions: the slices read as lists. -/
import Derived.Test.YtcobolmagjlbeaaRch
namespace Go.Proofs.Ytcobolmagjlbeaa.Mt
/-- the part of a level -/
def ptS (s : Sc) (level : Int) : Int := if chS s ≠ 0 then 0 else if level < 0 then 1000 else if (s.pt.length : Int) ≤ level then 1000 else at_ s.pt level.toNat
def nxS (s : Sc) (level count : Int) : Int := if chS s ≠ 0 then 0 else ((nx s level count : Nat) : Int)
theorem nx_le {s : Sc} (l c : Int) : nx s l c ≤ s.up.length := by
  unfold nx
  split
  · exact upto_le _ _ _
  · exact Nat.le_trans (down_le _ _ _) (clamp_le _ _)
theorem ch_eq {s : Sc} (h : chS s = 0) : s.up.length ≤ 8 ∧ s.dn.length = s.up.length ∧ s.pt.length = s.up.length + 1 ∧ 1 ≤ s.p ∧ s.p ≤ 86400 := by
  unfold chS at h
  split at h
  · omega
  · split at h
    · omega
    · omega
end Go.Proofs.Ytcobolmagjlbeaa.Mt
namespace Go.Proofs.Ytcobolmagjlbeaa.Wk
open Go.RowKit
open Go.Proofs.Ytcobolmagjlbeaa.Mt

theorem great_any (p : Int) (A1 A2 A3 : Option Addr) (n1 n2 n3 c1 c2 c3 : Nat) (w : World) :
    Calls Try.prog 10 #[.agg #[.int .i64 p, .slice A1 n1 c1, .slice A2 n2 c2, .slice A3 n3 c3]] w fun e w' => e = .returned (.bool (decide (20 < n1 ∨ 20 < n2 ∨ 20 < n3))) ∧ Below w.heap.size w w' := by
  have hA0 := b1 w (.cells #[.int .i64 p, .slice A1 n1 c1, .slice A2 n2 c2, .slice A3 n3 c3] 24)
  by_cases g1 : 20 < n1 <;> by_cases g2 : 20 < n2 <;> by_cases g3 : 20 < n3
  all_goals
    go_enter Try.func10, Try.ntmps10
    go_wp2_with fail
    go_ret
    exact ⟨by simp [g1, g2, g3] <;> omega, hA0⟩

set_option maxHeartbeats 4000000 in
theorem part_any (p : Int) (A1 A2 A3 : Option Addr) (n1 n2 n3 c1 c2 c3 : Nat) (up dn pt : List Int) (level : Int) (w : World) (h1 : Ri w w.heap.size A1 n1 up) (h2 : Ri w w.heap.size A2 n2 dn) (h3 : Ri w w.heap.size A3 n3 pt) :
    Calls Try.prog 14 #[.agg #[.int .i64 p, .slice A1 n1 c1, .slice A2 n2 c2, .slice A3 n3 c3], .int .i64 level] w fun e w' => e = .returned (.int .i64 (ptS ⟨p, up, dn, pt⟩ level)) ∧ Below w.heap.size w w' := by
  have hl3 : pt.length = n3 := h3.1
  have hn1 := h1.2.1
  have hn3 := h3.2.1
  have hA0 := b1 w (.cells #[.int .i64 p, .slice A1 n1 c1, .slice A2 n2 c2, .slice A3 n3 c3] 24)
  have HBx := Lib.hid (Bx.new w 24 #[.int .i64 p, .slice A1 n1 c1, .slice A2 n2 c2, .slice A3 n3 c3])
  have H1 := Lib.hid (h1.up hA0)
  have H2 := Lib.hid (h2.up hA0)
  have H3 := Lib.hid (h3.up hA0)
  obtain ⟨ch, hch⟩ : ∃ ch, chS ⟨p, up, dn, pt⟩ = ch := ⟨_, rfl⟩
  have HP : Hid (ptS ⟨p, up, dn, pt⟩ level = if ch ≠ 0 then 0 else if level < 0 then 1000 else if (n3 : Int) ≤ level then 1000 else at_ pt level.toNat) := Lib.hid (by simp only [ptS, hch, hl3])
  have HC := Lib.hid hch
  clear h1 h2 h3 hl3 hch
  go_enter Try.func14, Try.ntmps14
  go_wp2_with fail
  refine (check_any p A1 A2 A3 n1 n2 n3 c1 c2 c3 up dn pt _ H1.out H2.out H3.out).mono ?_
  rintro e w1 ⟨rfl, hb1⟩
  have hA1 := upB hA0 hb1
  obtain ⟨b0, b1', b2, b3⟩ := (HBx.out.next hb1).cells4
  rw [HC.out]
  by_cases hc : ch = 0
  · subst hc
    by_cases q1 : level < 0
    · have HE : Hid (ptS ⟨p, up, dn, pt⟩ level = 1000) := Lib.hid (by rw [HP.out]; simp [q1])
      go_wp2_with fail
      go_ret
      exact ⟨by rw [HE.out]; rfl, hA1⟩
    · have q1' : decide (level < 0) = false := decide_eq_false q1
      by_cases q2 : (n3 : Int) ≤ level
      · have HE : Hid (ptS ⟨p, up, dn, pt⟩ level = 1000) := Lib.hid (by rw [HP.out]; simp [q2])
        go_wp2_with fail
        go_ret
        exact ⟨by rw [HE.out]; rfl, hA1⟩
      · obtain ⟨k, rfl⟩ : ∃ k : Nat, level = (k : Int) := ⟨level.toNat, by omega⟩
        have hk : k < n3 := by omega
        have hkI : (k : Int) < (n3 : Int) := by omega
        have q2' : decide ((n3 : Int) ≤ (k : Int)) = false := decide_eq_false q2
        have HE : Hid (ptS ⟨p, up, dn, pt⟩ (k : Int) = at_ pt k) := Lib.hid (by rw [HP.out]; simp [q1]; omega)
        obtain ⟨bb, off, rfl, _, d1⟩ := (H3.out.up hb1).get hk
        clear q1 q2
        go_wp2_with fail
        go_ret
        exact ⟨by rw [HE.out]; rfl, hA1⟩
  · have HE : Hid (ptS ⟨p, up, dn, pt⟩ level = 0) := Lib.hid (by rw [HP.out, if_pos hc])
    have e1 : (ch == 0) = false := by simp [hc]
    have e2 : (ch != 0) = true := by simp [hc]
    clear hc
    go_wp2_with fail
    go_ret
    exact ⟨by rw [HE.out]; rfl, hA1⟩

set_option maxHeartbeats 4000000 in
theorem Part_any (p : Int) (A1 A2 A3 : Option Addr) (n1 n2 n3 c1 c2 c3 : Nat) (up dn pt : List Int) (level : Int) (w : World) (h1 : Ri w w.heap.size A1 n1 up) (h2 : Ri w w.heap.size A2 n2 dn) (h3 : Ri w w.heap.size A3 n3 pt) :
    Calls Try.prog 15 #[.agg #[.int .i64 p, .slice A1 n1 c1, .slice A2 n2 c2, .slice A3 n3 c3], .int .i64 level] w fun e w' => e = .returned (.int .i64 (ptS ⟨p, up, dn, pt⟩ level)) ∧ Below w.heap.size w w' := by
  have hl3 : pt.length = n3 := h3.1
  have hn1 := h1.2.1
  have hn3 := h3.2.1
  have hA0 := b1 w (.cells #[.int .i64 p, .slice A1 n1 c1, .slice A2 n2 c2, .slice A3 n3 c3] 24)
  have HBx := Lib.hid (Bx.new w 24 #[.int .i64 p, .slice A1 n1 c1, .slice A2 n2 c2, .slice A3 n3 c3])
  have H1 := Lib.hid (h1.up hA0)
  have H2 := Lib.hid (h2.up hA0)
  have H3 := Lib.hid (h3.up hA0)
  obtain ⟨ch, hch⟩ : ∃ ch, chS ⟨p, up, dn, pt⟩ = ch := ⟨_, rfl⟩
  have HP : Hid (ptS ⟨p, up, dn, pt⟩ level = if ch ≠ 0 then 0 else if level < 0 then 1000 else if (n3 : Int) ≤ level then 1000 else at_ pt level.toNat) := Lib.hid (by simp only [ptS, hch, hl3])
  have HC := Lib.hid hch
  clear h1 h2 h3 hl3 hch
  go_enter Try.func15, Try.ntmps15
  go_wp2_with fail
  refine (Check_any p A1 A2 A3 n1 n2 n3 c1 c2 c3 up dn pt _ H1.out H2.out H3.out).mono ?_
  rintro e w1 ⟨rfl, hb1⟩
  have hA1 := upB hA0 hb1
  obtain ⟨b0, b1', b2, b3⟩ := (HBx.out.next hb1).cells4
  rw [HC.out]
  by_cases hc : ch = 0
  · subst hc
    by_cases q1 : level < 0
    · have HE : Hid (ptS ⟨p, up, dn, pt⟩ level = 1000) := Lib.hid (by rw [HP.out]; simp [q1])
      go_wp2_with fail
      go_ret
      exact ⟨by rw [HE.out]; rfl, hA1⟩
    · have q1' : decide (level < 0) = false := decide_eq_false q1
      by_cases q2 : (n3 : Int) ≤ level
      · have HE : Hid (ptS ⟨p, up, dn, pt⟩ level = 1000) := Lib.hid (by rw [HP.out]; simp [q2])
        go_wp2_with fail
        go_ret
        exact ⟨by rw [HE.out]; rfl, hA1⟩
      · obtain ⟨k, rfl⟩ : ∃ k : Nat, level = (k : Int) := ⟨level.toNat, by omega⟩
        have hk : k < n3 := by omega
        have hkI : (k : Int) < (n3 : Int) := by omega
        have q2' : decide ((n3 : Int) ≤ (k : Int)) = false := decide_eq_false q2
        have HE : Hid (ptS ⟨p, up, dn, pt⟩ (k : Int) = at_ pt k) := Lib.hid (by rw [HP.out]; simp [q1]; omega)
        obtain ⟨bb, off, rfl, _, d1⟩ := (H3.out.up hb1).get hk
        clear q1 q2
        go_wp2_with fail
        go_ret
        exact ⟨by rw [HE.out]; rfl, hA1⟩
  · have HE : Hid (ptS ⟨p, up, dn, pt⟩ level = 0) := Lib.hid (by rw [HP.out, if_pos hc])
    have e1 : (ch == 0) = false := by simp [hc]
    have e2 : (ch != 0) = true := by simp [hc]
    clear hc
    go_wp2_with fail
    go_ret
    exact ⟨by rw [HE.out]; rfl, hA1⟩

set_option maxHeartbeats 4000000 in
theorem next16 (p : Int) (A1 A2 A3 : Option Addr) (n1 n2 n3 c1 c2 c3 : Nat) (up dn pt : List Int) (level count : Int) (w : World) (h1 : Ri w w.heap.size A1 n1 up) (h2 : Ri w w.heap.size A2 n2 dn) (h3 : Ri w w.heap.size A3 n3 pt) :
    Calls Try.prog 16 #[.agg #[.int .i64 p, .slice A1 n1 c1, .slice A2 n2 c2, .slice A3 n3 c3], .int .i64 level, .int .i64 count] w fun e w' => e = .returned (.int .i64 (nxS ⟨p, up, dn, pt⟩ level count)) ∧ Below w.heap.size w w' := by
  have hl1 : up.length = n1 := h1.1
  have hl2 : dn.length = n2 := h2.1
  have hn1 := h1.2.1
  have hn3 := h3.2.1
  have hA0 := b1 w (.cells #[.int .i64 p, .slice A1 n1 c1, .slice A2 n2 c2, .slice A3 n3 c3] 24)
  have HBx := Lib.hid (Bx.new w 24 #[.int .i64 p, .slice A1 n1 c1, .slice A2 n2 c2, .slice A3 n3 c3])
  have H1 := Lib.hid (h1.up hA0)
  have H2 := Lib.hid (h2.up hA0)
  have H3 := Lib.hid (h3.up hA0)
  obtain ⟨ch, hch⟩ : ∃ ch, chS ⟨p, up, dn, pt⟩ = ch := ⟨_, rfl⟩
  have HP : Hid (nxS ⟨p, up, dn, pt⟩ level count = if ch ≠ 0 then 0 else ((nx ⟨p, up, dn, pt⟩ level count : Nat) : Int)) := Lib.hid (by simp only [nxS, hch])
  have HL : Hid (ch = 0 → n1 ≤ n2) := Lib.hid (fun h => by have := (ch_eq (s := ⟨p, up, dn, pt⟩) (hch.trans h)).2.1; simp only at this; omega)
  have HC := Lib.hid hch
  clear h1 h2 h3 hl1 hl2 hch
  go_enter Try.func16, Try.ntmps16
  go_wp2_with fail
  refine (check_any p A1 A2 A3 n1 n2 n3 c1 c2 c3 up dn pt _ H1.out H2.out H3.out).mono ?_
  rintro e w1 ⟨rfl, hb1⟩
  have hA1 := upB hA0 hb1
  obtain ⟨b0, b1', b2, b3⟩ := (HBx.out.next hb1).cells4
  rw [HC.out]
  by_cases hc : ch = 0
  · subst hc
    have hln := HL.out rfl
    have HE : Hid (nxS ⟨p, up, dn, pt⟩ level count = ((nx ⟨p, up, dn, pt⟩ level count : Nat) : Int)) := Lib.hid (by rw [HP.out]; simp)
    have H1' := Lib.hid (H1.out.up hb1)
    have H2' := Lib.hid (H2.out.up hb1)
    go_wp2_with fail
    refine (next_any p A1 A2 A3 n1 n2 n3 c1 c2 c3 up dn level count _ H1'.out H2'.out hln pt).mono ?_
    rintro e w2 ⟨rfl, hb2⟩
    have hA2 := upB hA1 hb2
    go_wp2_with fail
    go_ret
    exact ⟨by rw [HE.out]; rfl, hA2⟩
  · have HE : Hid (nxS ⟨p, up, dn, pt⟩ level count = 0) := Lib.hid (by rw [HP.out, if_pos hc])
    have e1 : (ch == 0) = false := by simp [hc]
    have e2 : (ch != 0) = true := by simp [hc]
    clear hc
    go_wp2_with fail
    go_ret
    exact ⟨by rw [HE.out]; rfl, hA1⟩
end Go.Proofs.Ytcobolmagjlbeaa.Wk
