/- The steps of a case, by the reference. No condition. -/
import Derived.Test.YtdafmaocbkmmgaaDoorB9
set_option linter.unusedSimpArgs false
set_option linter.unusedVariables false
namespace Go.Proofs.YtdafmaocbkmmgaaDoor.Wk
open Go Go.RowKit Go.Proofs.YtdafmaocbkmmgaaDoor.Av
def sp (w : Lw) (cal : List Int) (x : Cs) (day : Int) : Cs × Bool :=
  if (decide (1 ≤ x.stage) && decide (x.stage ≤ 4) && decide (nxE w x ≤ day) && (!(due w cal x).2 || decide (nxE w x ≤ (due w cal x).1))) = true then (bar w x, true) else
  if ((due w cal x).2 && decide ((due w cal x).1 ≤ day)) = true then (fwd w cal x, true) else (x, false)
theorem sp_ok {w : Lw} {cal : List Int} {x : Cs} {day : Int} (h : OKx w x) : OKx w (sp w cal x day).1 := by
  unfold sp
  split
  · exact bar_ok h
  · split
    · rename_i h2
      simp at h2
      exact fwd_ok h h2.1
    · exact h
def itR (w : Lw) (cal : List Int) (day : Int) : Nat → Cs → Cs
  | 0, x => x
  | k + 1, x => if (sp w cal x day).2 = true then itR w cal day k (sp w cal x day).1 else x
theorem sp_no {w : Lw} {cal : List Int} {x : Cs} {day : Int} (h : x.stage < 1 ∨ 4 < x.stage) : sp w cal x day = (x, false) := by
  unfold sp
  rw [due_no h]
  rw [if_neg (by simp; omega), if_neg (by simp)]
theorem itR_no {w : Lw} {cal : List Int} {x : Cs} {day : Int} (h : x.stage < 1 ∨ 4 < x.stage) : ∀ n, itR w cal day n x = x
  | 0 => rfl
  | n + 1 => by
    show (if _ then _ else _) = _
    rw [sp_no h]; rfl
theorem nx_cases (w : Lw) (cal : List Int) (x : Cs) (day : Int) (h : 1 ≤ x.stage ∧ x.stage ≤ 4) : (nx w cal x day = (bar w x, false) ∧ sp w cal x day = (bar w x, true)) ∨ (nx w cal x day = (x, false) ∧ sp w cal x day = (x, false)) ∨ (nx w cal x day = (fwd w cal x, true) ∧ sp w cal x day = (fwd w cal x, true) ∧ (due w cal x).2 = true ∧ (due w cal x).1 ≤ day) := by
  unfold nx sp
  rw [show decide (1 ≤ x.stage) = true from decide_eq_true h.1, show decide (x.stage ≤ 4) = true from decide_eq_true h.2, Bool.true_and, Bool.true_and]
  by_cases hb : (decide (nxE w x ≤ day) && (!(due w cal x).2 || decide (nxE w x ≤ (due w cal x).1))) = true
  · left; rw [if_pos hb, if_pos hb]; exact ⟨rfl, rfl⟩
  · right
    rw [if_neg hb, if_neg hb]
    cases hd : (due w cal x).2 with
    | false => left; exact ⟨rfl, rfl⟩
    | true =>
      by_cases he : day < (due w cal x).1
      · left
        rw [if_pos (by simp; exact he), if_neg (by simp; omega)]
        exact ⟨rfl, rfl⟩
      · right
        rw [if_neg (by simp; omega), if_pos (by simp; omega)]
        exact ⟨rfl, rfl, rfl, by omega⟩
theorem it_itR {w : Lw} {cal : List Int} {day : Int} : ∀ (m : Nat) (x : Cs) (n : Nat), 1 ≤ x.stage → x.stage + (m : Int) = 5 → m ≤ n → itR w cal day n x = it w cal day m x
  | 0, x, n, h1, h2, _ => itR_no (by omega) n
  | m + 1, x, n, h1, h2, hn => by
    obtain ⟨n, rfl⟩ : ∃ k, n = k + 1 := ⟨n - 1, by omega⟩
    show (if _ then _ else _) = (if _ then _ else _)
    rcases nx_cases w cal x day ⟨h1, by omega⟩ with ⟨e1, e2⟩ | ⟨e1, e2⟩ | ⟨e1, e2, _⟩
    · rw [e1, e2]
      exact itR_no (by right; show (4 : Int) < 8; omega) n
    · rw [e1, e2]; rfl
    · rw [e1, e2]
      exact it_itR m _ n (by show 1 ≤ x.stage + 1; omega) (by show x.stage + 1 + (m : Int) = 5; omega) (by omega)
theorem sw_itR (w : Lw) (cal : List Int) (x : Cs) (day : Int) : itR w cal day 5 x = sw w cal x day := by
  unfold sw
  split
  · rename_i h; have h := eq_of_beq h; exact it_itR 4 x 5 (by omega) (by omega) (by omega)
  · split
    · rename_i h; have h := eq_of_beq h; exact it_itR 3 x 5 (by omega) (by omega) (by omega)
    · split
      · rename_i h; have h := eq_of_beq h; exact it_itR 2 x 5 (by omega) (by omega) (by omega)
      · split
        · rename_i h; have h := eq_of_beq h; exact it_itR 1 x 5 (by omega) (by omega) (by omega)
        · rename_i h1 h2 h3 h4
          simp at h1 h2 h3 h4
          exact itR_no (by omega) 5
def payB (x : Cs) (c : Int) : Bool := decide (c < 1) || decide (1125899906842624 < c) || decide (x.owed < 0) || decide (1125899906842624 < x.owed) || decide (x.paid < 0) || decide (1125899906842624 < x.paid)
def pay (x : Cs) (c : Int) : (Cs × Int) × Int := if (!(opn x)) = true then ((x, 0), 28) else if payB x c = true then ((x, 0), 13) else if decide (c < x.owed - x.paid) = true then (({ x with paid := x.paid + c }, 0), 0) else (({ x with paid := max x.paid x.owed, stage := 6 }, c - max (x.owed - x.paid) 0), 0)
def wv (x : Cs) : Cs × Int := if (!(opn x)) = true then (x, 28) else ({ x with stage := 7 }, 0)
theorem payB_f {x : Cs} {c : Int} (h : payB x c = false) : 1 ≤ c ∧ c ≤ 1125899906842624 ∧ 0 ≤ x.owed ∧ x.owed ≤ 1125899906842624 ∧ 0 ≤ x.paid ∧ x.paid ≤ 1125899906842624 := by
  unfold payB at h
  simp only [Bool.or_eq_false_iff, decide_eq_false_iff_not] at h
  omega
abbrev pl4 (x : Cs) (c : Int) : List Int := [IntKind.i64.wrap (c - 1), c, x.owed, x.paid]
theorem wrap_pred {c : Int} (h1 : -9223372036854775808 ≤ c) (h2 : c ≤ 9223372036854775807) : IntKind.i64.wrap (c - 1) = c - 1 ∨ (c = -9223372036854775808 ∧ IntKind.i64.wrap (c - 1) = 9223372036854775807) := by
  rcases Int.lt_or_le (-9223372036854775808) c with h | h
  · left; exact w64 (by omega)
  · right
    have : c = -9223372036854775808 := by omega
    subst this
    exact ⟨rfl, by decide⟩
theorem pay_bad {x : Cs} {c : Int} {k : Nat} (h1 : -9223372036854775808 ≤ c) (h2 : c ≤ 9223372036854775807) (hk : k < 4) (h : ix (pl4 x c) k < 0 ∨ 1125899906842624 < ix (pl4 x c) k) : payB x c = true := by
  have hw := wrap_pred h1 h2
  unfold payB
  simp only [Bool.or_eq_true, decide_eq_true_eq]
  match k, hk, h with
  | 0, _, h => have h : IntKind.i64.wrap (c - 1) < 0 ∨ 1125899906842624 < IntKind.i64.wrap (c - 1) := h; omega
  | 1, _, h => have h : c < 0 ∨ 1125899906842624 < c := h; omega
  | 2, _, h => have h : x.owed < 0 ∨ 1125899906842624 < x.owed := h; omega
  | 3, _, h => have h : x.paid < 0 ∨ 1125899906842624 < x.paid := h; omega
theorem pay_good {x : Cs} {c : Int} (h1 : -9223372036854775808 ≤ c) (h2 : c ≤ 9223372036854775807) (h : ∀ q, q < 4 → 0 ≤ ix (pl4 x c) q ∧ ix (pl4 x c) q ≤ 1125899906842624) : payB x c = false := by
  have hw := wrap_pred h1 h2
  have a0 : 0 ≤ IntKind.i64.wrap (c - 1) ∧ IntKind.i64.wrap (c - 1) ≤ 1125899906842624 := h 0 (by omega)
  have a1 : 0 ≤ c ∧ c ≤ 1125899906842624 := h 1 (by omega)
  have a2 : 0 ≤ x.owed ∧ x.owed ≤ 1125899906842624 := h 2 (by omega)
  have a3 : 0 ≤ x.paid ∧ x.paid ≤ 1125899906842624 := h 3 (by omega)
  unfold payB
  simp only [Bool.or_eq_false_iff, decide_eq_false_iff_not]
  omega

end Go.Proofs.YtdafmaocbkmmgaaDoor.Wk
