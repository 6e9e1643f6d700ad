/- Plain mathematics: a chain in two parts. No condition. -/
import Derived.Test.YtbhdghopdhehdaaCha
set_option linter.unusedSimpArgs false
set_option linter.unusedVariables false
namespace Go.Proofs.Ytbhdghopdhehdaa.Mt
theorem lat_take {ls : List (List Int)} {k i : Nat} (h : i < k) : lat (ls.take k) i = lat ls i := by simp [lat, List.getElem?_take, h]
theorem lat_drop (ls : List (List Int)) (k i : Nat) : lat (ls.drop k) i = lat ls (k + i) := by simp [lat, List.getElem?_drop]
theorem cv_take {start : Int} {ls : List (List Int)} {k : Nat} : ∀ {i : Nat}, i ≤ k → cv start (ls.take k) i = cv start ls i := by
  intro i
  induction i with
  | zero => intro _; rfl
  | succ i ih => intro h; rw [cv_next, cv_next, ih (by omega), lat_take (by omega)]
theorem cl_take {start : Int} {ls : List (List Int)} {k : Nat} : ∀ {i : Nat}, i ≤ k → cl start (ls.take k) i = cl start ls i := by
  intro i
  induction i with
  | zero => intro _; rfl
  | succ i ih => intro h; rw [cl_next, cl_next, ih (by omega), cv_take h]
theorem cv_drop (start : Int) (ls : List (List Int)) (k : Nat) : ∀ i : Nat, cv (cv start ls k) (ls.drop k) i = cv start ls (k + i) := by
  intro i
  induction i with
  | zero => rfl
  | succ i ih => rw [cv_next, ← Nat.add_assoc, cv_next, ih, lat_drop]
theorem cl_drop (start : Int) (ls : List (List Int)) (k : Nat) : ∀ i : Nat, cl start ls k ++ cl (cv start ls k) (ls.drop k) i = cl start ls (k + i) := by
  intro i
  induction i with
  | zero => simp [cl]
  | succ i ih => rw [cl_next, ← Nat.add_assoc, cl_next, ← ih, ← List.append_assoc, cv_drop, ← Nat.add_assoc]
theorem cl_last {start : Int} {ls : List (List Int)} {k : Nat} : iat (cl start ls (k + 1)) k = cv start ls (k + 1) := by
  rw [cl_next]
  unfold iat
  rw [List.getD_eq_getElem?_getD, List.getElem?_append_right (by rw [cl_len]; exact Nat.le_refl _), cl_len]
  simp
theorem cv_in {start : Int} (ls : List (List Int)) (h : 0 ≤ start ∧ start ≤ 18446744073709551615) (k : Nat) : 0 ≤ cv start ls k ∧ cv start ls k ≤ 18446744073709551615 := by
  cases k with
  | zero => exact h
  | succ k => rw [cv_next]; exact jn_in _ _
end Go.Proofs.Ytbhdghopdhehdaa.Mt
