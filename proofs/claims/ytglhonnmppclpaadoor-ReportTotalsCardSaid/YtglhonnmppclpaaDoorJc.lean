/- strings.Join without a separator. Conditions: at most a million bytes. -/
import Derived.Test.YtglhonnmppclpaaDoorOw
set_option linter.unusedSimpArgs false
set_option linter.unusedVariables false
namespace Go.Proofs.YtglhonnmppclpaaDoor.Ow
open Go Go.RowKit
open Go.Proofs.YtglhonnmppclpaaDoor.Om
/-- strings, one behind the other -/
def jc (l : List ByteArray) : ByteArray := ⟨(Lib.join (l.map (·.data.toList)) []).toArray⟩
theorem jc_nil : jc [] = ⟨#[]⟩ := rfl
theorem jc_cons (a : ByteArray) (l : List ByteArray) : jc (a :: l) = a ++ jc l := by
  have e : ∀ r : List (List UInt8), Lib.join r [] = r.flatten := by
    intro r
    cases r with
    | nil => rfl
    | cons x r => rw [Lib.join_cons]; simp [Lib.joinTail]
  apply ByteArray.ext
  rw [ByteArray.data_append]
  unfold jc
  rw [e, e]
  simp
theorem jcW (A : Option Addr) (n c : Nat) (l : List ByteArray) (w : World) (h : Rs w w.heap.size A n l) (hc : n ≤ c) (hn : n ≤ 1000000) (hs : (jc l).size ≤ 1000000) : Calls Tryd.prog 48 #[.slice A n c, .string ⟨#[]⟩] w fun e w' => e = .returned (.string (jc l)) ∧ Below w.heap.size w w' := by
  rcases Nat.eq_zero_or_pos n with h0 | h0
  · subst h0
    have hl : l = [] := List.length_eq_zero_iff.1 h.1
    subst hl
    exact (Any.strings_Join_none Tryd.laysJoin Tryd.joinExtra A c ⟨#[]⟩ w).mono fun e w' ⟨he, hw⟩ => ⟨he, hw ▸ Below.refl _ _⟩
  · obtain ⟨b, off, rfl, hb, hcell⟩ := h.2.2 h0
    have hl := h.1
    subst hl
    have hsz : (Lib.join (l.map (·.data.toList)) []).length = (jc l).size := by unfold jc; simp [ByteArray.size]
    refine (Any.strings_Join Tryd.laysJoin Tryd.joinExtra b off c l ⟨#[]⟩ w (fun j x hx => ?_) hb (by omega) hc ?_).mono fun e w' ⟨he, hw⟩ => ⟨?_, hw⟩
    · have hjl := (List.getElem?_eq_some_iff.1 hx).1
      rw [hcell j hjl]
      have : sat l j = x := by unfold sat; rw [List.getD_eq_getElem?_getD, hx]; rfl
      rw [this]
    · show (Lib.join (l.map (·.data.toList)) []).length ≤ _
      rw [hsz]; omega
    · rw [he]; rfl
end Go.Proofs.YtglhonnmppclpaaDoor.Ow
