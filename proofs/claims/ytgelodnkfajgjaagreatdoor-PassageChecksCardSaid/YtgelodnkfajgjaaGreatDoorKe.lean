/- Pairs of texts as keys of a map. No condition. -/
import Derived.Test.YtgelodnkfajgjaaGreatDoorTy
import Derived.Test.YtgelodnkfajgjaaGreatDoorAvI
set_option linter.unusedSimpArgs false
set_option linter.unusedVariables false
namespace Go.Proofs.YtgelodnkfajgjaaGreatDoor.Wk
open Go Go.RowKit Go.Proofs.YtgelodnkfajgjaaGreatDoor.Av
def okK153 (v : Value) : Prop := ∃ a b : ByteArray, v = .agg ([.string a, .string b] : List Value).toArray
def sameK153 : Value → Value → Bool
  | .agg ⟨[.string a, .string b]⟩, .agg ⟨[.string c, .string d]⟩ => sEq a c && sEq b d
  | _, _ => false
theorem eqK153 (a b c d : ByteArray) (w : World) : (Op.equal 153 (.agg ([.string a, .string b] : List Value).toArray) (.agg ([.string c, .string d] : List Value).toArray)).run Tryz.prog w = .ok (sEq a c && sEq b d) w := by
  have hS : Tryz.prog.underlying 153 = some (.array 2 9) := by kernel_rfl
  have e1 : (Op.equalIn 9999 9 (.string a) (.string c)).run Tryz.prog w = .ok (sEq a c) w := by rw [show (9999 : Nat) = 9998 + 1 from rfl, run_equalIn_string w 9998 9 a c Tryz.underlying9, toList_sEq]
  have e2 : (Op.equalIn 9999 9 (.string b) (.string d)).run Tryz.prog w = .ok (sEq b d) w := by rw [show (9999 : Nat) = 9998 + 1 from rfl, run_equalIn_string w 9998 9 b d Tryz.underlying9, toList_sEq]
  show (Op.equalIn 10000 153 _ _).run _ _ = _
  rw [show (10000 : Nat) = 9999 + 1 from rfl]
  unfold Op.equalIn
  simp only [run_underlying hS, Sem.run_bind, Result.andThen_ok]
  go_simp
  rw [show List.range' 0 2 = [0, 1] from rfl]
  simp only [List.forIn_cons, List.forIn_nil]
  have hA : ∀ w, (isAgg 9).run Tryz.prog w = .ok false w := fun w => by rw [run_isAgg' Tryz.underlying9]; rfl
  cases h1 : sEq a c <;> cases h2 : sEq b d <;> rw [h1] at e1 <;> rw [h2] at e2 <;> simp [hA, e1, e2, Result.andThen]
theorem keyK153 : KeyK Tryz.prog 153 (.array 2 9) okK153 sameK153 where
  hu := by kernel_rfl
  hn := fun k x => by cases k <;> cases x <;> rfl
  hc := by
    rintro k ⟨a, b, rfl⟩ e w
    have hS : Tryz.prog.underlying 153 = some (.array 2 9) := by kernel_rfl
    rw [show (10000 : Nat) = 9998 + 1 + 1 from rfl]
    unfold Instr.checkKey
    simp only [run_underlying hS, Sem.run_bind, Result.andThen_ok]
    go_simp
    rw [show List.range' 0 2 = [0, 1] from rfl]
    simp only [List.forIn_cons, List.forIn_nil]
    have hA : ∀ w, (isAgg 9).run Tryz.prog w = .ok false w := fun w => by rw [run_isAgg' Tryz.underlying9]; rfl
    rw [show (9999 : Nat) = 9998 + 1 from rfl]
    simp [hA, run_checkKey' Tryz.underlying9 rfl, Result.andThen]
  he := by
    rintro k x ⟨a, b, rfl⟩ ⟨c, d, rfl⟩ w
    exact eqK153 a b c d w
  hr := by
    rintro k ⟨a, b, rfl⟩
    simp [sameK153, sEq]

end Go.Proofs.YtgelodnkfajgjaaGreatDoor.Wk
