/- Pairs of texts, and rates, as keys of a map. No condition. -/
import Derived.Test.YtlmihhecpaomjaaTy
import Derived.Test.YtlmihhecpaomjaaAvI
set_option linter.unusedSimpArgs false
set_option linter.unusedVariables false
namespace Go.Proofs.Ytlmihhecpaomjaa.Wk
open Go Go.RowKit Go.Proofs.Ytlmihhecpaomjaa.Av
def okK105 (v : Value) : Prop := ∃ a b : ByteArray, v = .agg ([.string a, .string b] : List Value).toArray
def sameK105 : Value → Value → Bool
  | .agg ⟨[.string a, .string b]⟩, .agg ⟨[.string c, .string d]⟩ => sEq a c && sEq b d
  | _, _ => false
theorem eqK105 (a b c d : ByteArray) (w : World) : (Op.equal 105 (.agg ([.string a, .string b] : List Value).toArray) (.agg ([.string c, .string d] : List Value).toArray)).run Try.prog w = .ok (sEq a c && sEq b d) w := by
  have hS : Try.prog.underlying 105 = some (.array 2 9) := by kernel_rfl
  have e1 : (Op.equalIn 9999 9 (.string a) (.string c)).run Try.prog w = .ok (sEq a c) w := by rw [show (9999 : Nat) = 9998 + 1 from rfl, run_equalIn_string w 9998 9 a c Try.underlying9, toList_sEq]
  have e2 : (Op.equalIn 9999 9 (.string b) (.string d)).run Try.prog w = .ok (sEq b d) w := by rw [show (9999 : Nat) = 9998 + 1 from rfl, run_equalIn_string w 9998 9 b d Try.underlying9, toList_sEq]
  show (Op.equalIn 10000 105 _ _).run _ _ = _
  rw [show (10000 : Nat) = 9999 + 1 from rfl]
  unfold Op.equalIn
  simp only [run_underlying hS, Sem.run_bind, Result.andThen_ok]
  go_simp
  rw [show List.range' 0 2 = [0, 1] from rfl]
  simp only [List.forIn_cons, List.forIn_nil]
  have hA : ∀ w, (isAgg 9).run Try.prog w = .ok false w := fun w => by rw [run_isAgg' Try.underlying9]; rfl
  cases h1 : sEq a c <;> cases h2 : sEq b d <;> rw [h1] at e1 <;> rw [h2] at e2 <;> simp [hA, e1, e2, Result.andThen]
theorem keyK105 : KeyK Try.prog 105 (.array 2 9) okK105 sameK105 where
  hu := by kernel_rfl
  hn := fun k x => by cases k <;> cases x <;> rfl
  hc := by
    rintro k ⟨a, b, rfl⟩ e w
    have hS : Try.prog.underlying 105 = some (.array 2 9) := by kernel_rfl
    rw [show (10000 : Nat) = 9998 + 1 + 1 from rfl]
    unfold Instr.checkKey
    simp only [run_underlying hS, Sem.run_bind, Result.andThen_ok]
    go_simp
    rw [show List.range' 0 2 = [0, 1] from rfl]
    simp only [List.forIn_cons, List.forIn_nil]
    have hA : ∀ w, (isAgg 9).run Try.prog w = .ok false w := fun w => by rw [run_isAgg' Try.underlying9]; rfl
    rw [show (9999 : Nat) = 9998 + 1 from rfl]
    simp [hA, run_checkKey' Try.underlying9 rfl, Result.andThen]
  he := by
    rintro k x ⟨a, b, rfl⟩ ⟨c, d, rfl⟩ w
    exact eqK105 a b c d w
def okK68 (v : Value) : Prop := ∃ (x0 : ByteArray) (x1 : ByteArray) (x2 : Int) (x3 : ByteArray) (x4 : Int), v = .agg ([.string x0, .string x1, .int .i64 x2, .string x3, .int .i64 x4] : List Value).toArray
def sameK68 : Value → Value → Bool
  | .agg ⟨[.string x0, .string x1, .int .i64 x2, .string x3, .int .i64 x4]⟩, .agg ⟨[.string y0, .string y1, .int .i64 y2, .string y3, .int .i64 y4]⟩ => ((((sEq x0 y0 && sEq x1 y1) && (x2 == y2)) && sEq x3 y3) && (x4 == y4))
  | _, _ => false
theorem eqK68 (x0 : ByteArray) (x1 : ByteArray) (x2 : Int) (x3 : ByteArray) (x4 : Int) (y0 : ByteArray) (y1 : ByteArray) (y2 : Int) (y3 : ByteArray) (y4 : Int) (w : World) : (Op.equal 68 (.agg ([.string x0, .string x1, .int .i64 x2, .string x3, .int .i64 x4] : List Value).toArray) (.agg ([.string y0, .string y1, .int .i64 y2, .string y3, .int .i64 y4] : List Value).toArray)).run Try.prog w = .ok ((((sEq x0 y0 && sEq x1 y1) && (x2 == y2)) && sEq x3 y3) && (x4 == y4)) w := by
  have hS : Try.prog.underlying 68 = some (.struct (Try.prog.fieldsOf 68)) := by kernel_rfl
  have hp : Try.prog.stoodInHeld 68 = false := by kernel_rfl
  show (Op.equalIn 10000 68 _ _).run _ _ = _
  rw [show (10000 : Nat) = 9999 + 1 from rfl, run_equalIn_agg w 9999 68 _ _ hS hp]
  simp only [Program.fieldsOf, Try.underlying68]
  simp only [← toList_sEq]
  by_cases h0 : x0.toList == y0.toList <;> by_cases h1 : x1.toList == y1.toList <;> by_cases h2 : x2 == y2 <;> by_cases h3 : x3.toList == y3.toList <;> by_cases h4 : x4 == y4 <;> simp only [h0, h1, h2, h3, h4] <;> go_simp
theorem keyK68 : KeyK Try.prog 68 (.struct (Try.prog.fieldsOf 68)) okK68 sameK68 where
  hu := by kernel_rfl
  hn := fun k x => by cases k <;> cases x <;> rfl
  hc := by
    rintro k ⟨x0, x1, x2, x3, x4, rfl⟩ e w
    rw [show (10000 : Nat) = 9998 + 1 + 1 from rfl]
    unfold Instr.checkKey
    simp only [run_underlying Try.underlying68, Sem.run_bind, Result.andThen_ok]
    go_simp
    rw [show (9999 : Nat) = 9998 + 1 from rfl]
    simp only [run_checkKey' Try.underlying9 rfl, run_checkKey' Try.underlying3 rfl, Result.andThen_ok]
  he := by
    rintro k x ⟨x0, x1, x2, x3, x4, rfl⟩ ⟨y0, y1, y2, y3, y4, rfl⟩ w
    exact eqK68 x0 x1 x2 x3 x4 y0 y1 y2 y3 y4 w

end Go.Proofs.Ytlmihhecpaomjaa.Wk
