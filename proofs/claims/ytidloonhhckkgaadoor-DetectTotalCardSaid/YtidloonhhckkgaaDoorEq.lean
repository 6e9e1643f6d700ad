/- Two detections held against one another. No condition. -/
import Derived.Test.YtidloonhhckkgaaDoorB2
set_option linter.unusedSimpArgs false
set_option linter.unusedVariables false
namespace Go.Proofs.YtidloonhhckkgaaDoor.Wk
open Go Go.RowKit Go.Proofs.YtidloonhhckkgaaDoor.Av
theorem eqG25 (a b : Sn) (w : World) : (Op.equalIn 10000 25 (.agg (([.string a.d.dev, .int .i64 a.d.seq, .int .i64 a.d.time, .string a.d.tag, .string a.d.plate, .int .i64 a.d.axles, .int .i64 a.d.score, .int .i64 a.time, .string a.point, .int .i64 a.lane, .int .i64 a.kind] : List Value).toArray)) (.agg (([.string b.d.dev, .int .i64 b.d.seq, .int .i64 b.d.time, .string b.d.tag, .string b.d.plate, .int .i64 b.d.axles, .int .i64 b.d.score, .int .i64 b.time, .string b.point, .int .i64 b.lane, .int .i64 b.kind] : List Value).toArray))).run Tryd.prog w = .ok (eS a b) w := by
  have hS : Tryd.prog.underlying 25 = some (.struct (Tryd.prog.fieldsOf 25)) := by kernel_rfl
  have hp : Tryd.prog.stoodInHeld 25 = false := by kernel_rfl
  unfold eS
  rw [show (10000 : Nat) = 9999 + 1 from rfl, run_equalIn_agg w 9999 25 _ _ hS hp]
  simp only [Program.fieldsOf, Tryd.underlying25, Tryd.underlying23]
  simp only [← toList_sEq]
  by_cases h0 : a.d.dev.toList == b.d.dev.toList
  · skip
    by_cases h1 : a.d.seq == b.d.seq
    · skip
      by_cases h2 : a.d.time == b.d.time
      · skip
        by_cases h3 : a.d.tag.toList == b.d.tag.toList
        · skip
          by_cases h4 : a.d.plate.toList == b.d.plate.toList
          · skip
            by_cases h5 : a.d.axles == b.d.axles
            · skip
              by_cases h6 : a.d.score == b.d.score
              · skip
                by_cases h7 : a.time == b.time
                · skip
                  by_cases h8 : a.point.toList == b.point.toList
                  · skip
                    by_cases h9 : a.lane == b.lane
                    · skip
                      by_cases h10 : a.kind == b.kind
                      · skip
                        simp only [h0, h1, h2, h3, h4, h5, h6, h7, h8, h9, h10] <;> go_simp
                      · simp only [h0, h1, h2, h3, h4, h5, h6, h7, h8, h9, h10] <;> go_simp
                    · simp only [h0, h1, h2, h3, h4, h5, h6, h7, h8, h9] <;> go_simp
                  · simp only [h0, h1, h2, h3, h4, h5, h6, h7, h8] <;> go_simp
                · simp only [h0, h1, h2, h3, h4, h5, h6, h7] <;> go_simp
              · simp only [h0, h1, h2, h3, h4, h5, h6] <;> go_simp
            · simp only [h0, h1, h2, h3, h4, h5] <;> go_simp
          · simp only [h0, h1, h2, h3, h4] <;> go_simp
        · simp only [h0, h1, h2, h3] <;> go_simp
      · simp only [h0, h1, h2] <;> go_simp
    · simp only [h0, h1] <;> go_simp
  · simp only [h0] <;> go_simp
theorem eqlG25 (a b : Sn) (x y : Operand) (w : World) : (do eqGuard .eql 25 x y (.agg (([.string a.d.dev, .int .i64 a.d.seq, .int .i64 a.d.time, .string a.d.tag, .string a.d.plate, .int .i64 a.d.axles, .int .i64 a.d.score, .int .i64 a.time, .string a.point, .int .i64 a.lane, .int .i64 a.kind] : List Value).toArray)) (.agg (([.string b.d.dev, .int .i64 b.d.seq, .int .i64 b.d.time, .string b.d.tag, .string b.d.plate, .int .i64 b.d.axles, .int .i64 b.d.score, .int .i64 b.time, .string b.point, .int .i64 b.lane, .int .i64 b.kind] : List Value).toArray)); binOp .eql 25 (.agg (([.string a.d.dev, .int .i64 a.d.seq, .int .i64 a.d.time, .string a.d.tag, .string a.d.plate, .int .i64 a.d.axles, .int .i64 a.d.score, .int .i64 a.time, .string a.point, .int .i64 a.lane, .int .i64 a.kind] : List Value).toArray)) (.agg (([.string b.d.dev, .int .i64 b.d.seq, .int .i64 b.d.time, .string b.d.tag, .string b.d.plate, .int .i64 b.d.axles, .int .i64 b.d.score, .int .i64 b.time, .string b.point, .int .i64 b.lane, .int .i64 b.kind] : List Value).toArray)) : Sem Value).run Tryd.prog w = .ok (.bool (eS a b)) w := by
  have hm : Tryd.prog.eqGuardType Tryd.prog.depth 25 = false := by kernel_rfl
  rw [Sem.run_bind, run_eqGuard_agg w .eql 25 x y _ _ hm, Result.andThen_ok, run_eql_struct, eqG25]
  rfl

end Go.Proofs.YtidloonhhckkgaaDoor.Wk
