/- New cases for one plate; the program is awake. No condition. -/
import Derived.Test.YtdafmaocbkmmgaaDoorB7
import Derived.Test.YtdafmaocbkmmgaaDoorB6
import Derived.Test.YtdafmaocbkmmgaaDoorAv27
import Derived.Test.YtdafmaocbkmmgaaDoorB12
set_option linter.unusedSimpArgs false
set_option linter.unusedVariables false
namespace Go.Proofs.YtdafmaocbkmmgaaDoor.Wk
open Go Go.RowKit Go.Proofs.YtdafmaocbkmmgaaDoor.Av
theorem eqI32 (a : Cs) (w : World) : (Op.equalIn 10000 32 (.agg ([.string a.id, .string a.plate, .string a.key, .int .i64 a.begun, .int .i64 a.since, .int .i64 a.stage, .int .i64 a.owed, .int .i64 a.paid, .int .i64 a.paused, .int .i64 a.ap.state, .int .i64 a.ap.ground, .int .i64 a.ap.day] : List Value).toArray) (.agg ([.string a.id, .string a.plate, .string a.key, .int .i64 a.begun, .int .i64 a.since, .int .i64 a.stage, .int .i64 a.owed, .int .i64 a.paid, .int .i64 a.paused, .int .i64 a.ap.state, .int .i64 a.ap.ground, .int .i64 a.ap.day] : List Value).toArray)).run Tryd.prog w = .ok true w := by
  have hS : Tryd.prog.underlying 32 = some (.struct (Tryd.prog.fieldsOf 32)) := by kernel_rfl
  have hp : Tryd.prog.stoodInHeld 32 = false := by kernel_rfl
  rw [show (10000 : Nat) = 9999 + 1 from rfl, run_equalIn_agg w 9999 32 _ _ hS hp]
  simp only [Program.fieldsOf, Tryd.underlying32]
  go_simp

theorem eql32 (a : Cs) (x y : Operand) (w : World) : (do eqGuard .eql 32 x y (.agg ([.string a.id, .string a.plate, .string a.key, .int .i64 a.begun, .int .i64 a.since, .int .i64 a.stage, .int .i64 a.owed, .int .i64 a.paid, .int .i64 a.paused, .int .i64 a.ap.state, .int .i64 a.ap.ground, .int .i64 a.ap.day] : List Value).toArray) (.agg ([.string a.id, .string a.plate, .string a.key, .int .i64 a.begun, .int .i64 a.since, .int .i64 a.stage, .int .i64 a.owed, .int .i64 a.paid, .int .i64 a.paused, .int .i64 a.ap.state, .int .i64 a.ap.ground, .int .i64 a.ap.day] : List Value).toArray); binOp .eql 32 (.agg ([.string a.id, .string a.plate, .string a.key, .int .i64 a.begun, .int .i64 a.since, .int .i64 a.stage, .int .i64 a.owed, .int .i64 a.paid, .int .i64 a.paused, .int .i64 a.ap.state, .int .i64 a.ap.ground, .int .i64 a.ap.day] : List Value).toArray) (.agg ([.string a.id, .string a.plate, .string a.key, .int .i64 a.begun, .int .i64 a.since, .int .i64 a.stage, .int .i64 a.owed, .int .i64 a.paid, .int .i64 a.paused, .int .i64 a.ap.state, .int .i64 a.ap.ground, .int .i64 a.ap.day] : List Value).toArray) : Sem Value).run Tryd.prog w = .ok (.bool true) w := by
  have hm : Tryd.prog.eqGuardType Tryd.prog.depth 32 = false := by kernel_rfl
  rw [Sem.run_bind, run_eqGuard_agg w .eql 32 x y _ _ hm, Result.andThen_ok, run_eql_struct, eqI32]
  rfl

theorem neq32 (a : Cs) (x y : Operand) (w : World) : (do eqGuard .neq 32 x y (.agg ([.string a.id, .string a.plate, .string a.key, .int .i64 a.begun, .int .i64 a.since, .int .i64 a.stage, .int .i64 a.owed, .int .i64 a.paid, .int .i64 a.paused, .int .i64 a.ap.state, .int .i64 a.ap.ground, .int .i64 a.ap.day] : List Value).toArray) (.agg ([.string a.id, .string a.plate, .string a.key, .int .i64 a.begun, .int .i64 a.since, .int .i64 a.stage, .int .i64 a.owed, .int .i64 a.paid, .int .i64 a.paused, .int .i64 a.ap.state, .int .i64 a.ap.ground, .int .i64 a.ap.day] : List Value).toArray); binOp .neq 32 (.agg ([.string a.id, .string a.plate, .string a.key, .int .i64 a.begun, .int .i64 a.since, .int .i64 a.stage, .int .i64 a.owed, .int .i64 a.paid, .int .i64 a.paused, .int .i64 a.ap.state, .int .i64 a.ap.ground, .int .i64 a.ap.day] : List Value).toArray) (.agg ([.string a.id, .string a.plate, .string a.key, .int .i64 a.begun, .int .i64 a.since, .int .i64 a.stage, .int .i64 a.owed, .int .i64 a.paid, .int .i64 a.paused, .int .i64 a.ap.state, .int .i64 a.ap.ground, .int .i64 a.ap.day] : List Value).toArray) : Sem Value).run Tryd.prog w = .ok (.bool false) w := by
  have hm : Tryd.prog.eqGuardType Tryd.prog.depth 32 = false := by kernel_rfl
  rw [Sem.run_bind, run_eqGuard_agg w .neq 32 x y _ _ hm, Result.andThen_ok, run_neq_struct, eqI32]
  rfl

set_option maxHeartbeats 4000000 in
set_option maxRecDepth 100000 in
theorem capital50  : Ctr Tryd.prog 30 [.fl (.int .i32 50)] (.d (.fl (.int .i32 50))) := by
  refine ctr (n := 21) (rs := #[.tmp 2]) (L := [(0, .d (.fl (.int .i32 50)))]) Tryd.func30 rfl rfl rfl rfl rfl (fun w0 U0 => ?_)
  refine a_rseq ?_
  refine rg_put (d := 2) (v := .d (.fl (.int .i32 0))) rfl (og rfl (op_assign rfl rfl rfl)) ?_
  refine rg_done rfl ?_
  refine a_seq ?_
  refine a_block ?_
  refine a_rseq ?_
  refine rg_put (d := 4) (v := .d (.fl (.int .i32 50))) rfl (og rfl (op_move rfl rfl rfl)) ?_
  refine rg_put (d := 5) (v := .d (.fl (.bool (50 == 32)))) rfl (og rfl (op_bin rfl rfl rfl (b_eql _ _ _ _) rfl)) ?_
  refine rg_put (d := 6) (v := .d (.fl (.bool (50 == 32)))) rfl (og rfl (op_move rfl rfl rfl)) ?_
  refine rg_put (d := 7) (v := .d (.fl (.int .i32 50))) rfl (oy rfl rfl rfl rfl (op_move rfl rfl rfl)) ?_
  refine rg_put (d := 8) (v := .d (.fl (.bool (50 == 45)))) rfl (oy rfl rfl rfl rfl (op_bin rfl rfl rfl (b_eql _ _ _ _) rfl)) ?_
  refine rg_put (d := 9) (v := .d (.fl (.bool (50 == 45)))) rfl (og rfl (op_pick rfl rfl rfl rfl)) ?_
  refine rg_put (d := 3) (v := .d (.fl (.bool (50 == 45)))) rfl (og rfl (op_assign rfl rfl rfl)) ?_
  refine rg_done rfl ?_
  refine a_condF rfl rfl ?_
  refine a_rseq ?_
  refine rg_put (d := 11) (v := .d (.fl (.int .i32 50))) rfl (og rfl (op_move rfl rfl rfl)) ?_
  refine rg_put (d := 12) (v := .d (.fl (.bool ((decide (97 ≤ 50)))))) rfl (og rfl (op_bin rfl rfl rfl (b_leq _ _ _ _) rfl)) ?_
  refine rg_put (d := 13) (v := .d (.fl (.bool ((decide (97 ≤ 50)))))) rfl (og rfl (op_move rfl rfl rfl)) ?_
  refine rg_put (d := 14) (v := .d (.fl undef)) rfl (on rfl rfl rfl rfl) ?_
  refine rg_put (d := 15) (v := .d (.fl undef)) rfl (on rfl rfl rfl rfl) ?_
  refine rg_put (d := 16) (v := .d (.fl (.bool false))) rfl (og rfl (op_pick rfl rfl rfl rfl)) ?_
  refine rg_put (d := 10) (v := .d (.fl (.bool false))) rfl (og rfl (op_assign rfl rfl rfl)) ?_
  refine rg_done rfl ?_
  refine a_condF rfl rfl ?_
  refine a_skip ?_
  show A _ _ _ _ _ _ _
  refine a_rseq ?_
  refine rg_put (d := 20) (v := .d (.fl (.int .i32 50))) rfl (og rfl (op_move rfl rfl rfl)) ?_
  refine rg_put (d := 2) (v := .d (.fl (.int .i32 50))) rfl (og rfl (op_assign rfl rfl rfl)) ?_
  refine rg_done rfl ?_
  refine a_ret ?_
  show ∃ ds, ResL _ _ _ ds ∧ RV.of ds = _
  refine ⟨[.fl (.int .i32 50)], (.cons (.tmp rfl (.d _)) .nil), ?_⟩
  rfl
abbrev AB2 : ByteArray := ⟨#[65, 66, 49, 50]⟩
theorem ab2_0 : Utf8.decode AB2 0 = (65, 1) := by kernel_rfl
theorem ab2_1 : Utf8.decode AB2 1 = (66, 1) := by kernel_rfl
theorem ab2_2 : Utf8.decode AB2 2 = (49, 1) := by kernel_rfl
theorem ab2_3 : Utf8.decode AB2 3 = (50, 1) := by kernel_rfl
theorem ab2_dec : ∀ k, k < AB2.size → Utf8.decode AB2 k = ((bt AB2 k).toNat, 1) := by
  intro k hk
  have : k < 4 := hk
  match k, this with
  | 0, _ => exact ab2_0
  | 1, _ => exact ab2_1
  | 2, _ => exact ab2_2
  | 3, _ => exact ab2_3
theorem ab2_veh : Ctr Tryd.prog 15 [.fl (.string AB2)] (.d (.fl (.bool true))) := by
  refine veh28 AB2 (normal40 AB2 (map47 AB2 (fun k hk => by rw [ab2_dec k hk]) (fun k hk => ?_) (fun k hk => ?_)) (by decide) (fun k hk => ?_))
  · rw [ab2_dec k hk]
    have : k < 4 := hk
    match k, this with
    | 0, _ => rfl
    | 1, _ => rfl
    | 2, _ => rfl
    | 3, _ => rfl
  · rw [ab2_dec k hk]
    have : k < 4 := hk
    match k, this with
    | 0, _ => exact capital65
    | 1, _ => exact capital66
    | 2, _ => exact capital49
    | 3, _ => exact capital50
  · have : k < 4 := hk
    match k, this with
    | 0, _ => decide
    | 1, _ => decide
    | 2, _ => decide
    | 3, _ => decide
abbrev X0 : Cs := Cs.mk ⟨#[118, 49]⟩ ⟨#[65, 66, 49, 50]⟩ ⟨#[107]⟩ 0 0 1 400 0 0 (Ap.mk 0 0 0)
abbrev X1 : Cs := Cs.mk ⟨#[118, 49]⟩ ⟨#[65, 66, 49, 50]⟩ ⟨#[107]⟩ 0 1 2 500 0 0 (Ap.mk 0 0 0)
abbrev XZ : Cs := Cs.mk ⟨#[118, 49]⟩ ⟨#[65, 66, 49, 50]⟩ ⟨#[107]⟩ 0 1 2 500 0 0 (Ap.mk 1 1 1)
abbrev XP : Cs := Cs.mk ⟨#[118, 49]⟩ ⟨#[65, 66, 49, 50]⟩ ⟨#[107]⟩ 0 1 6 500 500 0 (Ap.mk 1 1 1)
abbrev W0 : Lw := Lw.mk [1, 2, 2, 2] [100, 0, 0, 0] 100
theorem k1 : newS ⟨#[118, 49]⟩ ⟨#[65, 66, 49, 50]⟩ ⟨#[107]⟩ 400 0 = (X0, 0) := by kernel_rfl
theorem k2 : adv W0 [] X0 1 = (X1, 0) := by kernel_rfl
theorem k3 : fil W0 [] X1 1 1 = (XZ, 0) := by kernel_rfl
theorem k4 : adv W0 [] XZ 50 = (XZ, 0) := by kernel_rfl
theorem k5 : pay XZ 600 = ((XP, 100), 0) := by kernel_rfl
theorem k6 : pend XZ = true := by kernel_rfl
theorem new_f (c : Int) (h : 1 ≤ c ∧ c ≤ 65535) : newS ⟨#[118, 49]⟩ ⟨#[65, 66, 49, 50]⟩ ⟨#[107]⟩ c 0 = (Cs.mk ⟨#[118, 49]⟩ ⟨#[65, 66, 49, 50]⟩ ⟨#[107]⟩ 0 0 1 c 0 0 (Ap.mk 0 0 0), 0) := by
  unfold newS
  rw [if_neg (show ¬ (!(isF ⟨#[118, 49]⟩)) = true by rw [show isF ⟨#[118, 49]⟩ = true by kernel_rfl]; simp), if_neg (show ¬ (!(isF ⟨#[107]⟩)) = true by rw [show isF ⟨#[107]⟩ = true by kernel_rfl]; simp), if_neg (by simp; omega), if_neg (show ¬ (!(isD 0)) = true by decide)]
theorem new_top (c : Int) (h : 1 ≤ c ∧ c ≤ 65535) : Ctr Tryd.prog 6 [.fl (.string ⟨#[118, 49]⟩), .fl (.string ⟨#[65, 66, 49, 50]⟩), .fl (.string ⟨#[107]⟩), .fl (.int .i64 c), .fl (.int .i64 0)] (.tu [.ag (eCs (Cs.mk ⟨#[118, 49]⟩ ⟨#[65, 66, 49, 50]⟩ ⟨#[107]⟩ 0 0 1 c 0 0 (Ap.mk 0 0 0))), .fl (.int .i64 0)]) := by
  have := new14 ⟨#[118, 49]⟩ ⟨#[65, 66, 49, 50]⟩ ⟨#[107]⟩ c 0 ab2_veh
  rw [new_f c h] at this; exact this

theorem u1 : Ctr Tryd.prog 6 [.fl (.string ⟨#[118, 49]⟩), .fl (.string ⟨#[65, 66, 49, 50]⟩), .fl (.string ⟨#[107]⟩), .fl (.int .i64 400), .fl (.int .i64 0)] (.tu [.ag (eCs X0), .fl (.int .i64 0)]) := by
  have := new14 ⟨#[118, 49]⟩ ⟨#[65, 66, 49, 50]⟩ ⟨#[107]⟩ 400 0 ab2_veh
  rw [k1] at this; exact this
theorem u2 : Ctr Tryd.prog 7 [.ag (eLw W0), .sl 1 (List.map (rI .i64) ([] : List Int)), .ag (eCs X0), .fl (.int .i64 1)] (.tu [.ag (eCs X1), .fl (.int .i64 0)]) := by
  have := adv17 W0 [] X0 1 (by decide)
  rw [k2] at this; exact this
theorem u3 : Ctr Tryd.prog 9 [.ag (eLw W0), .sl 1 (List.map (rI .i64) ([] : List Int)), .ag (eCs X1), .fl (.int .i64 1), .fl (.int .i64 1)] (.tu [.ag (eCs XZ), .fl (.int .i64 0)]) := by
  have := fil10 W0 [] X1 1 1 (by decide)
  rw [k3] at this; exact this
theorem u4 : Ctr Tryd.prog 7 [.ag (eLw W0), .sl 1 (List.map (rI .i64) ([] : List Int)), .ag (eCs XZ), .fl (.int .i64 50)] (.tu [.ag (eCs XZ), .fl (.int .i64 0)]) := by
  have := adv17 W0 [] XZ 50 (by decide)
  rw [k4] at this; exact this
theorem u5 : Ctr Tryd.prog 8 [.ag (eCs XZ), .fl (.int .i64 600)] (.tu [.ag (eCs XP), .fl (.int .i64 100), .fl (.int .i64 0)]) := by
  have := pay23 XZ 600 (by decide) (by decide)
  rw [k5] at this; exact this
theorem u6 : Ctr Tryd.prog 12 [.ag (eCs XZ)] (.d (.fl (.bool true))) := by
  have := pend17 XZ
  rw [k6] at this; exact this
set_option maxHeartbeats 4000000 in
set_option maxRecDepth 100000 in
theorem awake5  : Ctr Tryd.prog 5 [] (.d (.fl (.bool true))) := by
  refine ctr (n := 90) (rs := #[.tmp 0]) (L := []) Tryd.func5 rfl rfl rfl rfl rfl (fun w0 U0 => ?_)
  refine a_rseq ?_
  refine rg_put (d := 0) (v := .d (.fl (.bool false))) rfl (og rfl (op_assign rfl rfl rfl)) ?_
  refine rg_done rfl ?_
  refine a_rseq ?_
  refine rg_put (d := 13) (v := .d (.sl 1 (List.map (rI .i64) [1, 2, 2, 2]))) rfl (og rfl (of_eff (op_slices rfl Tryd.underlying22 ti3 rfl rfl rfl (by kernel_rfl) (xs := [.fl (.int .i64 1), .fl (.int .i64 2), .fl (.int .i64 2), .fl (.int .i64 2)]) rfl rfl (.cons rfl rfl (.d _) rfl rfl rfl (.cons rfl rfl (.d _) rfl rfl rfl (.cons rfl rfl (.d _) rfl rfl rfl (.cons rfl rfl (.d _) rfl rfl rfl .nil)))) rfl) rfl)) ?_
  refine rg_put (d := 14) (v := .d (.sl 1 (List.map (rI .i64) [100, 0, 0, 0]))) rfl (og rfl (of_eff (op_slices rfl Tryd.underlying22 ti3 rfl rfl rfl (by kernel_rfl) (xs := [.fl (.int .i64 100), .fl (.int .i64 0), .fl (.int .i64 0), .fl (.int .i64 0)]) rfl rfl (.cons rfl rfl (.d _) rfl rfl rfl (.cons rfl rfl (.d _) rfl rfl rfl (.cons rfl rfl (.d _) rfl rfl rfl (.cons rfl rfl (.d _) rfl rfl rfl .nil)))) rfl) rfl)) ?_
  refine rg_put (d := 15) (v := .d (.ag (eLw (Lw.mk [1, 2, 2, 2] [100, 0, 0, 0] 100)))) rfl (og rfl (of_eff (op_build rfl Tryd.underlying24 ti24 rfl (by kernel_rfl) (by kernel_rfl) (pl := #[(0, 1), (1, 1), (2, 1)]) (by kernel_rfl) (.cons rfl rfl (.d _) rfl rfl rfl (.cons rfl rfl (.d _) rfl rfl rfl (.cons rfl rfl (.d _) rfl rfl rfl .nil))) rfl) rfl)) ?_
  refine rg_nam (d := 1) (v := .pt 101 0) (m := 101) (nw := [(101, .bx 24 [.fl (.slice none 0 0), .fl (.slice none 0 0), .fl (.int .i64 0)])]) rfl (og rfl (of_eff (s_alloc 101 rfl ti24 (by kernel_rfl) rfl) rfl)) rfl ?_
  refine rg_sto (nw := [(101, .bx 24 ((eLw (Lw.mk [1, 2, 2, 2] [100, 0, 0, 0] 100))))]) rfl (og rfl (of_eff (s_store rfl rfl ti24 rfl rfl rfl rfl rfl rfl) rfl)) ?_
  refine rg_done rfl ?_
  refine a_rseq ?_
  refine rg_put (d := 17) (v := .tu [.ag (eCs X0), .fl (.int .i64 0)]) rfl (og rfl (op_call rfl Tryd.func6 nm6 rfl (.cons rfl (.d _) (.cons rfl (.d _) (.cons rfl (.d _) (.cons rfl (.d _) (.cons rfl (.d _) .nil))))) u1 rfl)) ?_
  refine rg_put (d := 16) (v := .tu [.ag (eCs X0), .fl (.int .i64 0)]) rfl (og rfl (op_move rfl rfl rfl)) ?_
  refine rg_put (d := 18) (v := .d (.ag (eCs X0))) rfl (og rfl (op_extract rfl rfl rfl rfl)) ?_
  refine rg_put (d := 19) (v := .d (.fl (.int .i64 0))) rfl (og rfl (op_extract rfl rfl rfl rfl)) ?_
  refine rg_nam (d := 2) (v := .pt 102 0) (m := 102) (nw := [(102, .bx 32 ([.fl (.string (⟨#[]⟩)), .fl (.string (⟨#[]⟩)), .fl (.string (⟨#[]⟩)), .fl (.int .i64 0), .fl (.int .i64 0), .fl (.int .i64 0), .fl (.int .i64 0), .fl (.int .i64 0), .fl (.int .i64 0), .fl (.int .i64 0), .fl (.int .i64 0), .fl (.int .i64 0)]))]) rfl (og rfl (of_eff (s_alloc 102 rfl ti32 (by kernel_rfl) rfl) rfl)) rfl ?_
  refine rg_sto (nw := [(102, .bx 32 (eCs X0))]) rfl (og rfl (of_eff (s_store rfl rfl ti32 rfl rfl rfl rfl rfl rfl) rfl)) ?_
  refine rg_put (d := 3) (v := .d (.fl (.int .i64 0))) rfl (og rfl (op_assign rfl rfl rfl)) ?_
  refine rg_done rfl ?_
  refine a_rseq ?_
  refine rg_put (d := 21) (v := .d (.ag (eLw (Lw.mk [1, 2, 2, 2] [100, 0, 0, 0] 100)))) rfl (og rfl (of_eff (s_load_pts rfl Tryd.underlying24 rfl ti24 rfl rfl rfl rfl) rfl)) ?_
  refine rg_put (d := 22) (v := .d (.ag (eCs X0))) rfl (og rfl (of_eff (s_load_pts rfl Tryd.underlying32 rfl ti32 rfl rfl rfl rfl) rfl)) ?_
  refine rg_put (d := 23) (v := .tu [.ag (eCs X1), .fl (.int .i64 0)]) rfl (og rfl (op_call rfl Tryd.func7 nm7 rfl (.cons rfl (.d _) (.cons rfl (.cv (Cv.nil _)) (.cons rfl (.d _) (.cons rfl (.d _) .nil)))) u2 rfl)) ?_
  refine rg_put (d := 20) (v := .tu [.ag (eCs X1), .fl (.int .i64 0)]) rfl (og rfl (op_move rfl rfl rfl)) ?_
  refine rg_put (d := 24) (v := .d (.ag (eCs X1))) rfl (og rfl (op_extract rfl rfl rfl rfl)) ?_
  refine rg_put (d := 25) (v := .d (.fl (.int .i64 0))) rfl (og rfl (op_extract rfl rfl rfl rfl)) ?_
  refine rg_nam (d := 4) (v := .pt 103 0) (m := 103) (nw := [(103, .bx 32 ([.fl (.string (⟨#[]⟩)), .fl (.string (⟨#[]⟩)), .fl (.string (⟨#[]⟩)), .fl (.int .i64 0), .fl (.int .i64 0), .fl (.int .i64 0), .fl (.int .i64 0), .fl (.int .i64 0), .fl (.int .i64 0), .fl (.int .i64 0), .fl (.int .i64 0), .fl (.int .i64 0)]))]) rfl (og rfl (of_eff (s_alloc 103 rfl ti32 (by kernel_rfl) rfl) rfl)) rfl ?_
  refine rg_sto (nw := [(103, .bx 32 (eCs X1))]) rfl (og rfl (of_eff (s_store rfl rfl ti32 rfl rfl rfl rfl rfl rfl) rfl)) ?_
  refine rg_put (d := 5) (v := .d (.fl (.int .i64 0))) rfl (og rfl (op_assign rfl rfl rfl)) ?_
  refine rg_done rfl ?_
  refine a_rseq ?_
  refine rg_put (d := 27) (v := .d (.ag (eLw (Lw.mk [1, 2, 2, 2] [100, 0, 0, 0] 100)))) rfl (og rfl (of_eff (s_load_pts rfl Tryd.underlying24 rfl ti24 rfl rfl rfl rfl) rfl)) ?_
  refine rg_put (d := 28) (v := .d (.ag (eCs X1))) rfl (og rfl (of_eff (s_load_pts rfl Tryd.underlying32 rfl ti32 rfl rfl rfl rfl) rfl)) ?_
  refine rg_put (d := 29) (v := .tu [.ag (eCs XZ), .fl (.int .i64 0)]) rfl (og rfl (op_call rfl Tryd.func9 nm9 rfl (.cons rfl (.d _) (.cons rfl (.cv (Cv.nil _)) (.cons rfl (.d _) (.cons rfl (.d _) (.cons rfl (.d _) .nil))))) u3 rfl)) ?_
  refine rg_put (d := 26) (v := .tu [.ag (eCs XZ), .fl (.int .i64 0)]) rfl (og rfl (op_move rfl rfl rfl)) ?_
  refine rg_put (d := 30) (v := .d (.ag (eCs XZ))) rfl (og rfl (op_extract rfl rfl rfl rfl)) ?_
  refine rg_put (d := 31) (v := .d (.fl (.int .i64 0))) rfl (og rfl (op_extract rfl rfl rfl rfl)) ?_
  refine rg_nam (d := 6) (v := .pt 104 0) (m := 104) (nw := [(104, .bx 32 ([.fl (.string (⟨#[]⟩)), .fl (.string (⟨#[]⟩)), .fl (.string (⟨#[]⟩)), .fl (.int .i64 0), .fl (.int .i64 0), .fl (.int .i64 0), .fl (.int .i64 0), .fl (.int .i64 0), .fl (.int .i64 0), .fl (.int .i64 0), .fl (.int .i64 0), .fl (.int .i64 0)]))]) rfl (og rfl (of_eff (s_alloc 104 rfl ti32 (by kernel_rfl) rfl) rfl)) rfl ?_
  refine rg_sto (nw := [(104, .bx 32 (eCs XZ))]) rfl (og rfl (of_eff (s_store rfl rfl ti32 rfl rfl rfl rfl rfl rfl) rfl)) ?_
  refine rg_put (d := 7) (v := .d (.fl (.int .i64 0))) rfl (og rfl (op_assign rfl rfl rfl)) ?_
  refine rg_done rfl ?_
  refine a_rseq ?_
  refine rg_put (d := 33) (v := .d (.ag (eLw (Lw.mk [1, 2, 2, 2] [100, 0, 0, 0] 100)))) rfl (og rfl (of_eff (s_load_pts rfl Tryd.underlying24 rfl ti24 rfl rfl rfl rfl) rfl)) ?_
  refine rg_put (d := 34) (v := .d (.ag (eCs XZ))) rfl (og rfl (of_eff (s_load_pts rfl Tryd.underlying32 rfl ti32 rfl rfl rfl rfl) rfl)) ?_
  refine rg_put (d := 35) (v := .tu [.ag (eCs XZ), .fl (.int .i64 0)]) rfl (og rfl (op_call rfl Tryd.func7 nm7 rfl (.cons rfl (.d _) (.cons rfl (.cv (Cv.nil _)) (.cons rfl (.d _) (.cons rfl (.d _) .nil)))) u4 rfl)) ?_
  refine rg_put (d := 32) (v := .tu [.ag (eCs XZ), .fl (.int .i64 0)]) rfl (og rfl (op_move rfl rfl rfl)) ?_
  refine rg_put (d := 36) (v := .d (.ag (eCs XZ))) rfl (og rfl (op_extract rfl rfl rfl rfl)) ?_
  refine rg_put (d := 37) (v := .d (.fl (.int .i64 0))) rfl (og rfl (op_extract rfl rfl rfl rfl)) ?_
  refine rg_nam (d := 8) (v := .pt 105 0) (m := 105) (nw := [(105, .bx 32 ([.fl (.string (⟨#[]⟩)), .fl (.string (⟨#[]⟩)), .fl (.string (⟨#[]⟩)), .fl (.int .i64 0), .fl (.int .i64 0), .fl (.int .i64 0), .fl (.int .i64 0), .fl (.int .i64 0), .fl (.int .i64 0), .fl (.int .i64 0), .fl (.int .i64 0), .fl (.int .i64 0)]))]) rfl (og rfl (of_eff (s_alloc 105 rfl ti32 (by kernel_rfl) rfl) rfl)) rfl ?_
  refine rg_sto (nw := [(105, .bx 32 (eCs XZ))]) rfl (og rfl (of_eff (s_store rfl rfl ti32 rfl rfl rfl rfl rfl rfl) rfl)) ?_
  refine rg_put (d := 9) (v := .d (.fl (.int .i64 0))) rfl (og rfl (op_assign rfl rfl rfl)) ?_
  refine rg_done rfl ?_
  refine a_rseq ?_
  refine rg_put (d := 39) (v := .d (.ag (eCs XZ))) rfl (og rfl (of_eff (s_load_pts rfl Tryd.underlying32 rfl ti32 rfl rfl rfl rfl) rfl)) ?_
  refine rg_put (d := 40) (v := .tu [.ag (eCs XP), .fl (.int .i64 100), .fl (.int .i64 0)]) rfl (og rfl (op_call rfl Tryd.func8 nm8 rfl (.cons rfl (.d _) (.cons rfl (.d _) .nil)) u5 rfl)) ?_
  refine rg_put (d := 38) (v := .tu [.ag (eCs XP), .fl (.int .i64 100), .fl (.int .i64 0)]) rfl (og rfl (op_move rfl rfl rfl)) ?_
  refine rg_put (d := 41) (v := .d (.ag (eCs XP))) rfl (og rfl (op_extract rfl rfl rfl rfl)) ?_
  refine rg_put (d := 42) (v := .d (.fl (.int .i64 100))) rfl (og rfl (op_extract rfl rfl rfl rfl)) ?_
  refine rg_put (d := 43) (v := .d (.fl (.int .i64 0))) rfl (og rfl (op_extract rfl rfl rfl rfl)) ?_
  refine rg_nam (d := 10) (v := .pt 106 0) (m := 106) (nw := [(106, .bx 32 ([.fl (.string (⟨#[]⟩)), .fl (.string (⟨#[]⟩)), .fl (.string (⟨#[]⟩)), .fl (.int .i64 0), .fl (.int .i64 0), .fl (.int .i64 0), .fl (.int .i64 0), .fl (.int .i64 0), .fl (.int .i64 0), .fl (.int .i64 0), .fl (.int .i64 0), .fl (.int .i64 0)]))]) rfl (og rfl (of_eff (s_alloc 106 rfl ti32 (by kernel_rfl) rfl) rfl)) rfl ?_
  refine rg_sto (nw := [(106, .bx 32 (eCs XP))]) rfl (og rfl (of_eff (s_store rfl rfl ti32 rfl rfl rfl rfl rfl rfl) rfl)) ?_
  refine rg_put (d := 11) (v := .d (.fl (.int .i64 100))) rfl (og rfl (op_assign rfl rfl rfl)) ?_
  refine rg_put (d := 12) (v := .d (.fl (.int .i64 0))) rfl (og rfl (op_assign rfl rfl rfl)) ?_
  refine rg_done rfl ?_
  refine a_rseq ?_
  refine rg_put (d := 44) (v := .d (.fl (.int .i64 0))) rfl (og rfl (op_move rfl rfl rfl)) ?_
  refine rg_put (d := 45) (v := .d (.fl (.bool (0 == 0)))) rfl (og rfl (op_bin rfl rfl rfl (b_eql _ _ _ _) rfl)) ?_
  refine rg_put (d := 46) (v := .d (.fl (.bool (0 == 0)))) rfl (og rfl (op_move rfl rfl rfl)) ?_
  refine rg_put (d := 47) (v := .d (.fl (.int .i64 0))) rfl (oy rfl rfl rfl rfl (op_move rfl rfl rfl)) ?_
  refine rg_put (d := 48) (v := .d (.fl (.bool (0 == 0)))) rfl (oy rfl rfl rfl rfl (op_bin rfl rfl rfl (b_eql _ _ _ _) rfl)) ?_
  refine rg_put (d := 49) (v := .d (.fl (.bool (0 == 0)))) rfl (og rfl (op_pick rfl rfl rfl rfl)) ?_
  refine rg_put (d := 50) (v := .d (.fl (.bool (0 == 0)))) rfl (og rfl (op_move rfl rfl rfl)) ?_
  refine rg_put (d := 51) (v := .d (.fl (.int .i64 0))) rfl (oy rfl rfl rfl rfl (op_move rfl rfl rfl)) ?_
  refine rg_put (d := 52) (v := .d (.fl (.bool (0 == 0)))) rfl (oy rfl rfl rfl rfl (op_bin rfl rfl rfl (b_eql _ _ _ _) rfl)) ?_
  refine rg_put (d := 53) (v := .d (.fl (.bool (0 == 0)))) rfl (og rfl (op_pick rfl rfl rfl rfl)) ?_
  refine rg_put (d := 54) (v := .d (.fl (.bool (0 == 0)))) rfl (og rfl (op_move rfl rfl rfl)) ?_
  refine rg_put (d := 55) (v := .d (.fl (.int .i64 0))) rfl (oy rfl rfl rfl rfl (op_move rfl rfl rfl)) ?_
  refine rg_put (d := 56) (v := .d (.fl (.bool (0 == 0)))) rfl (oy rfl rfl rfl rfl (op_bin rfl rfl rfl (b_eql _ _ _ _) rfl)) ?_
  refine rg_put (d := 57) (v := .d (.fl (.bool (0 == 0)))) rfl (og rfl (op_pick rfl rfl rfl rfl)) ?_
  refine rg_put (d := 58) (v := .d (.fl (.bool (0 == 0)))) rfl (og rfl (op_move rfl rfl rfl)) ?_
  refine rg_put (d := 59) (v := .d (.fl (.int .i64 0))) rfl (oy rfl rfl rfl rfl (op_move rfl rfl rfl)) ?_
  refine rg_put (d := 60) (v := .d (.fl (.bool (0 == 0)))) rfl (oy rfl rfl rfl rfl (op_bin rfl rfl rfl (b_eql _ _ _ _) rfl)) ?_
  refine rg_put (d := 61) (v := .d (.fl (.bool (0 == 0)))) rfl (og rfl (op_pick rfl rfl rfl rfl)) ?_
  refine rg_put (d := 62) (v := .d (.fl (.bool (0 == 0)))) rfl (og rfl (op_move rfl rfl rfl)) ?_
  refine rg_put (d := 63) (v := .pt 103 5) rfl (oy rfl rfl rfl rfl (of_eff (s_field_pt rfl Tryd.underlying32 rfl ti3 rfl rfl rfl) rfl)) ?_
  refine rg_put (d := 64) (v := .d (.fl (.int .i64 X1.stage))) rfl (oy rfl rfl rfl rfl (op_load_pt rfl Tryd.underlying3 rfl rfl rfl rfl rfl)) ?_
  refine rg_put (d := 65) (v := .d (.fl (.bool (X1.stage == 2)))) rfl (oy rfl rfl rfl rfl (op_bin rfl rfl rfl (b_eql _ _ _ _) rfl)) ?_
  refine rg_put (d := 66) (v := .d (.fl (.bool (X1.stage == 2)))) rfl (og rfl (op_pick rfl rfl rfl rfl)) ?_
  refine rg_put (d := 67) (v := .d (.fl (.bool (X1.stage == 2)))) rfl (og rfl (op_move rfl rfl rfl)) ?_
  refine rg_put (d := 68) (v := .pt 103 6) rfl (oy rfl rfl rfl rfl (of_eff (s_field_pt rfl Tryd.underlying32 rfl ti3 rfl rfl rfl) rfl)) ?_
  refine rg_put (d := 69) (v := .d (.fl (.int .i64 X1.owed))) rfl (oy rfl rfl rfl rfl (op_load_pt rfl Tryd.underlying3 rfl rfl rfl rfl rfl)) ?_
  refine rg_put (d := 70) (v := .d (.fl (.bool (X1.owed == 500)))) rfl (oy rfl rfl rfl rfl (op_bin rfl rfl rfl (b_eql _ _ _ _) rfl)) ?_
  refine rg_put (d := 71) (v := .d (.fl (.bool (X1.owed == 500)))) rfl (og rfl (op_pick rfl rfl rfl rfl)) ?_
  refine rg_put (d := 72) (v := .d (.fl (.bool (X1.owed == 500)))) rfl (og rfl (op_move rfl rfl rfl)) ?_
  refine rg_put (d := 73) (v := .d (.ag (eCs XZ))) rfl (oy rfl rfl rfl rfl (of_eff (s_load_pts rfl Tryd.underlying32 rfl ti32 rfl rfl rfl rfl) rfl)) ?_
  refine rg_put (d := 74) (v := .d (.fl (.bool true))) rfl (oy rfl rfl rfl rfl (op_call rfl Tryd.func12 nm12 rfl (.cons rfl (.d _) .nil) u6 rfl)) ?_
  refine rg_put (d := 75) (v := .d (.fl (.bool true))) rfl (og rfl (op_pick rfl rfl rfl rfl)) ?_
  refine rg_put (d := 76) (v := .d (.fl (.bool true))) rfl (og rfl (op_move rfl rfl rfl)) ?_
  refine rg_put (d := 77) (v := .d (.ag (eCs XZ))) rfl (oy rfl rfl rfl rfl (of_eff (s_load_pts rfl Tryd.underlying32 rfl ti32 rfl rfl rfl rfl) rfl)) ?_
  refine rg_put (d := 78) (v := .d (.ag (eCs XZ))) rfl (oy rfl rfl rfl rfl (of_eff (s_load_pts rfl Tryd.underlying32 rfl ti32 rfl rfl rfl rfl) rfl)) ?_
  refine rg_put (d := 79) (v := .d (.fl (.bool true))) rfl (oy rfl rfl rfl rfl (op_eqS [.string XZ.id, .string XZ.plate, .string XZ.key, .int .i64 XZ.begun, .int .i64 XZ.since, .int .i64 XZ.stage, .int .i64 XZ.owed, .int .i64 XZ.paid, .int .i64 XZ.paused, .int .i64 XZ.ap.state, .int .i64 XZ.ap.ground, .int .i64 XZ.ap.day] [.string XZ.id, .string XZ.plate, .string XZ.key, .int .i64 XZ.begun, .int .i64 XZ.since, .int .i64 XZ.stage, .int .i64 XZ.owed, .int .i64 XZ.paid, .int .i64 XZ.paused, .int .i64 XZ.ap.state, .int .i64 XZ.ap.ground, .int .i64 XZ.ap.day] rfl rfl rfl (b := true) (fun ww => eql32 XZ _ _ ww) rfl)) ?_
  refine rg_put (d := 80) (v := .d (.fl (.bool true))) rfl (og rfl (op_pick rfl rfl rfl rfl)) ?_
  refine rg_put (d := 81) (v := .d (.fl (.bool true))) rfl (og rfl (op_move rfl rfl rfl)) ?_
  refine rg_put (d := 82) (v := .pt 106 5) rfl (oy rfl rfl rfl rfl (of_eff (s_field_pt rfl Tryd.underlying32 rfl ti3 rfl rfl rfl) rfl)) ?_
  refine rg_put (d := 83) (v := .d (.fl (.int .i64 XP.stage))) rfl (oy rfl rfl rfl rfl (op_load_pt rfl Tryd.underlying3 rfl rfl rfl rfl rfl)) ?_
  refine rg_put (d := 84) (v := .d (.fl (.bool (XP.stage == 6)))) rfl (oy rfl rfl rfl rfl (op_bin rfl rfl rfl (b_eql _ _ _ _) rfl)) ?_
  refine rg_put (d := 85) (v := .d (.fl (.bool (XP.stage == 6)))) rfl (og rfl (op_pick rfl rfl rfl rfl)) ?_
  refine rg_put (d := 86) (v := .d (.fl (.bool (XP.stage == 6)))) rfl (og rfl (op_move rfl rfl rfl)) ?_
  refine rg_put (d := 87) (v := .d (.fl (.int .i64 100))) rfl (oy rfl rfl rfl rfl (op_move rfl rfl rfl)) ?_
  refine rg_put (d := 88) (v := .d (.fl (.bool (100 == 100)))) rfl (oy rfl rfl rfl rfl (op_bin rfl rfl rfl (b_eql _ _ _ _) rfl)) ?_
  refine rg_put (d := 89) (v := .d (.fl (.bool (100 == 100)))) rfl (og rfl (op_pick rfl rfl rfl rfl)) ?_
  refine rg_put (d := 0) (v := .d (.fl (.bool (100 == 100)))) rfl (og rfl (op_assign rfl rfl rfl)) ?_
  refine rg_done rfl ?_
  refine a_ret ?_
  show ∃ ds, ResL _ _ _ ds ∧ RV.of ds = _
  refine ⟨[.fl (.bool (100 == 100))], (.cons (.tmp rfl (.d _)) .nil), ?_⟩
  rfl
end Go.Proofs.YtdafmaocbkmmgaaDoor.Wk
