/- The law of sorts. Condition: the table reads as it is laid. -/
import Derived.Test.YtafookkclkgmlaaGreatDoorAl
import Derived.Test.YtafookkclkgmlaaGreatDoorD2
set_option linter.unusedSimpArgs false
set_option linter.unusedVariables false
namespace Go.Proofs.YtafookkclkgmlaaGreatDoor.Wk
open Go Go.RowKit Go.Proofs.YtafookkclkgmlaaGreatDoor.Av
set_option maxHeartbeats 4000000 in
set_option maxRecDepth 100000 in
theorem law2 (l : List Prk) (hl9 : l.length ≤ 9223372036854775807) : CtrK Tryz.prog KK 4 [.sl 5 (List.map ePrk l)] (.d (.fl (.bool true))) := by
  refine ctrK (n := 15) (rs := #[.tmp 2]) (L := [(0, .d (.sl 5 (List.map ePrk l)))]) Tryz.func4 rfl rfl rfl rfl rfl (fun w0 U0 hG => ?_)
  refine a_rseq ?_
  refine rg_put (d := 2) (v := .d (.fl (.bool false))) rfl (og rfl (op_assign rfl rfl rfl)) ?_
  refine rg_done rfl ?_
  refine a_seq ?_
  refine a_rseq ?_
  refine rg_put (d := 3) (v := .d (.sl 5 (List.map ePrk l))) rfl (og rfl (op_move rfl rfl rfl)) ?_
  refine rg_put (d := 4) (v := .d (.fl (.bool (fwB l)))) rfl (og rfl (op_call rfl Tryz.func14 nm14 rfl (.cons rfl (.d _) .nil) (fewC l hl9) rfl)) ?_
  refine rg_put (d := 5) (v := .d (.fl (.bool ((!(fwB l)))))) rfl (og rfl (op_un rfl rfl (u_not _) rfl)) ?_
  refine rg_done rfl ?_
  refine a_cond rfl (fun h1 => ?_) (fun h1 => ?_)
  · skip
    have h2 := t_not h1
    refine a_rseq ?_
    refine rg_put (d := 6) (v := .d (.fl (.bool true))) rfl (og rfl (op_callK kkst hG rfl Tryz.func9 nm9 rfl .nil aliveT rfl)) ?_
    refine rg_put (d := 2) (v := .d (.fl (.bool true))) rfl (og rfl (op_assign rfl rfl rfl)) ?_
    refine rg_done rfl ?_
    refine a_ret ?_
    show ∃ ds, ResL _ _ _ ds ∧ RV.of ds = _
    refine ⟨[.fl (.bool true)], (.cons (.tmp rfl (.d _)) .nil), ?_⟩
    rfl
  · skip
    have h3 := f_not h1
    refine a_skip ?_
    show A _ _ _ _ _ _ _
    refine a_rseq ?_
    have hft := fwB_t h3
    have hl : l.length ≤ 1000 := by omega
    have hz := hft.2
    have hzr : ∀ x ∈ rsP l l.length, szP x := fun x hx => by obtain ⟨q, h1, h2⟩ := (rsP_mem _).1 hx; rw [← h2]; exact hz _ (ix_mem h1)
    refine rg_put (d := 7) (v := .d (.sl 5 (List.map ePrk l))) rfl (og rfl (op_move rfl rfl rfl)) ?_
    refine rg_put (d := 8) (v := .d (.sl 5 (List.map ePrk (rsP l l.length)))) rfl (og rfl (op_call rfl Tryz.func16 nm16 rfl (.cons rfl (.d _) .nil) (by have h := sesC l hl; rwa [dfl_rs] at h) rfl)) ?_
    refine rg_put (d := 9) (v := .d (.sl 5 (List.map ePrk l))) rfl (og rfl (op_move rfl rfl rfl)) ?_
    refine rg_put (d := 10) (v := .d (.sl 5 (List.map ePrk (rsP l l.length)))) rfl (og rfl (op_call rfl Tryz.func17 nm17 rfl (.cons rfl (.d _) .nil) (sortR l hl hz) rfl)) ?_
    refine rg_put (d := 11) (v := .d (.fl (.bool true))) rfl (og rfl (op_call rfl Tryz.func15 nm15 rfl (.cons rfl (.d _) (.cons rfl (.d _) .nil)) (sameC (rsP l l.length) (by have := rsP_len l l.length; omega) hzr) rfl)) ?_
    refine rg_put (d := 12) (v := .d (.fl (.bool true))) rfl (og rfl (op_move rfl rfl rfl)) ?_
    refine rg_put (d := 13) (v := .d (.fl (.bool true))) rfl (oy rfl rfl rfl rfl (op_callK kkst hG rfl Tryz.func9 nm9 rfl .nil aliveT rfl)) ?_
    refine rg_put (d := 14) (v := .d (.fl (.bool true))) rfl (og rfl (op_pick rfl rfl rfl rfl)) ?_
    refine rg_put (d := 2) (v := .d (.fl (.bool true))) rfl (og rfl (op_assign rfl rfl rfl)) ?_
    refine rg_done rfl ?_
    refine a_ret ?_
    show ∃ ds, ResL _ _ _ ds ∧ RV.of ds = _
    refine ⟨[.fl (.bool true)], (.cons (.tmp rfl (.d _)) .nil), ?_⟩
    rfl
end Go.Proofs.YtafookkclkgmlaaGreatDoor.Wk
