/- The program is awake. No condition. -/
import Derived.Test.YteplcjhnmmpicaaA14
set_option linter.unusedSimpArgs false
set_option linter.unusedVariables false
namespace Go.Proofs.Yteplcjhnmmpicaa.Wk
open Go Go.RowKit Go.Proofs.Yteplcjhnmmpicaa.Av
abbrev aL : List Kp := [Kp.mk 1 100 10, Kp.mk 2 1000 50]
abbrev aI : Im := Im.mk ⟨#[97]⟩ 500 1 [] 0
abbrev aJ : Im := Im.mk ⟨#[97]⟩ 500 1 [⟨#[99, 111, 117, 114, 116]⟩] 0
theorem aw1 : unt aL aI 595 = (605, 0) := by kernel_rfl
theorem aw2 : unt aL aI (-1) = (0, 11) := by kernel_rfl
theorem aw3 : purge aL [aI] [400] 599 = (([aI], []), 0) := by kernel_rfl
theorem aw4 : purge aL [aI] [400] 600 = (([], [⟨#[97]⟩]), 0) := by kernel_rfl
theorem aw5 : nxt aL [aI] [400] 599 = (600, true) := by kernel_rfl
theorem aw6 : nxt aL [aI] [400] 600 = (0, false) := by kernel_rfl
theorem aw7 : hld [aI] ⟨#[97]⟩ ⟨#[99, 111, 117, 114, 116]⟩ = ([aJ], 0) := by kernel_rfl
theorem aw8 : unt aL aJ 400 = (0, 32) := by kernel_rfl
theorem awb : ([aI] : List Im).length ≤ 1000 ∧ ∀ q, q < ([aI] : List Im).length → (ix [aI] q).hold.length ≤ 1000 := ⟨by decide, fun q h => by
  have : q = 0 := by simpa using h
  subst this; decide⟩
theorem au1 : Ctr Try.prog 10 [.sl 3 (List.map eKp aL), .ag (eIm aI), .fl (.int .i64 595)] (.tu [.fl (.int .i64 605), .fl (.int .i64 0)]) := by
  have := ret_until aL aI 595
  rw [aw1] at this; exact this
theorem au2 : Ctr Try.prog 10 [.sl 3 (List.map eKp aL), .ag (eIm aI), .fl (.int .i64 (-1))] (.tu [.fl (.int .i64 0), .fl (.int .i64 11)]) := by
  have := ret_until aL aI (-1)
  rw [aw2] at this; exact this
theorem au3 : Ctr Try.prog 15 [.sl 3 (List.map eKp aL), .sl 5 (List.map eIm [aI]), .sl 1 (List.map (rI .i64) [400]), .fl (.int .i64 599)] (.tu [.sl 5 (List.map eIm [aI]), .sl 1 (List.map rS []), .fl (.int .i64 0)]) := by
  have := ret_purge aL [aI] [400] 599 awb.1 awb.2
  rw [aw3] at this; exact this
theorem au4 : Ctr Try.prog 15 [.sl 3 (List.map eKp aL), .sl 5 (List.map eIm [aI]), .sl 1 (List.map (rI .i64) [400]), .fl (.int .i64 600)] (.tu [.sl 5 (List.map eIm []), .sl 1 (List.map rS [⟨#[97]⟩]), .fl (.int .i64 0)]) := by
  have := ret_purge aL [aI] [400] 600 awb.1 awb.2
  rw [aw4] at this; exact this
theorem au5 : Ctr Try.prog 17 [.sl 3 (List.map eKp aL), .sl 5 (List.map eIm [aI]), .sl 1 (List.map (rI .i64) [400]), .fl (.int .i64 599)] (.tu [.fl (.int .i64 600), .fl (.bool true)]) := by
  have := ret_next aL [aI] [400] 599 awb.1
  rw [aw5] at this; exact this
theorem au6 : Ctr Try.prog 17 [.sl 3 (List.map eKp aL), .sl 5 (List.map eIm [aI]), .sl 1 (List.map (rI .i64) [400]), .fl (.int .i64 600)] (.tu [.fl (.int .i64 0), .fl (.bool false)]) := by
  have := ret_next aL [aI] [400] 600 awb.1
  rw [aw6] at this; exact this
theorem au7 : Ctr Try.prog 21 [.sl 5 (List.map eIm [aI]), .fl (.string ⟨#[97]⟩), .fl (.string ⟨#[99, 111, 117, 114, 116]⟩)] (.tu [.sl 5 (List.map eIm [aJ]), .fl (.int .i64 0)]) := by
  have := ret_hold [aI] ⟨#[97]⟩ ⟨#[99, 111, 117, 114, 116]⟩ awb.1 awb.2
  rw [aw7] at this; exact this
theorem au8 : Ctr Try.prog 10 [.sl 3 (List.map eKp aL), .ag (eIm aJ), .fl (.int .i64 400)] (.tu [.fl (.int .i64 0), .fl (.int .i64 32)]) := by
  have := ret_until aL aJ 400
  rw [aw8] at this; exact this

set_option maxHeartbeats 4000000 in
set_option maxRecDepth 100000 in
theorem awake_true  : Ctr Try.prog 9 [] (.d (.fl (.bool true))) := by
  refine ctr (n := 149) (rs := #[.tmp 0]) (L := []) Try.func9 rfl rfl rfl rfl rfl (fun w0 U0 => ?_)
  refine a_rseq ?_
  refine rg_put (d := 0) (v := .d (.fl (.bool false))) rfl (og rfl (op_assign rfl rfl rfl)) ?_
  refine rg_done rfl ?_
  refine a_rseq ?_
  refine rg_put (d := 22) (v := .d (.ag (eKp (Kp.mk 1 100 10)))) rfl (og rfl (of_eff (op_build rfl Try.underlying57 ti57 rfl (by kernel_rfl) (by kernel_rfl) (pl := #[(0, 1), (1, 1), (2, 1)]) (by kernel_rfl) (.cons rfl rfl (.d _) rfl rfl rfl (.cons rfl rfl (.d _) rfl rfl rfl (.cons rfl rfl (.d _) rfl rfl rfl .nil))) rfl) rfl)) ?_
  refine rg_put (d := 23) (v := .d (.ag (eKp (Kp.mk 2 1000 50)))) rfl (og rfl (of_eff (op_build rfl Try.underlying57 ti57 rfl (by kernel_rfl) (by kernel_rfl) (pl := #[(0, 1), (1, 1), (2, 1)]) (by kernel_rfl) (.cons rfl rfl (.d _) rfl rfl rfl (.cons rfl rfl (.d _) rfl rfl rfl (.cons rfl rfl (.d _) rfl rfl rfl .nil))) rfl) rfl)) ?_
  refine rg_put (d := 24) (v := .d (.sl 3 (List.map eKp [(Kp.mk 1 100 10), (Kp.mk 2 1000 50)]))) rfl (og rfl (of_eff (op_slices rfl Try.underlying22 ti57 rfl rfl rfl (by kernel_rfl) (xs := [.ag (eKp (Kp.mk 1 100 10)), .ag (eKp (Kp.mk 2 1000 50))]) rfl rfl (.cons rfl rfl (.d _) rfl rfl rfl (.cons rfl rfl (.d _) rfl rfl rfl .nil)) rfl) rfl)) ?_
  refine rg_put (d := 1) (v := .d (.sl 3 (List.map eKp [(Kp.mk 1 100 10), (Kp.mk 2 1000 50)]))) rfl (og rfl (op_assign rfl rfl rfl)) ?_
  refine rg_done rfl ?_
  refine a_rseq ?_
  refine rg_put (d := 25) (v := .d (.ag [.fl (.string (⟨#[97]⟩)), .fl (.int .i64 500), .fl (.int .i64 1), .fl (.slice none 0 0), .fl (.int .u64 0)])) rfl (og rfl (of_eff (op_build rfl Try.underlying26 ti26 rfl (by kernel_rfl) (by kernel_rfl) (pl := #[(0, 1), (1, 1), (2, 1), (3, 1), (4, 1)]) (by kernel_rfl) (.cons rfl rfl (.d _) rfl rfl rfl (.cons rfl rfl (.d _) rfl rfl rfl (.cons rfl rfl (.d _) rfl rfl rfl .nil))) rfl) rfl)) ?_
  refine rg_nam (d := 2) (v := .pt 101 0) (m := 101) (nw := [(101, .bx 26 ([.fl (.string (⟨#[]⟩)), .fl (.int .i64 0), .fl (.int .i64 0), .fl (.slice none 0 0), .fl (.int .u64 0)]))]) rfl (og rfl (of_eff (s_alloc 101 rfl ti26 (by kernel_rfl) rfl) rfl)) rfl ?_
  refine rg_sto (nw := [(101, .bx 26 ([.fl (.string (⟨#[97]⟩)), .fl (.int .i64 500), .fl (.int .i64 1), .fl (.slice none 0 0), .fl (.int .u64 0)]))]) rfl (og rfl (of_eff (s_store rfl rfl ti26 rfl rfl rfl rfl rfl rfl) rfl)) ?_
  refine rg_done rfl ?_
  refine a_rseq ?_
  refine rg_put (d := 27) (v := .d (.sl 3 (List.map eKp [(Kp.mk 1 100 10), (Kp.mk 2 1000 50)]))) rfl (og rfl (op_move rfl rfl rfl)) ?_
  refine rg_put (d := 28) (v := .d (.ag [.fl (.string (⟨#[97]⟩)), .fl (.int .i64 500), .fl (.int .i64 1), .fl (.slice none 0 0), .fl (.int .u64 0)])) rfl (og rfl (of_eff (s_load_pts rfl Try.underlying26 rfl ti26 rfl rfl rfl rfl) rfl)) ?_
  refine rg_put (d := 29) (v := .tu [.fl (.int .i64 605), .fl (.int .i64 0)]) rfl (og rfl (op_call rfl Try.func10 nm10 rfl (.cons rfl (.d _) (.cons rfl (.cv (Cv.ag (xs := [.fl (.string (⟨#[97]⟩)), .fl (.int .i64 500), .fl (.int .i64 1), .fl (.slice none 0 0), .fl (.int .u64 0)]) (ys := [.fl (.string (⟨#[97]⟩)), .fl (.int .i64 500), .fl (.int .i64 1), .sl 1 (List.map rS []), .fl (.int .u64 0)]) ⟨Cv.refl _, Cv.refl _, Cv.refl _, Cv.nil _, Cv.refl _, trivial⟩)) (.cons rfl (.d _) .nil))) au1 rfl)) ?_
  refine rg_put (d := 26) (v := .tu [.fl (.int .i64 605), .fl (.int .i64 0)]) rfl (og rfl (op_move rfl rfl rfl)) ?_
  refine rg_put (d := 30) (v := .d (.fl (.int .i64 605))) rfl (og rfl (op_extract rfl rfl rfl rfl)) ?_
  refine rg_put (d := 31) (v := .d (.fl (.int .i64 0))) rfl (og rfl (op_extract rfl rfl rfl rfl)) ?_
  refine rg_put (d := 3) (v := .d (.fl (.int .i64 605))) rfl (og rfl (op_assign rfl rfl rfl)) ?_
  refine rg_put (d := 4) (v := .d (.fl (.int .i64 0))) rfl (og rfl (op_assign rfl rfl rfl)) ?_
  refine rg_done rfl ?_
  refine a_rseq ?_
  refine rg_put (d := 33) (v := .d (.sl 3 (List.map eKp [(Kp.mk 1 100 10), (Kp.mk 2 1000 50)]))) rfl (og rfl (op_move rfl rfl rfl)) ?_
  refine rg_put (d := 34) (v := .d (.ag [.fl (.string (⟨#[97]⟩)), .fl (.int .i64 500), .fl (.int .i64 1), .fl (.slice none 0 0), .fl (.int .u64 0)])) rfl (og rfl (of_eff (s_load_pts rfl Try.underlying26 rfl ti26 rfl rfl rfl rfl) rfl)) ?_
  refine rg_put (d := 35) (v := .tu [.fl (.int .i64 0), .fl (.int .i64 11)]) rfl (og rfl (op_call rfl Try.func10 nm10 rfl (.cons rfl (.d _) (.cons rfl (.cv (Cv.ag (xs := [.fl (.string (⟨#[97]⟩)), .fl (.int .i64 500), .fl (.int .i64 1), .fl (.slice none 0 0), .fl (.int .u64 0)]) (ys := [.fl (.string (⟨#[97]⟩)), .fl (.int .i64 500), .fl (.int .i64 1), .sl 1 (List.map rS []), .fl (.int .u64 0)]) ⟨Cv.refl _, Cv.refl _, Cv.refl _, Cv.nil _, Cv.refl _, trivial⟩)) (.cons rfl (.d _) .nil))) au2 rfl)) ?_
  refine rg_put (d := 32) (v := .tu [.fl (.int .i64 0), .fl (.int .i64 11)]) rfl (og rfl (op_move rfl rfl rfl)) ?_
  refine rg_put (d := 36) (v := .d (.fl (.int .i64 0))) rfl (og rfl (op_extract rfl rfl rfl rfl)) ?_
  refine rg_put (d := 37) (v := .d (.fl (.int .i64 11))) rfl (og rfl (op_extract rfl rfl rfl rfl)) ?_
  refine rg_put (d := 5) (v := .d (.fl (.int .i64 0))) rfl (og rfl (op_assign rfl rfl rfl)) ?_
  refine rg_put (d := 6) (v := .d (.fl (.int .i64 11))) rfl (og rfl (op_assign rfl rfl rfl)) ?_
  refine rg_done rfl ?_
  refine a_rseq ?_
  refine rg_put (d := 38) (v := .d (.ag [.fl (.string (⟨#[97]⟩)), .fl (.int .i64 500), .fl (.int .i64 1), .fl (.slice none 0 0), .fl (.int .u64 0)])) rfl (og rfl (of_eff (s_load_pts rfl Try.underlying26 rfl ti26 rfl rfl rfl rfl) rfl)) ?_
  refine rg_put (d := 39) (v := .d (.sl 5 (List.map eIm ([(Im.mk (⟨#[97]⟩) 500 1 [] 0)])))) rfl (og rfl (of_eff (op_slices rfl Try.underlying36 ti26 rfl rfl rfl (by kernel_rfl) (xs := [.ag [.fl (.string (⟨#[97]⟩)), .fl (.int .i64 500), .fl (.int .i64 1), .sl 1 (List.map rS []), .fl (.int .u64 0)]]) rfl rfl (.cons rfl rfl (.cv (Cv.ag (xs := [.fl (.string (⟨#[97]⟩)), .fl (.int .i64 500), .fl (.int .i64 1), .fl (.slice none 0 0), .fl (.int .u64 0)]) (ys := [.fl (.string (⟨#[97]⟩)), .fl (.int .i64 500), .fl (.int .i64 1), .sl 1 (List.map rS []), .fl (.int .u64 0)]) ⟨Cv.refl _, Cv.refl _, Cv.refl _, Cv.nil _, Cv.refl _, trivial⟩)) rfl rfl rfl .nil) rfl) rfl)) ?_
  refine rg_put (d := 7) (v := .d (.sl 5 (List.map eIm ([(Im.mk (⟨#[97]⟩) 500 1 [] 0)])))) rfl (og rfl (op_assign rfl rfl rfl)) ?_
  refine rg_done rfl ?_
  refine a_rseq ?_
  refine rg_put (d := 41) (v := .d (.sl 3 (List.map eKp [(Kp.mk 1 100 10), (Kp.mk 2 1000 50)]))) rfl (og rfl (op_move rfl rfl rfl)) ?_
  refine rg_put (d := 42) (v := .d (.sl 5 (List.map eIm ([(Im.mk (⟨#[97]⟩) 500 1 [] 0)])))) rfl (og rfl (op_move rfl rfl rfl)) ?_
  refine rg_put (d := 43) (v := .d (.sl 1 (List.map (rI .i64) [400]))) rfl (og rfl (of_eff (op_slices rfl Try.underlying37 ti3 rfl rfl rfl (by kernel_rfl) (xs := [.fl (.int .i64 400)]) rfl rfl (.cons rfl rfl (.d _) rfl rfl rfl .nil) rfl) rfl)) ?_
  refine rg_put (d := 44) (v := .tu [.sl 5 (List.map eIm [aI]), .sl 1 (List.map rS ([] : List ByteArray)), .fl (.int .i64 0)]) rfl (og rfl (op_call rfl Try.func15 nm15 rfl (.cons rfl (.d _) (.cons rfl (.d _) (.cons rfl (.d _) (.cons rfl (.d _) .nil)))) au3 rfl)) ?_
  refine rg_put (d := 40) (v := .tu [.sl 5 (List.map eIm [aI]), .sl 1 (List.map rS ([] : List ByteArray)), .fl (.int .i64 0)]) rfl (og rfl (op_move rfl rfl rfl)) ?_
  refine rg_put (d := 45) (v := .d (.sl 5 (List.map eIm [aI]))) rfl (og rfl (op_extract rfl rfl rfl rfl)) ?_
  refine rg_put (d := 46) (v := .d (.sl 1 (List.map rS ([] : List ByteArray)))) rfl (og rfl (op_extract rfl rfl rfl rfl)) ?_
  refine rg_put (d := 47) (v := .d (.fl (.int .i64 0))) rfl (og rfl (op_extract rfl rfl rfl rfl)) ?_
  refine rg_put (d := 8) (v := .d (.sl 5 (List.map eIm [aI]))) rfl (og rfl (op_assign rfl rfl rfl)) ?_
  refine rg_put (d := 9) (v := .d (.sl 1 (List.map rS ([] : List ByteArray)))) rfl (og rfl (op_assign rfl rfl rfl)) ?_
  refine rg_put (d := 10) (v := .d (.fl (.int .i64 0))) rfl (og rfl (op_assign rfl rfl rfl)) ?_
  refine rg_done rfl ?_
  refine a_rseq ?_
  refine rg_put (d := 49) (v := .d (.sl 3 (List.map eKp [(Kp.mk 1 100 10), (Kp.mk 2 1000 50)]))) rfl (og rfl (op_move rfl rfl rfl)) ?_
  refine rg_put (d := 50) (v := .d (.sl 5 (List.map eIm ([(Im.mk (⟨#[97]⟩) 500 1 [] 0)])))) rfl (og rfl (op_move rfl rfl rfl)) ?_
  refine rg_put (d := 51) (v := .d (.sl 1 (List.map (rI .i64) [400]))) rfl (og rfl (of_eff (op_slices rfl Try.underlying37 ti3 rfl rfl rfl (by kernel_rfl) (xs := [.fl (.int .i64 400)]) rfl rfl (.cons rfl rfl (.d _) rfl rfl rfl .nil) rfl) rfl)) ?_
  refine rg_put (d := 52) (v := .tu [.sl 5 (List.map eIm ([] : List Im)), .sl 1 (List.map rS ([⟨#[97]⟩] : List ByteArray)), .fl (.int .i64 0)]) rfl (og rfl (op_call rfl Try.func15 nm15 rfl (.cons rfl (.d _) (.cons rfl (.d _) (.cons rfl (.d _) (.cons rfl (.d _) .nil)))) au4 rfl)) ?_
  refine rg_put (d := 48) (v := .tu [.sl 5 (List.map eIm ([] : List Im)), .sl 1 (List.map rS ([⟨#[97]⟩] : List ByteArray)), .fl (.int .i64 0)]) rfl (og rfl (op_move rfl rfl rfl)) ?_
  refine rg_put (d := 53) (v := .d (.sl 5 (List.map eIm ([] : List Im)))) rfl (og rfl (op_extract rfl rfl rfl rfl)) ?_
  refine rg_put (d := 54) (v := .d (.sl 1 (List.map rS ([⟨#[97]⟩] : List ByteArray)))) rfl (og rfl (op_extract rfl rfl rfl rfl)) ?_
  refine rg_put (d := 55) (v := .d (.fl (.int .i64 0))) rfl (og rfl (op_extract rfl rfl rfl rfl)) ?_
  refine rg_put (d := 11) (v := .d (.sl 5 (List.map eIm ([] : List Im)))) rfl (og rfl (op_assign rfl rfl rfl)) ?_
  refine rg_put (d := 12) (v := .d (.sl 1 (List.map rS ([⟨#[97]⟩] : List ByteArray)))) rfl (og rfl (op_assign rfl rfl rfl)) ?_
  refine rg_put (d := 13) (v := .d (.fl (.int .i64 0))) rfl (og rfl (op_assign rfl rfl rfl)) ?_
  refine rg_done rfl ?_
  refine a_rseq ?_
  refine rg_put (d := 57) (v := .d (.sl 3 (List.map eKp [(Kp.mk 1 100 10), (Kp.mk 2 1000 50)]))) rfl (og rfl (op_move rfl rfl rfl)) ?_
  refine rg_put (d := 58) (v := .d (.sl 5 (List.map eIm ([(Im.mk (⟨#[97]⟩) 500 1 [] 0)])))) rfl (og rfl (op_move rfl rfl rfl)) ?_
  refine rg_put (d := 59) (v := .d (.sl 1 (List.map (rI .i64) [400]))) rfl (og rfl (of_eff (op_slices rfl Try.underlying37 ti3 rfl rfl rfl (by kernel_rfl) (xs := [.fl (.int .i64 400)]) rfl rfl (.cons rfl rfl (.d _) rfl rfl rfl .nil) rfl) rfl)) ?_
  refine rg_put (d := 60) (v := .tu [.fl (.int .i64 600), .fl (.bool true)]) rfl (og rfl (op_call rfl Try.func17 nm17 rfl (.cons rfl (.d _) (.cons rfl (.d _) (.cons rfl (.d _) (.cons rfl (.d _) .nil)))) au5 rfl)) ?_
  refine rg_put (d := 56) (v := .tu [.fl (.int .i64 600), .fl (.bool true)]) rfl (og rfl (op_move rfl rfl rfl)) ?_
  refine rg_put (d := 61) (v := .d (.fl (.int .i64 600))) rfl (og rfl (op_extract rfl rfl rfl rfl)) ?_
  refine rg_put (d := 62) (v := .d (.fl (.bool true))) rfl (og rfl (op_extract rfl rfl rfl rfl)) ?_
  refine rg_put (d := 14) (v := .d (.fl (.int .i64 600))) rfl (og rfl (op_assign rfl rfl rfl)) ?_
  refine rg_put (d := 15) (v := .d (.fl (.bool true))) rfl (og rfl (op_assign rfl rfl rfl)) ?_
  refine rg_done rfl ?_
  refine a_rseq ?_
  refine rg_put (d := 64) (v := .d (.sl 3 (List.map eKp [(Kp.mk 1 100 10), (Kp.mk 2 1000 50)]))) rfl (og rfl (op_move rfl rfl rfl)) ?_
  refine rg_put (d := 65) (v := .d (.sl 5 (List.map eIm ([(Im.mk (⟨#[97]⟩) 500 1 [] 0)])))) rfl (og rfl (op_move rfl rfl rfl)) ?_
  refine rg_put (d := 66) (v := .d (.sl 1 (List.map (rI .i64) [400]))) rfl (og rfl (of_eff (op_slices rfl Try.underlying37 ti3 rfl rfl rfl (by kernel_rfl) (xs := [.fl (.int .i64 400)]) rfl rfl (.cons rfl rfl (.d _) rfl rfl rfl .nil) rfl) rfl)) ?_
  refine rg_put (d := 67) (v := .tu [.fl (.int .i64 0), .fl (.bool false)]) rfl (og rfl (op_call rfl Try.func17 nm17 rfl (.cons rfl (.d _) (.cons rfl (.d _) (.cons rfl (.d _) (.cons rfl (.d _) .nil)))) au6 rfl)) ?_
  refine rg_put (d := 63) (v := .tu [.fl (.int .i64 0), .fl (.bool false)]) rfl (og rfl (op_move rfl rfl rfl)) ?_
  refine rg_put (d := 68) (v := .d (.fl (.int .i64 0))) rfl (og rfl (op_extract rfl rfl rfl rfl)) ?_
  refine rg_put (d := 69) (v := .d (.fl (.bool false))) rfl (og rfl (op_extract rfl rfl rfl rfl)) ?_
  refine rg_put (d := 16) (v := .d (.fl (.int .i64 0))) rfl (og rfl (op_assign rfl rfl rfl)) ?_
  refine rg_put (d := 17) (v := .d (.fl (.bool false))) rfl (og rfl (op_assign rfl rfl rfl)) ?_
  refine rg_done rfl ?_
  refine a_rseq ?_
  refine rg_put (d := 71) (v := .d (.sl 5 (List.map eIm ([(Im.mk (⟨#[97]⟩) 500 1 [] 0)])))) rfl (og rfl (op_move rfl rfl rfl)) ?_
  refine rg_put (d := 72) (v := .tu [.sl 5 (List.map eIm [aJ]), .fl (.int .i64 0)]) rfl (og rfl (op_call rfl Try.func21 nm21 rfl (.cons rfl (.d _) (.cons rfl (.d _) (.cons rfl (.d _) .nil))) au7 rfl)) ?_
  refine rg_put (d := 70) (v := .tu [.sl 5 (List.map eIm [aJ]), .fl (.int .i64 0)]) rfl (og rfl (op_move rfl rfl rfl)) ?_
  refine rg_put (d := 73) (v := .d (.sl 5 (List.map eIm [aJ]))) rfl (og rfl (op_extract rfl rfl rfl rfl)) ?_
  refine rg_put (d := 74) (v := .d (.fl (.int .i64 0))) rfl (og rfl (op_extract rfl rfl rfl rfl)) ?_
  refine rg_put (d := 18) (v := .d (.sl 5 (List.map eIm [aJ]))) rfl (og rfl (op_assign rfl rfl rfl)) ?_
  refine rg_put (d := 19) (v := .d (.fl (.int .i64 0))) rfl (og rfl (op_assign rfl rfl rfl)) ?_
  refine rg_done rfl ?_
  refine a_seq ?_
  refine a_rseq ?_
  refine rg_put (d := 75) (v := .d (.sl 5 (List.map eIm [aJ]))) rfl (og rfl (op_move rfl rfl rfl)) ?_
  refine rg_put (d := 76) (v := .d (.fl (.int .i64 ([aJ].length : Int)))) rfl (og rfl (s_len rfl Try.underlying36 rfl rfl)) ?_
  refine rg_put (d := 77) (v := .d (.fl (.bool ((([aJ].length : Int) != 1))))) rfl (og rfl (op_bin rfl rfl rfl (b_neq _ _ _ _) rfl)) ?_
  refine rg_done rfl ?_
  refine a_condF rfl rfl ?_
  refine a_skip ?_
  show A _ _ _ _ _ _ _
  refine a_rseq ?_
  refine rg_put (d := 79) (v := .d (.sl 3 (List.map eKp [(Kp.mk 1 100 10), (Kp.mk 2 1000 50)]))) rfl (og rfl (op_move rfl rfl rfl)) ?_
  refine rg_put (d := 80) (v := .d (.sl 5 (List.map eIm [aJ]))) rfl (og rfl (op_move rfl rfl rfl)) ?_
  refine rg_put (d := 81) (v := .el ((eIm (ix [aJ] 0)))) rfl (og rfl (s_index rfl Try.underlying36 ti26 rfl rfl (by decide) (row_at (by decide)) rfl)) ?_
  refine rg_put (d := 82) (v := .d (.ag (eIm (ix [aJ] 0)))) rfl (og rfl (of_eff (s_load_els rfl Try.underlying26 rfl ti26 rfl rfl rfl) rfl)) ?_
  refine rg_put (d := 83) (v := .tu [.fl (.int .i64 0), .fl (.int .i64 32)]) rfl (og rfl (op_call rfl Try.func10 nm10 rfl (.cons rfl (.d _) (.cons rfl (.d _) (.cons rfl (.d _) .nil))) au8 rfl)) ?_
  refine rg_put (d := 78) (v := .tu [.fl (.int .i64 0), .fl (.int .i64 32)]) rfl (og rfl (op_move rfl rfl rfl)) ?_
  refine rg_put (d := 84) (v := .d (.fl (.int .i64 0))) rfl (og rfl (op_extract rfl rfl rfl rfl)) ?_
  refine rg_put (d := 85) (v := .d (.fl (.int .i64 32))) rfl (og rfl (op_extract rfl rfl rfl rfl)) ?_
  refine rg_put (d := 20) (v := .d (.fl (.int .i64 0))) rfl (og rfl (op_assign rfl rfl rfl)) ?_
  refine rg_put (d := 21) (v := .d (.fl (.int .i64 32))) rfl (og rfl (op_assign rfl rfl rfl)) ?_
  refine rg_done rfl ?_
  refine a_rseq ?_
  refine rg_put (d := 86) (v := .d (.fl (.int .i64 605))) rfl (og rfl (op_move rfl rfl rfl)) ?_
  refine rg_put (d := 87) (v := .d (.fl (.bool (605 == 605)))) rfl (og rfl (op_bin rfl rfl rfl (b_eql _ _ _ _) rfl)) ?_
  refine rg_put (d := 88) (v := .d (.fl (.bool (605 == 605)))) rfl (og rfl (op_move rfl rfl rfl)) ?_
  refine rg_put (d := 89) (v := .d (.fl (.int .i64 0))) rfl (oy rfl rfl rfl rfl (op_move rfl rfl rfl)) ?_
  refine rg_put (d := 90) (v := .d (.fl (.bool (0 == 0)))) rfl (oy rfl rfl rfl rfl (op_bin rfl rfl rfl (b_eql _ _ _ _) rfl)) ?_
  refine rg_put (d := 91) (v := .d (.fl (.bool (0 == 0)))) rfl (og rfl (op_pick rfl rfl rfl rfl)) ?_
  refine rg_put (d := 92) (v := .d (.fl (.bool (0 == 0)))) rfl (og rfl (op_move rfl rfl rfl)) ?_
  refine rg_put (d := 93) (v := .d (.fl (.int .i64 11))) rfl (oy rfl rfl rfl rfl (op_move rfl rfl rfl)) ?_
  refine rg_put (d := 94) (v := .d (.fl (.bool (11 == 11)))) rfl (oy rfl rfl rfl rfl (op_bin rfl rfl rfl (b_eql _ _ _ _) rfl)) ?_
  refine rg_put (d := 95) (v := .d (.fl (.bool (11 == 11)))) rfl (og rfl (op_pick rfl rfl rfl rfl)) ?_
  refine rg_put (d := 96) (v := .d (.fl (.bool (11 == 11)))) rfl (og rfl (op_move rfl rfl rfl)) ?_
  refine rg_put (d := 97) (v := .d (.sl 5 (List.map eIm [aI]))) rfl (oy rfl rfl rfl rfl (op_move rfl rfl rfl)) ?_
  refine rg_put (d := 98) (v := .d (.fl (.int .i64 ([aI].length : Int)))) rfl (oy rfl rfl rfl rfl (s_len rfl Try.underlying36 rfl rfl)) ?_
  refine rg_put (d := 99) (v := .d (.fl (.bool ((([aI].length : Int) == 1))))) rfl (oy rfl rfl rfl rfl (op_bin rfl rfl rfl (b_eql _ _ _ _) rfl)) ?_
  refine rg_put (d := 100) (v := .d (.fl (.bool ((([aI].length : Int) == 1))))) rfl (og rfl (op_pick rfl rfl rfl rfl)) ?_
  refine rg_put (d := 101) (v := .d (.fl (.bool ((([aI].length : Int) == 1))))) rfl (og rfl (op_move rfl rfl rfl)) ?_
  refine rg_put (d := 102) (v := .d (.sl 1 (List.map rS ([] : List ByteArray)))) rfl (oy rfl rfl rfl rfl (op_move rfl rfl rfl)) ?_
  refine rg_put (d := 103) (v := .d (.fl (.int .i64 ((([] : List ByteArray).length : Int))))) rfl (oy rfl rfl rfl rfl (s_len rfl Try.underlying23 rfl rfl)) ?_
  refine rg_put (d := 104) (v := .d (.fl (.bool (((([] : List ByteArray).length : Int) == 0))))) rfl (oy rfl rfl rfl rfl (op_bin rfl rfl rfl (b_eql _ _ _ _) rfl)) ?_
  refine rg_put (d := 105) (v := .d (.fl (.bool (((([] : List ByteArray).length : Int) == 0))))) rfl (og rfl (op_pick rfl rfl rfl rfl)) ?_
  refine rg_put (d := 106) (v := .d (.fl (.bool (((([] : List ByteArray).length : Int) == 0))))) rfl (og rfl (op_move rfl rfl rfl)) ?_
  refine rg_put (d := 107) (v := .d (.fl (.int .i64 0))) rfl (oy rfl rfl rfl rfl (op_move rfl rfl rfl)) ?_
  refine rg_put (d := 108) (v := .d (.fl (.bool (0 == 0)))) rfl (oy rfl rfl rfl rfl (op_bin rfl rfl rfl (b_eql _ _ _ _) rfl)) ?_
  refine rg_put (d := 109) (v := .d (.fl (.bool (0 == 0)))) rfl (og rfl (op_pick rfl rfl rfl rfl)) ?_
  refine rg_put (d := 110) (v := .d (.fl (.bool (0 == 0)))) rfl (og rfl (op_move rfl rfl rfl)) ?_
  refine rg_put (d := 111) (v := .d (.sl 5 (List.map eIm ([] : List Im)))) rfl (oy rfl rfl rfl rfl (op_move rfl rfl rfl)) ?_
  refine rg_put (d := 112) (v := .d (.fl (.int .i64 ((([] : List Im).length : Int))))) rfl (oy rfl rfl rfl rfl (s_len rfl Try.underlying36 rfl rfl)) ?_
  refine rg_put (d := 113) (v := .d (.fl (.bool (((([] : List Im).length : Int) == 0))))) rfl (oy rfl rfl rfl rfl (op_bin rfl rfl rfl (b_eql _ _ _ _) rfl)) ?_
  refine rg_put (d := 114) (v := .d (.fl (.bool (((([] : List Im).length : Int) == 0))))) rfl (og rfl (op_pick rfl rfl rfl rfl)) ?_
  refine rg_put (d := 115) (v := .d (.fl (.bool (((([] : List Im).length : Int) == 0))))) rfl (og rfl (op_move rfl rfl rfl)) ?_
  refine rg_put (d := 116) (v := .d (.sl 1 (List.map rS ([⟨#[97]⟩] : List ByteArray)))) rfl (oy rfl rfl rfl rfl (op_move rfl rfl rfl)) ?_
  refine rg_put (d := 117) (v := .d (.fl (.int .i64 ((([⟨#[97]⟩] : List ByteArray).length : Int))))) rfl (oy rfl rfl rfl rfl (s_len rfl Try.underlying23 rfl rfl)) ?_
  refine rg_put (d := 118) (v := .d (.fl (.bool (((([⟨#[97]⟩] : List ByteArray).length : Int) == 1))))) rfl (oy rfl rfl rfl rfl (op_bin rfl rfl rfl (b_eql _ _ _ _) rfl)) ?_
  refine rg_put (d := 119) (v := .d (.fl (.bool (((([⟨#[97]⟩] : List ByteArray).length : Int) == 1))))) rfl (og rfl (op_pick rfl rfl rfl rfl)) ?_
  refine rg_put (d := 120) (v := .d (.fl (.bool (((([⟨#[97]⟩] : List ByteArray).length : Int) == 1))))) rfl (og rfl (op_move rfl rfl rfl)) ?_
  refine rg_put (d := 121) (v := .d (.sl 1 (List.map rS ([⟨#[97]⟩] : List ByteArray)))) rfl (oy rfl rfl rfl rfl (op_move rfl rfl rfl)) ?_
  refine rg_put (d := 122) (v := .el ((rS ((ix ([⟨#[97]⟩] : List ByteArray) 0))))) rfl (oy rfl rfl rfl rfl (s_index rfl Try.underlying23 ti9 rfl rfl (by decide) (row_at (by decide)) rfl)) ?_
  refine rg_put (d := 123) (v := .d (.fl (.string ((ix ([⟨#[97]⟩] : List ByteArray) 0))))) rfl (oy rfl rfl rfl rfl (op_load_el rfl Try.underlying9 rfl rfl rfl rfl)) ?_
  refine rg_put (d := 124) (v := .d (.fl (.bool ((sEq ((ix ([⟨#[97]⟩] : List ByteArray) 0)) (⟨#[97]⟩)))))) rfl (oy rfl rfl rfl rfl (op_bin rfl rfl rfl (b_seq _ _ _) rfl)) ?_
  refine rg_put (d := 125) (v := .d (.fl (.bool ((sEq ((ix ([⟨#[97]⟩] : List ByteArray) 0)) (⟨#[97]⟩)))))) rfl (og rfl (op_pick rfl rfl rfl rfl)) ?_
  refine rg_put (d := 126) (v := .d (.fl (.bool ((sEq ((ix ([⟨#[97]⟩] : List ByteArray) 0)) (⟨#[97]⟩)))))) rfl (og rfl (op_move rfl rfl rfl)) ?_
  refine rg_put (d := 127) (v := .d (.fl (.int .i64 0))) rfl (oy rfl rfl rfl rfl (op_move rfl rfl rfl)) ?_
  refine rg_put (d := 128) (v := .d (.fl (.bool (0 == 0)))) rfl (oy rfl rfl rfl rfl (op_bin rfl rfl rfl (b_eql _ _ _ _) rfl)) ?_
  refine rg_put (d := 129) (v := .d (.fl (.bool (0 == 0)))) rfl (og rfl (op_pick rfl rfl rfl rfl)) ?_
  refine rg_put (d := 130) (v := .d (.fl (.bool (0 == 0)))) rfl (og rfl (op_move rfl rfl rfl)) ?_
  refine rg_put (d := 131) (v := .d (.fl (.int .i64 600))) rfl (oy rfl rfl rfl rfl (op_move rfl rfl rfl)) ?_
  refine rg_put (d := 132) (v := .d (.fl (.bool (600 == 600)))) rfl (oy rfl rfl rfl rfl (op_bin rfl rfl rfl (b_eql _ _ _ _) rfl)) ?_
  refine rg_put (d := 133) (v := .d (.fl (.bool (600 == 600)))) rfl (og rfl (op_pick rfl rfl rfl rfl)) ?_
  refine rg_put (d := 134) (v := .d (.fl (.bool (600 == 600)))) rfl (og rfl (op_move rfl rfl rfl)) ?_
  refine rg_put (d := 135) (v := .d (.fl (.bool true))) rfl (oy rfl rfl rfl rfl (op_move rfl rfl rfl)) ?_
  refine rg_put (d := 136) (v := .d (.fl (.bool true))) rfl (og rfl (op_pick rfl rfl rfl rfl)) ?_
  refine rg_put (d := 137) (v := .d (.fl (.bool true))) rfl (og rfl (op_move rfl rfl rfl)) ?_
  refine rg_put (d := 138) (v := .d (.fl (.bool false))) rfl (oy rfl rfl rfl rfl (op_move rfl rfl rfl)) ?_
  refine rg_put (d := 139) (v := .d (.fl (.bool (!false)))) rfl (oy rfl rfl rfl rfl (op_un rfl rfl (u_not _) rfl)) ?_
  refine rg_put (d := 140) (v := .d (.fl (.bool (!false)))) rfl (og rfl (op_pick rfl rfl rfl rfl)) ?_
  refine rg_put (d := 141) (v := .d (.fl (.bool (!false)))) rfl (og rfl (op_move rfl rfl rfl)) ?_
  refine rg_put (d := 142) (v := .d (.fl (.int .i64 0))) rfl (oy rfl rfl rfl (not_t' rfl) (op_move rfl rfl rfl)) ?_
  refine rg_put (d := 143) (v := .d (.fl (.bool (0 == 0)))) rfl (oy rfl rfl rfl (not_t' rfl) (op_bin rfl rfl rfl (b_eql _ _ _ _) rfl)) ?_
  refine rg_put (d := 144) (v := .d (.fl (.bool (0 == 0)))) rfl (og rfl (op_pick rfl rfl (by rw [(not_t' rfl)]; rfl) rfl)) ?_
  refine rg_put (d := 145) (v := .d (.fl (.bool (0 == 0)))) rfl (og rfl (op_move rfl rfl rfl)) ?_
  refine rg_put (d := 146) (v := .d (.fl (.int .i64 32))) rfl (oy rfl rfl rfl rfl (op_move rfl rfl rfl)) ?_
  refine rg_put (d := 147) (v := .d (.fl (.bool (32 == 32)))) rfl (oy rfl rfl rfl rfl (op_bin rfl rfl rfl (b_eql _ _ _ _) rfl)) ?_
  refine rg_put (d := 148) (v := .d (.fl (.bool (32 == 32)))) rfl (og rfl (op_pick rfl rfl rfl rfl)) ?_
  refine rg_put (d := 0) (v := .d (.fl (.bool (32 == 32)))) rfl (og rfl (op_assign rfl rfl rfl)) ?_
  refine rg_done rfl ?_
  refine a_ret ?_
  show ∃ ds, ResL _ _ _ ds ∧ RV.of ds = _
  refine ⟨[.fl (.bool (32 == 32))], (.cons (.tmp rfl (.d _)) .nil), ?_⟩
  rfl
end Go.Proofs.Yteplcjhnmmpicaa.Wk
