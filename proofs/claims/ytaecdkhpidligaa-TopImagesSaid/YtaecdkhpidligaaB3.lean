/- Descriptions. Condition: an image of a possible size. -/
import Derived.Test.YtaecdkhpidligaaB2
set_option linter.unusedSimpArgs false
set_option linter.unusedVariables false
namespace Go.Proofs.Ytaecdkhpidligaa.Wk
open Go Go.RowKit Go.Proofs.Ytaecdkhpidligaa.Av
def d4 (im : Im) : List Int := ((([] ++ txb im.id) ++ icd im.time) ++ icd im.purpose) ++ icd (im.hold.length : Int)
def dh (im : Im) (k : Nat) : List Int := d4 im ++ (im.hold.take k).flatMap txb
def dsc (im : Im) : List Int := dh im im.hold.length ++ be im.dig
def R64 (n : Int) : Prop := -9223372036854775808 ≤ n ∧ n ≤ 9223372036854775807
structure Okd (im : Im) : Prop where
  i : im.id.size ≤ 1000
  l : im.hold.length ≤ 100
  h : ∀ s ∈ im.hold, s.size ≤ 1000
  t : R64 im.time
  p : R64 im.purpose
  d : 0 ≤ im.dig ∧ im.dig ≤ 18446744073709551615
theorem d4_len {im : Im} (h : Okd im) : (d4 im).length ≤ 1040 := by
  have h1 := txb_len (s := im.id) (by have := h.i; omega)
  have h2 := icd_len h.t
  have h3 := icd_len h.p
  have h4 := icd_len (n := (im.hold.length : Int)) (by have := h.l; omega)
  have h5 := h.i
  unfold d4
  simp only [List.length_append, List.length_nil]
  omega
theorem fm_len : ∀ l : List ByteArray, (∀ s ∈ l, s.size ≤ 1000) → (l.flatMap txb).length ≤ l.length * 1010
  | [], _ => by simp
  | s :: l, h => by
    have h1 := txb_len (s := s) (by have := h s (by simp); omega)
    have h2 := fm_len l (fun x hx => h x (by simp [hx]))
    have h3 := h s (by simp)
    rw [List.flatMap_cons, List.length_append, List.length_cons]
    omega
theorem dh_len {im : Im} (h : Okd im) (k : Nat) : (dh im k).length ≤ 102040 := by
  have h1 := d4_len h
  have h2 := fm_len (im.hold.take k) (fun s hs => h.h s (List.mem_of_mem_take hs))
  have h3 : (im.hold.take k).length ≤ 100 := by have := h.l; rw [List.length_take]; omega
  unfold dh
  rw [List.length_append]
  omega
theorem dh_succ {im : Im} {k : Nat} (h : k < im.hold.length) : dh im k ++ txb (ix im.hold k) = dh im (k + 1) := by
  unfold dh
  rw [take_ix h, List.flatMap_append, List.append_assoc]
  simp
theorem dh_zero (im : Im) : d4 im = dh im 0 := by simp [dh]
theorem dsc_len {im : Im} (h : Okd im) : (dsc im).length ≤ 102048 := by
  have := dh_len h im.hold.length
  unfold dsc
  rw [List.length_append, be_len]
  omega
theorem ix_mem {α : Type} [Inhabited α] {l : List α} {k : Nat} (h : k < l.length) : ix l k ∈ l := List.mem_of_getElem? (ix_get h)
def dgI (im : Im) : Int := hsh (dsc im)

theorem bys_take {s : ByteArray} {k : Nat} (h : k < s.size) : (bys s).take k ++ [((bt s k).toNat : Int)] = (bys s).take (k + 1) := by
  have hl : k < (bys s).length := by rw [bys_len]; exact h
  rw [List.take_add_one, List.getElem?_eq_getElem hl]
  congr 1
  have hd : k < s.data.toList.length := by simpa using h
  simp [bys, bt, List.getD, List.getElem?_eq_getElem hd]

set_option maxHeartbeats 4000000 in
set_option maxRecDepth 100000 in
theorem desc31 (im : Im) (hO : Okd im) : Ctr Try.prog 27 [.ag (eIm im)] (.d (.sl 1 (List.map (rI .u8) (dsc im)))) := by
  have hI := hO.i
  have hL := hO.l
  have hT := hO.t
  have hP := hO.p
  have hD := hO.d
  have h1 := txb_len (s := im.id) (by omega)
  have h2 := icd_len hT
  have h3 := icd_len hP
  have h5 := d4_len hO
  unfold R64 at hT hP
  refine ctr (n := 48) (rs := #[.tmp 2]) (L := [(0, .d (.ag (eIm im)))]) Try.func27 rfl rfl rfl rfl rfl (fun w0 U0 => ?_)
  refine a_rseq ?_
  refine rg_nam (d := 1) (v := .pt 101 0) (m := 101) (nw := [(101, .bx 40 (eIm im))]) rfl (og rfl (of_eff (op_box 101 rfl rfl rfl rfl) rfl)) rfl ?_
  refine rg_put (d := 2) (v := .d (.fl (.slice none 0 0))) rfl (og rfl (op_assign rfl rfl rfl)) ?_
  refine rg_done rfl ?_
  refine a_rseq ?_
  refine rg_put (d := 7) (v := .pt 101 0) rfl (og rfl (of_eff (s_field_pt rfl Try.underlying40 rfl ti9 rfl rfl rfl) rfl)) ?_
  refine rg_put (d := 8) (v := .d (.fl (.string im.id))) rfl (og rfl (op_load_pt rfl Try.underlying9 rfl rfl rfl rfl rfl)) ?_
  refine rg_nam (d := 9) (v := .ow 102) (m := 102) (nw := [(102, .tr 5 1 (tD (rI .u8) ([] ++ txb im.id)))]) rfl (og rfl (of_eff (op_callO 102 rfl Try.func35 nm35 rfl (.cons rfl (.cv (Cv.nil _)) (.cons rfl (.d _) .nil)) (putT49 [] im.id (by first | omega | (simp only [List.length_append, List.length_cons, List.length_nil]; omega)) (by omega)) rfl) rfl)) rfl ?_
  refine rg_put (d := 3) (v := .ow 102) rfl (og rfl (op_assign rfl rfl rfl)) ?_
  refine rg_done rfl ?_
  refine a_rseq ?_
  refine rg_put (d := 10) (v := .ow 102) rfl (og rfl (op_move rfl rfl rfl)) ?_
  refine rg_put (d := 11) (v := .pt 101 1) rfl (og rfl (of_eff (s_field_pt rfl Try.underlying40 rfl ti3 rfl rfl rfl) rfl)) ?_
  refine rg_put (d := 12) (v := .d (.fl (.int .i64 im.time))) rfl (og rfl (op_load_pt rfl Try.underlying3 rfl rfl rfl rfl rfl)) ?_
  refine rg_imp (imp_leakT 10 102 rfl rfl) ?_
  refine rg_nam (d := 13) (v := .ow 103) (m := 103) (nw := [(103, .tr 5 1 (tD (rI .u8) ((([] ++ txb im.id) ++ icd im.time))))]) rfl (og rfl (of_eff (op_callO 103 rfl Try.func36 nm36 rfl (.cons rfl (.d _) (.cons rfl (.d _) .nil)) (putI50 ([] ++ txb im.id) im.time (by first | omega | (simp only [List.length_append, List.length_cons, List.length_nil]; omega)) (by omega)) rfl) rfl)) rfl ?_
  refine rg_put (d := 3) (v := .ow 103) rfl (og rfl (op_assign rfl rfl rfl)) ?_
  refine rg_done rfl ?_
  refine a_rseq ?_
  refine rg_put (d := 14) (v := .ow 103) rfl (og rfl (op_move rfl rfl rfl)) ?_
  refine rg_put (d := 15) (v := .pt 101 2) rfl (og rfl (of_eff (s_field_pt rfl Try.underlying40 rfl ti3 rfl rfl rfl) rfl)) ?_
  refine rg_put (d := 16) (v := .d (.fl (.int .i64 im.purpose))) rfl (og rfl (op_load_pt rfl Try.underlying3 rfl rfl rfl rfl rfl)) ?_
  refine rg_imp (imp_leakT 14 103 rfl rfl) ?_
  refine rg_nam (d := 17) (v := .ow 104) (m := 104) (nw := [(104, .tr 5 1 (tD (rI .u8) (((([] ++ txb im.id) ++ icd im.time) ++ icd im.purpose))))]) rfl (og rfl (of_eff (op_callO 104 rfl Try.func36 nm36 rfl (.cons rfl (.d _) (.cons rfl (.d _) .nil)) (putI50 ((([] ++ txb im.id) ++ icd im.time)) im.purpose (by first | omega | (simp only [List.length_append, List.length_cons, List.length_nil]; omega)) (by omega)) rfl) rfl)) rfl ?_
  refine rg_put (d := 3) (v := .ow 104) rfl (og rfl (op_assign rfl rfl rfl)) ?_
  refine rg_done rfl ?_
  refine a_rseq ?_
  refine rg_put (d := 18) (v := .ow 104) rfl (og rfl (op_move rfl rfl rfl)) ?_
  refine rg_put (d := 19) (v := .pt 101 3) rfl (og rfl (of_eff (s_field_pt rfl Try.underlying40 rfl ti33 rfl rfl rfl) rfl)) ?_
  refine rg_put (d := 20) (v := .d (.sl 1 (List.map rS im.hold))) rfl (og rfl (op_load_pt rfl Try.underlying33 rfl rfl rfl rfl rfl)) ?_
  refine rg_put (d := 21) (v := .d (.fl (.int .i64 (im.hold.length : Int)))) rfl (og rfl (s_len rfl Try.underlying33 rfl rfl)) ?_
  refine rg_imp (imp_leakT 18 104 rfl rfl) ?_
  refine rg_nam (d := 22) (v := .ow 105) (m := 105) (nw := [(105, .tr 5 1 (tD (rI .u8) ((((([] ++ txb im.id) ++ icd im.time) ++ icd im.purpose) ++ icd (im.hold.length : Int)))))]) rfl (og rfl (of_eff (op_callO 105 rfl Try.func36 nm36 rfl (.cons rfl (.d _) (.cons rfl (.d _) .nil)) (putI50 (((([] ++ txb im.id) ++ icd im.time) ++ icd im.purpose)) (im.hold.length : Int) (by first | omega | (simp only [List.length_append, List.length_cons, List.length_nil]; omega)) (by omega)) rfl) rfl)) rfl ?_
  refine rg_put (d := 3) (v := .ow 105) rfl (og rfl (op_assign rfl rfl rfl)) ?_
  refine rg_done rfl ?_
  refine a_seq ?_
  refine a_rseq ?_
  rw [show (((([] ++ txb im.id) ++ icd im.time) ++ icd im.purpose) ++ icd (im.hold.length : Int)) = (d4 im) from rfl]
  refine rg_put (d := 23) (v := .pt 101 3) rfl (og rfl (of_eff (s_field_pt rfl Try.underlying40 rfl ti33 rfl rfl rfl) rfl)) ?_
  refine rg_put (d := 24) (v := .d (.sl 1 (List.map rS im.hold))) rfl (og rfl (op_load_pt rfl Try.underlying33 rfl rfl rfl rfl rfl)) ?_
  refine rg_put (d := 25) (v := .d (.fl (.int .i64 (im.hold.length : Int)))) rfl (og rfl (s_len rfl Try.underlying33 rfl rfl)) ?_
  refine rg_put (d := 26) (v := .d (.fl (.int .i64 0))) rfl (og rfl (op_move rfl rfl rfl)) ?_
  refine rg_done rfl ?_
  refine a_block ?_
  refine a_loop (ι := Nat) (fun k => SS [(0, .d (.ag (eIm im))), (1, .pt 101 0), (2, .d (.fl (.slice none 0 0))), (24, .d (.sl 1 (List.map rS im.hold))), (25, .d (.fl (.int .i64 (im.hold.length : Int)))), (26, .d (.fl (.int .i64 (k : Int)))), (3, .ow 105)] [(101, .bx 40 (eIm im)), (105, .tr 5 1 (tD (rI .u8) (dh im k)))]) (fun k => k ≤ im.hold.length) (fun k => im.hold.length - k) 0 (by omega) (imp_forget rfl ⟨rfl, rfl, rfl, rfl, rfl, (by first | rfl | exact ci (by omega) | exact ci (by simp) | exact cd (by simp) | simp), (by first | rfl | exact ci (by omega) | exact ci (by simp) | exact cd (by simp) | simp), trivial⟩ ⟨rfl, (by first | rfl | exact congrArg (fun q => Ob.tr 5 1 (tD (rI .u8) q)) (dh_zero im)), trivial⟩) (fun k hok => ?_)
  have hk := hok
  have hdl := dh_len hO k
  refine a_rseq ?_
  refine rg_put (d := 27) (v := .d (.fl (.bool ((decide ((k : Int) < (im.hold.length : Int))))))) rfl (og rfl (op_bin rfl rfl rfl (b_lss _ _ _ _) rfl)) ?_
  refine rg_done rfl ?_
  refine a_seq ?_
  refine a_cond rfl (fun h1 => ?_) (fun h1 => ?_)
  · skip
    have h2 := t_dec h1
    refine a_skip ?_
    show A _ _ _ _ _ _ _
    refine a_seq ?_
    refine a_block ?_
    refine a_rseq ?_
    refine rg_put (d := 28) (v := .el ((rS (ix im.hold k)))) rfl (og rfl (s_index rfl Try.underlying33 ti9 rfl rfl (by omega) (row_at (by omega)) rfl)) ?_
    refine rg_put (d := 29) (v := .d (.fl (.string (ix im.hold k)))) rfl (og rfl (op_load_el rfl Try.underlying9 rfl rfl rfl rfl)) ?_
    refine rg_put (d := 5) (v := .d (.fl (.string (ix im.hold k)))) rfl (og rfl (op_assign rfl rfl rfl)) ?_
    refine rg_done rfl ?_
    refine a_region ?_
    refine rg_put (d := 30) (v := .ow 105) rfl (og rfl (op_move rfl rfl rfl)) ?_
    have hs1 : (ix im.hold k).size ≤ 1000 := hO.h _ (ix_mem (by omega))
    have h6 := txb_len (s := ix im.hold k) (by omega)
    refine rg_put (d := 31) (v := .d (.fl (.string (ix im.hold k)))) rfl (og rfl (op_move rfl rfl rfl)) ?_
    refine rg_nam (d := 32) (v := .ow 106) (m := 106) (nw := [(106, .tr 5 1 (tD (rI .u8) (([] ++ txb (ix im.hold k)))))]) rfl (og rfl (of_eff (op_callO 106 rfl Try.func35 nm35 rfl (.cons rfl (.cv (Cv.nil _)) (.cons rfl (.d _) .nil)) (putT49 [] (ix im.hold k) (by first | omega | (simp only [List.length_append, List.length_cons, List.length_nil]; omega)) (by omega)) rfl) rfl)) rfl ?_
    refine rg_imp (imp_leakT 32 106 rfl rfl) ?_
    refine rg_nam (d := 33) (v := .ow 107) (m := 107) (nw := [(107, .tr 5 1 (tD (rI .u8) (((dh im k) ++ ([] ++ txb (ix im.hold k)))))), (105, .no)]) rfl (og rfl (of_eff (s_append_td 107 rfl Try.underlying67 ti5 rfl rfl rfl rfl rfl (.d _) (by have hdl2 := dh_len hO im.hold.length; first | omega | (simp only [List.length_append, List.length_cons, List.length_nil, List.length_take, be_len]; omega)) rfl) rfl)) rfl ?_
    rw [show ((dh im k) ++ ([] ++ txb (ix im.hold k))) = (dh im (k + 1)) from (by rw [List.nil_append]; exact dh_succ (by omega))]
    refine rg_put (d := 3) (v := .ow 107) rfl (og rfl (op_assign rfl rfl rfl)) ?_
    refine rg_done rfl ?_
    show A _ _ _ _ _ _ _
    refine a_region ?_
    refine rg_put (d := 34) (v := .d (.fl (.int .i64 (((k : Int) + 1))))) rfl (og rfl (op_bin rfl rfl rfl (fun x y w => b_add64 _ _ _ x y w (by omega)) rfl)) ?_
    refine rg_put (d := 26) (v := .d (.fl (.int .i64 (((k : Int) + 1))))) rfl (og rfl (op_move rfl rfl rfl)) ?_
    refine rg_done rfl ?_
    show ∃ i, _ ∧ _ ∧ Imp _ _ _ _ _
    refine ⟨k + 1, by omega, by omega, imp_ren (fun m => bif Nat.beq m 105 then 107 else m) rfl ⟨rfl, rfl, rfl, rfl, rfl, (by first | rfl | exact ci (by omega) | exact ci (by simp) | exact cd (by simp) | simp), rfl, trivial⟩ ⟨rfl, (by first | rfl | simp), trivial⟩⟩
  · skip
    have h3 := f_dec h1
    refine a_exit ?_
    show A _ _ _ _ _ _ _
    refine a_seq ?_
    have hk8 : k = im.hold.length := by omega
    rw [show (dh im k) = (dh im im.hold.length) from by rw [hk8]]
    refine a_rseq ?_
    refine rg_put (d := 6) (v := .d (.fl (.int .i64 56))) rfl (og rfl (op_assign rfl rfl rfl)) ?_
    refine rg_done rfl ?_
    refine a_block ?_
    refine a_loop (ι := Nat) (fun j => SS [(0, .d (.ag (eIm im))), (1, .pt 101 0), (2, .d (.fl (.slice none 0 0))), (24, .d (.sl 1 (List.map rS im.hold))), (25, .d (.fl (.int .i64 (im.hold.length : Int)))), (26, .d (.fl (.int .i64 (k : Int)))), (27, .d (.fl (.bool ((decide ((k : Int) < (im.hold.length : Int))))))), (6, .d (.fl (.int .i64 ((56 - (8 * (j : Int))))))), (3, .ow 105)] [(101, .bx 40 (eIm im)), (105, .tr 5 1 (tD (rI .u8) (((dh im im.hold.length) ++ (be im.dig).take j))))]) (fun j => j ≤ 8) (fun j => 8 - j) 0 (by omega) (imp_forget rfl ⟨rfl, rfl, rfl, rfl, rfl, rfl, rfl, (by first | rfl | exact ci (by omega) | exact ci (by simp) | exact cd (by simp) | simp), (by first | rfl | exact ci (by omega) | exact ci (by simp) | exact cd (by simp) | simp), trivial⟩ ⟨rfl, (by first | rfl | exact congrArg (fun q => Ob.tr 5 1 (tD (rI .u8) q)) (List.append_nil _).symm), trivial⟩) (fun j hok => ?_)
    have hj := hok
    refine a_seq ?_
    refine a_rseq ?_
    refine rg_put (d := 35) (v := .d (.fl (.int .i64 ((56 - (8 * (j : Int))))))) rfl (og rfl (op_move rfl rfl rfl)) ?_
    refine rg_put (d := 36) (v := .d (.fl (.bool ((decide (0 ≤ (56 - (8 * (j : Int))))))))) rfl (og rfl (op_bin rfl rfl rfl (b_geq _ _ _ _) rfl)) ?_
    refine rg_done rfl ?_
    refine a_cond rfl (fun h4 => ?_) (fun h4 => ?_)
    · skip
      have h5 := t_dec h4
      refine a_skip ?_
      show A _ _ _ _ _ _ _
      refine a_seq ?_
      refine a_block ?_
      refine a_region ?_
      have hj8 : j < 8 := by omega
      refine rg_put (d := 39) (v := .ow 105) rfl (og rfl (op_move rfl rfl rfl)) ?_
      refine rg_put (d := 40) (v := .pt 101 4) rfl (og rfl (of_eff (s_field_pt rfl Try.underlying40 rfl ti38 rfl rfl rfl) rfl)) ?_
      refine rg_put (d := 41) (v := .d (.fl (.int .u64 im.dig))) rfl (og rfl (op_load_pt rfl Try.underlying38 rfl rfl rfl rfl rfl)) ?_
      refine rg_put (d := 42) (v := .d (.fl (.int .i64 ((56 - (8 * (j : Int))))))) rfl (og rfl (op_move rfl rfl rfl)) ?_
      refine rg_put (d := 43) (v := .d (.fl (.int .u64 ((im.dig / 2 ^ min (((56 - (8 * (j : Int))) : Int)).toNat IntKind.u64.bits))))) rfl (og rfl (op_bin rfl rfl rfl (fun x y w => b_shr _ _ _ _ _ x y w (by omega)) rfl)) ?_
      refine rg_put (d := 44) (v := .d (.fl (.int .u8 ((IntKind.u8.wrap ((im.dig / 2 ^ min (((56 - (8 * (j : Int))) : Int)).toNat IntKind.u64.bits))))))) rfl (og rfl (op_convK rfl Try.underlying38 Try.underlying5 rfl rfl)) ?_
      rw [show (IntKind.u8.wrap ((im.dig / 2 ^ min (((56 - (8 * (j : Int))) : Int)).toNat IntKind.u64.bits))) = (byt im.dig j) from byt_shr im.dig hj8]
      refine rg_put (d := 45) (v := .d (.sl 1 (List.map (rI .u8) [(byt im.dig j)]))) rfl (og rfl (of_eff (op_slices rfl Try.underlying67 ti5 rfl rfl rfl (by kernel_rfl) (xs := [.fl (.int .u8 (byt im.dig j))]) rfl rfl (.cons rfl rfl (.d _) rfl rfl rfl .nil) rfl) rfl)) ?_
      refine rg_nam (d := 46) (v := .ow 108) (m := 108) (nw := [(108, .tr 5 1 (tD (rI .u8) ((((dh im im.hold.length) ++ (be im.dig).take j) ++ [(byt im.dig j)])))), (105, .no)]) rfl (og rfl (of_eff (s_append_td 108 rfl Try.underlying67 ti5 rfl rfl rfl rfl rfl (.d _) (by have hdl2 := dh_len hO im.hold.length; first | omega | (simp only [List.length_append, List.length_cons, List.length_nil, List.length_take, be_len]; omega)) rfl) rfl)) rfl ?_
      rw [show (((dh im im.hold.length) ++ (be im.dig).take j) ++ [(byt im.dig j)]) = ((dh im im.hold.length) ++ (be im.dig).take (j + 1)) from by rw [List.append_assoc, be_take im.dig hj8]]
      refine rg_put (d := 3) (v := .ow 108) rfl (og rfl (op_assign rfl rfl rfl)) ?_
      refine rg_done rfl ?_
      show A _ _ _ _ _ _ _
      refine a_region ?_
      refine rg_put (d := 37) (v := .d (.fl (.int .i64 ((56 - (8 * (j : Int))))))) rfl (og rfl (op_move rfl rfl rfl)) ?_
      refine rg_put (d := 38) (v := .d (.fl (.int .i64 (((56 - (8 * (j : Int))) - 8))))) rfl (og rfl (op_bin rfl rfl rfl (fun x y w => b_sub64 _ _ _ x y w (by omega)) rfl)) ?_
      refine rg_put (d := 6) (v := .d (.fl (.int .i64 (((56 - (8 * (j : Int))) - 8))))) rfl (og rfl (op_assign rfl rfl rfl)) ?_
      refine rg_done rfl ?_
      show ∃ i, _ ∧ _ ∧ Imp _ _ _ _ _
      refine ⟨j + 1, by omega, by omega, imp_ren (fun m => bif Nat.beq m 105 then 108 else m) rfl ⟨rfl, rfl, rfl, rfl, rfl, rfl, rfl, (by first | rfl | exact ci (by omega) | exact ci (by simp) | exact cd (by simp) | simp), rfl, trivial⟩ ⟨rfl, (by first | rfl | simp), trivial⟩⟩
    · skip
      have h6 := f_dec h4
      refine a_exit ?_
      show A _ _ _ _ _ _ _
      refine a_rseq ?_
      refine rg_put (d := 47) (v := .ow 105) rfl (og rfl (op_move rfl rfl rfl)) ?_
      refine rg_put (d := 2) (v := .ow 105) rfl (og rfl (op_assign rfl rfl rfl)) ?_
      refine rg_done rfl ?_
      have hj8 : j = 8 := by omega
      subst hj8
      rw [show ((dh im im.hold.length) ++ (be im.dig).take 8) = (dsc im) from rfl]
      refine a_imp (imp_leakT 2 105 rfl rfl) ?_
      refine a_ret ?_
      show ∃ ds, ResL _ _ _ ds ∧ RV.of ds = _
      refine ⟨[.sl 1 (List.map (rI .u8) (dsc im))], (.cons (.tmp rfl (.d _)) .nil), ?_⟩
      rfl
end Go.Proofs.Ytaecdkhpidligaa.Wk
