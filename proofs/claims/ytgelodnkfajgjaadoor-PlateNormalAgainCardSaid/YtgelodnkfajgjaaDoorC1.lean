/- The laws of normal forms. Condition: the two tables read as they are laid. -/
import Derived.Test.YtgelodnkfajgjaaDoorAl6
import Derived.Test.YtgelodnkfajgjaaDoorP1
set_option linter.unusedSimpArgs false
set_option linter.unusedVariables false
namespace Go.Proofs.YtgelodnkfajgjaaDoor.Wk
open Go Go.RowKit Go.Shelf Go.Lib Go.Proofs.YtgelodnkfajgjaaDoor.Pm Go.Proofs.YtgelodnkfajgjaaDoor.Av
/-- the other form: small letters, a blank ahead, a hyphen behind each byte -/
def lo (b : UInt8) : Int := if 65 ≤ b.toNat ∧ b.toNat ≤ 90 then IntKind.u8.wrap ((b.toNat : Int) + 32) else (b.toNat : Int)
def ot (s : ByteArray) (k : Nat) : List Int := [32] ++ (s.data.toList.take k).flatMap fun b => [lo b, 45]
theorem ot_next {s : ByteArray} {k : Nat} (h : k < s.size) : ot s (k + 1) = ot s k ++ [lo (bt s k), 45] := by
  unfold ot; rw [tk_bt h, List.flatMap_append, ← List.append_assoc]; simp
theorem ot_len {s : ByteArray} : ∀ k, (ot s k).length ≤ 1 + 2 * k
  | 0 => by simp [ot]
  | k + 1 => by
    have ih := ot_len (s := s) k
    by_cases h : k < s.size
    · rw [ot_next h, List.length_append]; simp only [List.length_cons, List.length_nil]; omega
    · have e : s.data.toList.take (k + 1) = s.data.toList.take k := by
        have h1 : s.data.toList.length = s.size := rfl
        rw [List.take_of_length_le (by omega), List.take_of_length_le (by omega)]
      have : ot s (k + 1) = ot s k := by unfold ot; rw [e]
      rw [this]; omega
def otS (s : ByteArray) : ByteArray := ibs (ot s s.size)
theorem lo_cb {b : UInt8} (h : okb b = true) : cb (UInt8.ofNat (lo b).toNat) = [b] := by
  unfold okb at h
  simp only [Bool.or_eq_true, Bool.and_eq_true, decide_eq_true_eq] at h
  have hb := b.toNat_lt
  unfold lo
  by_cases h1 : 65 ≤ b.toNat ∧ b.toNat ≤ 90
  · rw [if_pos h1, IntWalk.u8_in _ (by omega)]
    have e : (UInt8.ofNat ((b.toNat : Int) + 32).toNat).toNat = b.toNat + 32 := by
      rw [show ((b.toNat : Int) + 32).toNat = b.toNat + 32 by omega]; simp; omega
    unfold cb
    rw [if_neg (by rw [e]; omega), if_pos (by rw [e]; omega), e]
    rw [show b.toNat + 32 - 32 = b.toNat by omega]; simp
  · rw [if_neg h1]
    have e : UInt8.ofNat ((b.toNat : Int)).toNat = b := by simp
    rw [e]
    unfold cb
    rw [if_neg (by omega), if_neg (by omega)]
theorem cb32 : cb (UInt8.ofNat ((32 : Int)).toNat) = [] := by decide
theorem cb45 : cb (UInt8.ofNat ((45 : Int)).toNat) = [] := by decide
theorem ot_cln : ∀ l : List UInt8, l.all okb = true → cln ((l.flatMap fun b => [lo b, 45]).map fun n => UInt8.ofNat n.toNat) = l
  | [], _ => rfl
  | b :: l, h => by
    simp only [List.all_cons, Bool.and_eq_true] at h
    have ih := ot_cln l h.2
    rw [List.flatMap_cons, List.map_append, cln_app, ih]
    simp only [List.map_cons, List.map_nil]
    have : cln [UInt8.ofNat (lo b).toNat, UInt8.ofNat ((45 : Int)).toNat] = [b] := by
      unfold cln
      simp only [List.flatMap_cons, List.flatMap_nil, lo_cb h.1, cb45, List.append_nil]
    rw [this]; rfl
theorem ot_cS {l : List UInt8} (h : l.all okb = true) : cS (otS ⟨l.toArray⟩) = l := by
  unfold cS otS ot
  rw [ibs_eq]
  have e : (⟨l.toArray⟩ : ByteArray).data.toList.take (⟨l.toArray⟩ : ByteArray).size = l := by
    show l.take _ = l
    exact List.take_of_length_le (Nat.le_refl _)
  rw [e]
  simp only [List.map_append, List.map_cons, List.map_nil]
  rw [cln_app, ot_cln l h]
  have : cln [UInt8.ofNat ((32 : Int)).toNat] = [] := by unfold cln; simp only [List.flatMap_cons, List.flatMap_nil, cb32, List.append_nil]
  rw [this]; rfl
theorem ot_good {s : ByteArray} (h : nmG s = true) : nmG (otS (nmS s)) = true ∧ nmS (otS (nmS s)) = nmS s := by
  obtain ⟨h1, h2, h3⟩ := nmG_in h
  rw [(nm_t h).1]
  have e := ot_cS h3
  have g : nmG (otS ⟨(cS s).toArray⟩) = true := by unfold nmG; rw [e]; exact h
  exact ⟨g, by rw [(nm_t g).1, e]⟩
theorem ag_good {s : ByteArray} (h : nmG s = true) : nmG (nmS s) = true ∧ nmS (nmS s) = nmS s := by
  rw [(nm_t h).1]
  obtain ⟨g1, g2⟩ := nm_again h
  exact ⟨g1, by rw [(nm_t g1).1, g2]⟩
theorem nmS_len {s : ByteArray} (h : nmG s = true) : 2 ≤ (nmS s).size ∧ (nmS s).size ≤ 10 := by
  obtain ⟨h1, h2, h3⟩ := nmG_in h
  rw [(nm_t h).1]; exact ⟨h1, h2⟩
theorem otS_len (s : ByteArray) : (otS s).size ≤ 1 + 2 * s.size := by
  unfold otS
  rw [ibs_eq]
  have := ot_len (s := s) s.size
  show ((ot s s.size).map _).toArray.size ≤ _
  simpa using this
theorem nmS_le (s : ByteArray) : (nmS s).size ≤ 10 := by
  cases h : nmG s with
  | true => exact (nmS_len h).2
  | false => rw [(nm_f h).1]; show (0 : Nat) ≤ 10; omega
theorem nmI_ne {s : ByteArray} (h : (nmI s != 0) = true) : nmG s = false := by
  cases e : nmG s with
  | false => rfl
  | true => rw [(nm_t e).2] at h; cases h
theorem nmI_eq {s : ByteArray} (h : (nmI s != 0) = false) : nmG s = true := by
  cases e : nmG s with
  | true => rfl
  | false => rw [(nm_f e).2] at h; cases h

set_option maxHeartbeats 4000000 in
set_option maxRecDepth 100000 in
theorem othC (s : ByteArray) (hs : s.size ≤ 100000) : Ctr Tryd.prog 9 [.fl (.string s)] (.d (.fl (.string (otS s)))) := by
  refine ctr (n := 30) (rs := #[.tmp 2]) (L := [(0, .d (.fl (.string s)))]) Tryd.func9 rfl rfl rfl rfl rfl (fun w0 U0 => ?_)
  refine a_rseq ?_
  refine rg_put (d := 2) (v := .d (.fl (.string (⟨#[]⟩)))) rfl (og rfl (op_assign rfl rfl rfl)) ?_
  refine rg_done rfl ?_
  refine a_rseq ?_
  refine rg_nam (d := 6) (v := .ow 101) (m := 101) (nw := [(101, .tr 5 1 (tD (rI .u8) [32]))]) rfl (og rfl (of_eff (of_eff (op_sliceB 101 rfl Tryd.underlying52 ti5 rfl rfl rfl (by kernel_rfl) (xs := [.fl (.int .u8 32)]) rfl rfl (.cons rfl rfl (.d _) rfl rfl rfl .nil) rfl) rfl) rfl)) rfl ?_
  refine rg_put (d := 3) (v := .ow 101) rfl (og rfl (op_assign rfl rfl rfl)) ?_
  refine rg_done rfl ?_
  refine a_seq ?_
  refine a_rseq ?_
  refine rg_put (d := 4) (v := .d (.fl (.int .i64 0))) rfl (og rfl (op_assign rfl rfl rfl)) ?_
  refine rg_done rfl ?_
  refine a_block ?_
  refine a_loop (ι := Nat) (fun k => SS [(0, .d (.fl (.string s))), (2, .d (.fl (.string (⟨#[]⟩)))), (4, .d (.fl (.int .i64 (k : Int)))), (3, .ow 101)] [(101, .tr 5 1 (tD (rI .u8) (ot s k)))]) (fun k => k ≤ s.size) (fun k => s.size - k) 0 (by omega) (imp_forget rfl ⟨rfl, rfl, (by first | rfl | exact ci (by omega) | exact ci (by simp) | exact cd (by simp) | simp), (by first | rfl | exact ci (by omega) | exact ci (by simp) | exact cd (by simp) | simp), trivial⟩ ⟨rfl, trivial⟩) (fun k hok => ?_)
  have hk := hok
  have hol := ot_len (s := s) k
  have hb8 : (bt s k).toNat < 256 := (bt s k).toNat_lt
  refine a_seq ?_
  refine a_rseq ?_
  refine rg_put (d := 7) (v := .d (.fl (.int .i64 (k : Int)))) rfl (og rfl (op_move rfl rfl rfl)) ?_
  refine rg_put (d := 8) (v := .d (.fl (.string s))) rfl (og rfl (op_move rfl rfl rfl)) ?_
  refine rg_put (d := 9) (v := .d (.fl (.int .i64 (s.size : Int)))) rfl (og rfl (op_len_str rfl Tryd.underlying9 rfl rfl)) ?_
  refine rg_put (d := 10) (v := .d (.fl (.bool ((decide ((k : Int) < (s.size : Int))))))) rfl (og rfl (op_bin rfl rfl rfl (b_lss _ _ _ _) rfl)) ?_
  refine rg_done rfl ?_
  refine a_cond rfl (fun h1 => ?_) (fun h1 => ?_)
  · skip
    have h2 := t_dec h1
    refine a_skip ?_
    show A _ _ _ _ _ _ _
    refine a_seq ?_
    refine a_block ?_
    refine a_rseq ?_
    refine rg_put (d := 13) (v := .d (.fl (.string s))) rfl (og rfl (op_move rfl rfl rfl)) ?_
    refine rg_put (d := 14) (v := .d (.fl (.int .i64 (k : Int)))) rfl (og rfl (op_move rfl rfl rfl)) ?_
    refine rg_put (d := 15) (v := .d (.fl (.int .u8 (((bt s k).toNat : Int))))) rfl (og rfl (op_strindex rfl Tryd.underlying9 rfl rfl (by omega) (byte_ix (by omega)) rfl)) ?_
    refine rg_put (d := 5) (v := .d (.fl (.int .u8 (((bt s k).toNat : Int))))) rfl (og rfl (op_assign rfl rfl rfl)) ?_
    refine rg_done rfl ?_
    refine a_seq ?_
    refine a_rseq ?_
    refine rg_put (d := 16) (v := .d (.fl (.int .u8 (((bt s k).toNat : Int))))) rfl (og rfl (op_move rfl rfl rfl)) ?_
    refine rg_put (d := 17) (v := .d (.fl (.bool ((decide (65 ≤ ((bt s k).toNat : Int))))))) rfl (og rfl (op_bin rfl rfl rfl (b_geq _ _ _ _) rfl)) ?_
    refine rg_put (d := 18) (v := .d (.fl (.bool ((decide (65 ≤ ((bt s k).toNat : Int))))))) rfl (og rfl (op_move rfl rfl rfl)) ?_
    rcases fot ((decide (65 ≤ ((bt s k).toNat : Int)))) with h3 | h3
    · skip
      have h4 := f_dec h3
      refine rg_put (d := 19) (v := .d (.fl undef)) rfl (on rfl rfl rfl h3) ?_
      refine rg_put (d := 20) (v := .d (.fl undef)) rfl (on rfl rfl rfl h3) ?_
      refine rg_put (d := 21) (v := .d (.fl (.bool false))) rfl (og rfl (op_pick rfl rfl (by rw [h3]; rfl) rfl)) ?_
      refine rg_done rfl ?_
      refine a_condF rfl rfl ?_
      refine a_skip ?_
      show A _ _ _ _ _ _ _
      refine a_region ?_
      refine rg_put (d := 24) (v := .ow 101) rfl (og rfl (op_move rfl rfl rfl)) ?_
      refine rg_put (d := 25) (v := .d (.fl (.int .u8 (((bt s k).toNat : Int))))) rfl (og rfl (op_move rfl rfl rfl)) ?_
      refine rg_put (d := 26) (v := .d (.sl 1 (List.map (rI .u8) [((bt s k).toNat : Int), 45]))) rfl (og rfl (of_eff (op_slices rfl Tryd.underlying52 ti5 rfl rfl rfl (by kernel_rfl) (xs := [.fl (.int .u8 (((bt s k).toNat : Int))), .fl (.int .u8 45)]) rfl rfl (.cons rfl rfl (.d _) rfl rfl rfl (.cons rfl rfl (.d _) rfl rfl rfl .nil)) rfl) rfl)) ?_
      refine rg_nam (d := 27) (v := .ow 102) (m := 102) (nw := [(102, .tr 5 1 (tD (rI .u8) (((ot s k) ++ [((bt s k).toNat : Int), 45])))), (101, .no)]) rfl (og rfl (of_eff (s_append_td 102 rfl Tryd.underlying52 ti5 rfl rfl rfl rfl rfl (.d _) (by simp only [List.length_append, List.length_cons, List.length_nil]; omega) rfl) rfl)) rfl ?_
      refine rg_put (d := 3) (v := .ow 102) rfl (og rfl (op_assign rfl rfl rfl)) ?_
      refine rg_done rfl ?_
      show A _ _ _ _ _ _ _
      refine a_region ?_
      refine rg_put (d := 11) (v := .d (.fl (.int .i64 (k : Int)))) rfl (og rfl (op_move rfl rfl rfl)) ?_
      refine rg_put (d := 12) (v := .d (.fl (.int .i64 (((k : Int) + 1))))) rfl (og rfl (op_bin rfl rfl rfl (fun x y w => b_add64 _ _ _ x y w (by omega)) rfl)) ?_
      refine rg_put (d := 4) (v := .d (.fl (.int .i64 (((k : Int) + 1))))) rfl (og rfl (op_assign rfl rfl rfl)) ?_
      refine rg_done rfl ?_
      have hlo : lo (bt s k) = ((bt s k).toNat : Int) := if_neg (by omega)
      have hst := ot_next (s := s) (k := k) (by omega)
      rw [hlo] at hst
      have hst := hst.symm
      show ∃ i, _ ∧ _ ∧ Imp _ _ _ _ _
      refine ⟨k + 1, (by omega), by omega, imp_ren (fun m => bif Nat.beq m 101 then 102 else m) rfl ⟨rfl, rfl, (by first | rfl | exact ci (by omega)), rfl, trivial⟩ ⟨(congrArg (fun z => Ob.tr 5 1 (tD (rI .u8) z)) hst), trivial⟩⟩
    · skip
      have h5 := t_dec h3
      refine rg_put (d := 19) (v := .d (.fl (.int .u8 (((bt s k).toNat : Int))))) rfl (oy rfl rfl rfl h3 (op_move rfl rfl rfl)) ?_
      refine rg_put (d := 20) (v := .d (.fl (.bool ((decide (((bt s k).toNat : Int) ≤ 90)))))) rfl (oy rfl rfl rfl h3 (op_bin rfl rfl rfl (b_leq _ _ _ _) rfl)) ?_
      refine rg_put (d := 21) (v := .d (.fl (.bool ((decide (((bt s k).toNat : Int) ≤ 90)))))) rfl (og rfl (op_pick rfl rfl (by rw [h3]; rfl) rfl)) ?_
      refine rg_done rfl ?_
      refine a_cond rfl (fun h6 => ?_) (fun h6 => ?_)
      · skip
        have h7 := t_dec h6
        refine a_region ?_
        refine rg_put (d := 22) (v := .d (.fl (.int .u8 (((bt s k).toNat : Int))))) rfl (og rfl (op_move rfl rfl rfl)) ?_
        refine rg_put (d := 23) (v := .d (.fl (.int .u8 ((IntKind.u8.wrap ((((bt s k).toNat : Int)) + 32)))))) rfl (og rfl (op_bin rfl rfl rfl (b_add _ _ _ _) rfl)) ?_
        refine rg_put (d := 5) (v := .d (.fl (.int .u8 ((IntKind.u8.wrap ((((bt s k).toNat : Int)) + 32)))))) rfl (og rfl (op_assign rfl rfl rfl)) ?_
        refine rg_done rfl ?_
        show A _ _ _ _ _ _ _
        refine a_region ?_
        refine rg_put (d := 24) (v := .ow 101) rfl (og rfl (op_move rfl rfl rfl)) ?_
        refine rg_put (d := 25) (v := .d (.fl (.int .u8 ((IntKind.u8.wrap ((((bt s k).toNat : Int)) + 32)))))) rfl (og rfl (op_move rfl rfl rfl)) ?_
        refine rg_put (d := 26) (v := .d (.sl 1 (List.map (rI .u8) [(IntKind.u8.wrap ((((bt s k).toNat : Int)) + 32)), 45]))) rfl (og rfl (of_eff (op_slices rfl Tryd.underlying52 ti5 rfl rfl rfl (by kernel_rfl) (xs := [.fl (.int .u8 ((IntKind.u8.wrap ((((bt s k).toNat : Int)) + 32)))), .fl (.int .u8 45)]) rfl rfl (.cons rfl rfl (.d _) rfl rfl rfl (.cons rfl rfl (.d _) rfl rfl rfl .nil)) rfl) rfl)) ?_
        refine rg_nam (d := 27) (v := .ow 103) (m := 103) (nw := [(103, .tr 5 1 (tD (rI .u8) (((ot s k) ++ [(IntKind.u8.wrap ((((bt s k).toNat : Int)) + 32)), 45])))), (101, .no)]) rfl (og rfl (of_eff (s_append_td 103 rfl Tryd.underlying52 ti5 rfl rfl rfl rfl rfl (.d _) (by simp only [List.length_append, List.length_cons, List.length_nil]; omega) rfl) rfl)) rfl ?_
        refine rg_put (d := 3) (v := .ow 103) rfl (og rfl (op_assign rfl rfl rfl)) ?_
        refine rg_done rfl ?_
        show A _ _ _ _ _ _ _
        refine a_region ?_
        refine rg_put (d := 11) (v := .d (.fl (.int .i64 (k : Int)))) rfl (og rfl (op_move rfl rfl rfl)) ?_
        refine rg_put (d := 12) (v := .d (.fl (.int .i64 (((k : Int) + 1))))) rfl (og rfl (op_bin rfl rfl rfl (fun x y w => b_add64 _ _ _ x y w (by omega)) rfl)) ?_
        refine rg_put (d := 4) (v := .d (.fl (.int .i64 (((k : Int) + 1))))) rfl (og rfl (op_assign rfl rfl rfl)) ?_
        refine rg_done rfl ?_
        have hlo : lo (bt s k) = IntKind.u8.wrap (((bt s k).toNat : Int) + 32) := if_pos (by omega)
        have hst := ot_next (s := s) (k := k) (by omega)
        rw [hlo] at hst
        have hst := hst.symm
        show ∃ i, _ ∧ _ ∧ Imp _ _ _ _ _
        refine ⟨k + 1, (by omega), by omega, imp_ren (fun m => bif Nat.beq m 101 then 103 else m) rfl ⟨rfl, rfl, (by first | rfl | exact ci (by omega)), rfl, trivial⟩ ⟨(congrArg (fun z => Ob.tr 5 1 (tD (rI .u8) z)) hst), trivial⟩⟩
      · skip
        have h8 := f_dec h6
        refine a_skip ?_
        show A _ _ _ _ _ _ _
        refine a_region ?_
        refine rg_put (d := 24) (v := .ow 101) rfl (og rfl (op_move rfl rfl rfl)) ?_
        refine rg_put (d := 25) (v := .d (.fl (.int .u8 (((bt s k).toNat : Int))))) rfl (og rfl (op_move rfl rfl rfl)) ?_
        refine rg_put (d := 26) (v := .d (.sl 1 (List.map (rI .u8) [((bt s k).toNat : Int), 45]))) rfl (og rfl (of_eff (op_slices rfl Tryd.underlying52 ti5 rfl rfl rfl (by kernel_rfl) (xs := [.fl (.int .u8 (((bt s k).toNat : Int))), .fl (.int .u8 45)]) rfl rfl (.cons rfl rfl (.d _) rfl rfl rfl (.cons rfl rfl (.d _) rfl rfl rfl .nil)) rfl) rfl)) ?_
        refine rg_nam (d := 27) (v := .ow 104) (m := 104) (nw := [(104, .tr 5 1 (tD (rI .u8) (((ot s k) ++ [((bt s k).toNat : Int), 45])))), (101, .no)]) rfl (og rfl (of_eff (s_append_td 104 rfl Tryd.underlying52 ti5 rfl rfl rfl rfl rfl (.d _) (by simp only [List.length_append, List.length_cons, List.length_nil]; omega) rfl) rfl)) rfl ?_
        refine rg_put (d := 3) (v := .ow 104) rfl (og rfl (op_assign rfl rfl rfl)) ?_
        refine rg_done rfl ?_
        show A _ _ _ _ _ _ _
        refine a_region ?_
        refine rg_put (d := 11) (v := .d (.fl (.int .i64 (k : Int)))) rfl (og rfl (op_move rfl rfl rfl)) ?_
        refine rg_put (d := 12) (v := .d (.fl (.int .i64 (((k : Int) + 1))))) rfl (og rfl (op_bin rfl rfl rfl (fun x y w => b_add64 _ _ _ x y w (by omega)) rfl)) ?_
        refine rg_put (d := 4) (v := .d (.fl (.int .i64 (((k : Int) + 1))))) rfl (og rfl (op_assign rfl rfl rfl)) ?_
        refine rg_done rfl ?_
        have hlo : lo (bt s k) = ((bt s k).toNat : Int) := if_neg (by omega)
        have hst := ot_next (s := s) (k := k) (by omega)
        rw [hlo] at hst
        have hst := hst.symm
        show ∃ i, _ ∧ _ ∧ Imp _ _ _ _ _
        refine ⟨k + 1, (by omega), by omega, imp_ren (fun m => bif Nat.beq m 101 then 104 else m) rfl ⟨rfl, rfl, (by first | rfl | exact ci (by omega)), rfl, trivial⟩ ⟨(congrArg (fun z => Ob.tr 5 1 (tD (rI .u8) z)) hst), trivial⟩⟩
  · skip
    have h9 := f_dec h1
    refine a_exit ?_
    show A _ _ _ _ _ _ _
    refine a_rseq ?_
    refine rg_put (d := 28) (v := .ow 101) rfl (og rfl (op_move rfl rfl rfl)) ?_
    refine rg_imp (imp_leakT 28 101 rfl rfl) ?_
    refine rg_put (d := 29) (v := .d (.fl (.string ((ibs (ot s k)))))) rfl (og rfl (op_strOf rfl Tryd.underlying52 Tryd.underlying5 Tryd.underlying9 (l := (ot s k)) rfl rfl)) ?_
    refine rg_put (d := 2) (v := .d (.fl (.string ((ibs (ot s k)))))) rfl (og rfl (op_assign rfl rfl rfl)) ?_
    refine rg_done rfl ?_
    refine a_ret ?_
    show ∃ ds, ResL _ _ _ ds ∧ RV.of ds = _
    refine ⟨[.fl (.string ((ibs (ot s k))))], (.cons (.tmp rfl (.d _)) .nil), ?_⟩
    rw [show k = s.size from by omega]; rfl
set_option maxHeartbeats 4000000 in
set_option maxRecDepth 100000 in
theorem law3 (s : ByteArray) : CtrK Tryd.prog KK 3 [.fl (.string s)] (.d (.fl (.bool true))) := by
  refine ctrK (n := 32) (rs := #[.tmp 2]) (L := [(0, .d (.fl (.string s)))]) Tryd.func3 rfl rfl rfl rfl rfl (fun w0 U0 hG => ?_)
  refine a_rseq ?_
  refine rg_put (d := 2) (v := .d (.fl (.bool false))) rfl (og rfl (op_assign rfl rfl rfl)) ?_
  refine rg_done rfl ?_
  refine a_seq ?_
  refine a_rseq ?_
  refine rg_put (d := 7) (v := .d (.fl (.string s))) rfl (og rfl (op_move rfl rfl rfl)) ?_
  refine rg_put (d := 8) (v := .d (.fl (.int .i64 (s.size : Int)))) rfl (og rfl (op_len_str rfl Tryd.underlying9 rfl rfl)) ?_
  refine rg_put (d := 9) (v := .d (.fl (.bool ((decide (200 < (s.size : Int))))))) rfl (og rfl (op_bin rfl rfl rfl (b_gtr _ _ _ _) rfl)) ?_
  refine rg_done rfl ?_
  refine a_cond rfl (fun h1 => ?_) (fun h1 => ?_)
  · skip
    have h2 := t_dec h1
    refine a_rseq ?_
    refine rg_put (d := 10) (v := .d (.fl (.bool true))) rfl (og rfl (op_callK kkst hG rfl Tryd.func6 nm6 rfl .nil (ctrK_of alive6) rfl)) ?_
    refine rg_put (d := 2) (v := .d (.fl (.bool true))) rfl (og rfl (op_assign rfl rfl rfl)) ?_
    refine rg_done rfl ?_
    refine a_ret ?_
    show ∃ ds, ResL _ _ _ ds ∧ RV.of ds = _
    refine ⟨[.fl (.bool true)], (.cons (.tmp rfl (.d _)) .nil), ?_⟩
    rfl
  · skip
    have h3 := f_dec h1
    refine a_skip ?_
    show A _ _ _ _ _ _ _
    refine a_rseq ?_
    refine rg_put (d := 12) (v := .d (.fl (.string s))) rfl (og rfl (op_move rfl rfl rfl)) ?_
    refine rg_put (d := 13) (v := .tu [.fl (.string (nmS s)), .fl (.int .i64 (nmI s))]) rfl (og rfl (op_callK kkst hG rfl Tryd.func7 nm7 rfl (.cons rfl (.d _) .nil) ((norC s (by omega))) rfl)) ?_
    refine rg_put (d := 11) (v := .tu [.fl (.string (nmS s)), .fl (.int .i64 (nmI s))]) rfl (og rfl (op_move rfl rfl rfl)) ?_
    refine rg_put (d := 14) (v := .d (.fl (.string (nmS s)))) rfl (og rfl (op_extract rfl rfl rfl rfl)) ?_
    refine rg_put (d := 15) (v := .d (.fl (.int .i64 (nmI s)))) rfl (og rfl (op_extract rfl rfl rfl rfl)) ?_
    refine rg_put (d := 3) (v := .d (.fl (.string (nmS s)))) rfl (og rfl (op_assign rfl rfl rfl)) ?_
    refine rg_put (d := 4) (v := .d (.fl (.int .i64 (nmI s)))) rfl (og rfl (op_assign rfl rfl rfl)) ?_
    refine rg_done rfl ?_
    refine a_rseq ?_
    refine rg_put (d := 17) (v := .d (.fl (.string s))) rfl (og rfl (op_move rfl rfl rfl)) ?_
    refine rg_put (d := 18) (v := .tu [.fl (.string (nmS s)), .fl (.int .i64 (nmI s))]) rfl (og rfl (op_callK kkst hG rfl Tryd.func8 nm8 rfl (.cons rfl (.d _) .nil) ((ctrK_of (norR s (by omega)))) rfl)) ?_
    refine rg_put (d := 16) (v := .tu [.fl (.string (nmS s)), .fl (.int .i64 (nmI s))]) rfl (og rfl (op_move rfl rfl rfl)) ?_
    refine rg_put (d := 19) (v := .d (.fl (.string (nmS s)))) rfl (og rfl (op_extract rfl rfl rfl rfl)) ?_
    refine rg_put (d := 20) (v := .d (.fl (.int .i64 (nmI s)))) rfl (og rfl (op_extract rfl rfl rfl rfl)) ?_
    refine rg_put (d := 5) (v := .d (.fl (.string (nmS s)))) rfl (og rfl (op_assign rfl rfl rfl)) ?_
    refine rg_put (d := 6) (v := .d (.fl (.int .i64 (nmI s)))) rfl (og rfl (op_assign rfl rfl rfl)) ?_
    refine rg_done rfl ?_
    refine a_rseq ?_
    refine rg_put (d := 21) (v := .d (.fl (.int .i64 (nmI s)))) rfl (og rfl (op_move rfl rfl rfl)) ?_
    refine rg_put (d := 22) (v := .d (.fl (.int .i64 (nmI s)))) rfl (og rfl (op_move rfl rfl rfl)) ?_
    refine rg_put (d := 23) (v := .d (.fl (.bool (((nmI s) == (nmI s)))))) rfl (og rfl (op_bin rfl rfl rfl (b_eql _ _ _ _) rfl)) ?_
    refine rg_put (d := 24) (v := .d (.fl (.bool (((nmI s) == (nmI s)))))) rfl (og rfl (op_move rfl rfl rfl)) ?_
    refine rg_put (d := 25) (v := .d (.fl (.string (nmS s)))) rfl (oy rfl rfl rfl (beq_self_eq_true _) (op_move rfl rfl rfl)) ?_
    refine rg_put (d := 26) (v := .d (.fl (.string (nmS s)))) rfl (oy rfl rfl rfl (beq_self_eq_true _) (op_move rfl rfl rfl)) ?_
    refine rg_put (d := 27) (v := .d (.fl (.bool ((sEq (nmS s) (nmS s)))))) rfl (oy rfl rfl rfl (beq_self_eq_true _) (op_bin rfl rfl rfl (b_seq _ _ _) rfl)) ?_
    refine rg_put (d := 28) (v := .d (.fl (.bool ((sEq (nmS s) (nmS s)))))) rfl (og rfl (op_pick rfl rfl (by rw [(beq_self_eq_true _)]; rfl) rfl)) ?_
    refine rg_put (d := 29) (v := .d (.fl (.bool ((sEq (nmS s) (nmS s)))))) rfl (og rfl (op_move rfl rfl rfl)) ?_
    refine rg_put (d := 30) (v := .d (.fl (.bool true))) rfl (oy rfl rfl rfl (eq_self_s _) (op_callK kkst hG rfl Tryd.func6 nm6 rfl .nil (ctrK_of alive6) rfl)) ?_
    refine rg_put (d := 31) (v := .d (.fl (.bool true))) rfl (og rfl (op_pick rfl rfl (by rw [(eq_self_s _)]; rfl) rfl)) ?_
    refine rg_put (d := 2) (v := .d (.fl (.bool true))) rfl (og rfl (op_assign rfl rfl rfl)) ?_
    refine rg_done rfl ?_
    refine a_ret ?_
    show ∃ ds, ResL _ _ _ ds ∧ RV.of ds = _
    refine ⟨[.fl (.bool true)], (.cons (.tmp rfl (.d _)) .nil), ?_⟩
    rfl
set_option maxHeartbeats 4000000 in
set_option maxRecDepth 100000 in
theorem law4 (s : ByteArray) : CtrK Tryd.prog KK 4 [.fl (.string s)] (.d (.fl (.bool true))) := by
  refine ctrK (n := 69) (rs := #[.tmp 2]) (L := [(0, .d (.fl (.string s)))]) Tryd.func4 rfl rfl rfl rfl rfl (fun w0 U0 hG => ?_)
  refine a_rseq ?_
  refine rg_put (d := 2) (v := .d (.fl (.bool false))) rfl (og rfl (op_assign rfl rfl rfl)) ?_
  refine rg_done rfl ?_
  refine a_seq ?_
  refine a_rseq ?_
  refine rg_put (d := 9) (v := .d (.fl (.string s))) rfl (og rfl (op_move rfl rfl rfl)) ?_
  refine rg_put (d := 10) (v := .d (.fl (.int .i64 (s.size : Int)))) rfl (og rfl (op_len_str rfl Tryd.underlying9 rfl rfl)) ?_
  refine rg_put (d := 11) (v := .d (.fl (.bool ((decide (200 < (s.size : Int))))))) rfl (og rfl (op_bin rfl rfl rfl (b_gtr _ _ _ _) rfl)) ?_
  refine rg_done rfl ?_
  refine a_cond rfl (fun h1 => ?_) (fun h1 => ?_)
  · skip
    have h2 := t_dec h1
    refine a_rseq ?_
    refine rg_put (d := 12) (v := .d (.fl (.bool true))) rfl (og rfl (op_callK kkst hG rfl Tryd.func6 nm6 rfl .nil (ctrK_of alive6) rfl)) ?_
    refine rg_put (d := 2) (v := .d (.fl (.bool true))) rfl (og rfl (op_assign rfl rfl rfl)) ?_
    refine rg_done rfl ?_
    refine a_ret ?_
    show ∃ ds, ResL _ _ _ ds ∧ RV.of ds = _
    refine ⟨[.fl (.bool true)], (.cons (.tmp rfl (.d _)) .nil), ?_⟩
    rfl
  · skip
    have h3 := f_dec h1
    refine a_skip ?_
    show A _ _ _ _ _ _ _
    refine a_rseq ?_
    refine rg_put (d := 14) (v := .d (.fl (.string s))) rfl (og rfl (op_move rfl rfl rfl)) ?_
    refine rg_put (d := 15) (v := .tu [.fl (.string (nmS s)), .fl (.int .i64 (nmI s))]) rfl (og rfl (op_callK kkst hG rfl Tryd.func7 nm7 rfl (.cons rfl (.d _) .nil) ((norC s (by omega))) rfl)) ?_
    refine rg_put (d := 13) (v := .tu [.fl (.string (nmS s)), .fl (.int .i64 (nmI s))]) rfl (og rfl (op_move rfl rfl rfl)) ?_
    refine rg_put (d := 16) (v := .d (.fl (.string (nmS s)))) rfl (og rfl (op_extract rfl rfl rfl rfl)) ?_
    refine rg_put (d := 17) (v := .d (.fl (.int .i64 (nmI s)))) rfl (og rfl (op_extract rfl rfl rfl rfl)) ?_
    refine rg_put (d := 3) (v := .d (.fl (.string (nmS s)))) rfl (og rfl (op_assign rfl rfl rfl)) ?_
    refine rg_put (d := 4) (v := .d (.fl (.int .i64 (nmI s)))) rfl (og rfl (op_assign rfl rfl rfl)) ?_
    refine rg_done rfl ?_
    refine a_seq ?_
    refine a_rseq ?_
    refine rg_put (d := 18) (v := .d (.fl (.int .i64 (nmI s)))) rfl (og rfl (op_move rfl rfl rfl)) ?_
    refine rg_put (d := 19) (v := .d (.fl (.bool (((nmI s) != 0))))) rfl (og rfl (op_bin rfl rfl rfl (b_neq _ _ _ _) rfl)) ?_
    refine rg_done rfl ?_
    refine a_cond rfl (fun h4 => ?_) (fun h4 => ?_)
    · skip
      have h5 := t_bne h4
      refine a_rseq ?_
      have hg := nmI_ne h4
      obtain ⟨g1, g2⟩ := nm_f hg
      rw [g1, g2]
      refine rg_put (d := 20) (v := .d (.fl (.string (⟨#[]⟩ : ByteArray)))) rfl (og rfl (op_move rfl rfl rfl)) ?_
      refine rg_put (d := 21) (v := .d (.fl (.bool ((sEq (⟨#[]⟩ : ByteArray) (⟨#[]⟩)))))) rfl (og rfl (op_bin rfl rfl rfl (b_seq _ _ _) rfl)) ?_
      refine rg_put (d := 22) (v := .d (.fl (.bool ((sEq (⟨#[]⟩ : ByteArray) (⟨#[]⟩)))))) rfl (og rfl (op_move rfl rfl rfl)) ?_
      refine rg_put (d := 23) (v := .d (.fl (.int .i64 (19 : Int)))) rfl (oy rfl rfl rfl (eq_self_s _) (op_move rfl rfl rfl)) ?_
      refine rg_put (d := 24) (v := .d (.fl (.bool (((19 : Int) == 19))))) rfl (oy rfl rfl rfl (eq_self_s _) (op_bin rfl rfl rfl (b_eql _ _ _ _) rfl)) ?_
      refine rg_put (d := 25) (v := .d (.fl (.bool (((19 : Int) == 19))))) rfl (og rfl (op_pick rfl rfl (by rw [(eq_self_s _)]; rfl) rfl)) ?_
      refine rg_put (d := 26) (v := .d (.fl (.bool (((19 : Int) == 19))))) rfl (og rfl (op_move rfl rfl rfl)) ?_
      refine rg_put (d := 27) (v := .d (.fl (.bool true))) rfl (oy rfl rfl rfl (eq_self_b _) (op_callK kkst hG rfl Tryd.func6 nm6 rfl .nil (ctrK_of alive6) rfl)) ?_
      refine rg_put (d := 28) (v := .d (.fl (.bool true))) rfl (og rfl (op_pick rfl rfl (by rw [(eq_self_b _)]; rfl) rfl)) ?_
      refine rg_put (d := 2) (v := .d (.fl (.bool true))) rfl (og rfl (op_assign rfl rfl rfl)) ?_
      refine rg_done rfl ?_
      refine a_ret ?_
      show ∃ ds, ResL _ _ _ ds ∧ RV.of ds = _
      refine ⟨[.fl (.bool true)], (.cons (.tmp rfl (.d _)) .nil), ?_⟩
      rfl
    · skip
      have h6 := f_bne h4
      refine a_skip ?_
      show A _ _ _ _ _ _ _
      refine a_rseq ?_
      have hg := nmI_eq h4
      obtain ⟨ha1, ha2⟩ := ag_good hg
      obtain ⟨ho1, ho2⟩ := ot_good hg
      obtain ⟨hz1, hz2⟩ := nmS_len hg
      have hol := otS_len (nmS s)
      refine rg_put (d := 30) (v := .d (.fl (.string (nmS s)))) rfl (og rfl (op_move rfl rfl rfl)) ?_
      refine rg_put (d := 31) (v := .tu [.fl (.string ((nmS (nmS s)))), .fl (.int .i64 ((nmI (nmS s))))]) rfl (og rfl (op_callK kkst hG rfl Tryd.func7 nm7 rfl (.cons rfl (.d _) .nil) ((norC (nmS s) (by omega))) rfl)) ?_
      refine rg_put (d := 29) (v := .tu [.fl (.string ((nmS (nmS s)))), .fl (.int .i64 ((nmI (nmS s))))]) rfl (og rfl (op_move rfl rfl rfl)) ?_
      refine rg_put (d := 32) (v := .d (.fl (.string ((nmS (nmS s)))))) rfl (og rfl (op_extract rfl rfl rfl rfl)) ?_
      refine rg_put (d := 33) (v := .d (.fl (.int .i64 ((nmI (nmS s)))))) rfl (og rfl (op_extract rfl rfl rfl rfl)) ?_
      refine rg_put (d := 5) (v := .d (.fl (.string ((nmS (nmS s)))))) rfl (og rfl (op_assign rfl rfl rfl)) ?_
      refine rg_put (d := 6) (v := .d (.fl (.int .i64 ((nmI (nmS s)))))) rfl (og rfl (op_assign rfl rfl rfl)) ?_
      refine rg_done rfl ?_
      refine a_rseq ?_
      refine rg_put (d := 35) (v := .d (.fl (.string (nmS s)))) rfl (og rfl (op_move rfl rfl rfl)) ?_
      refine rg_put (d := 36) (v := .d (.fl (.string ((otS (nmS s)))))) rfl (og rfl (op_callK kkst hG rfl Tryd.func9 nm9 rfl (.cons rfl (.d _) .nil) ((ctrK_of (othC (nmS s) (by omega)))) rfl)) ?_
      refine rg_put (d := 37) (v := .tu [.fl (.string ((nmS (otS (nmS s))))), .fl (.int .i64 ((nmI (otS (nmS s)))))]) rfl (og rfl (op_callK kkst hG rfl Tryd.func7 nm7 rfl (.cons rfl (.d _) .nil) ((norC (otS (nmS s)) (by omega))) rfl)) ?_
      refine rg_put (d := 34) (v := .tu [.fl (.string ((nmS (otS (nmS s))))), .fl (.int .i64 ((nmI (otS (nmS s)))))]) rfl (og rfl (op_move rfl rfl rfl)) ?_
      refine rg_put (d := 38) (v := .d (.fl (.string ((nmS (otS (nmS s))))))) rfl (og rfl (op_extract rfl rfl rfl rfl)) ?_
      refine rg_put (d := 39) (v := .d (.fl (.int .i64 ((nmI (otS (nmS s))))))) rfl (og rfl (op_extract rfl rfl rfl rfl)) ?_
      refine rg_put (d := 7) (v := .d (.fl (.string ((nmS (otS (nmS s))))))) rfl (og rfl (op_assign rfl rfl rfl)) ?_
      refine rg_put (d := 8) (v := .d (.fl (.int .i64 ((nmI (otS (nmS s))))))) rfl (og rfl (op_assign rfl rfl rfl)) ?_
      refine rg_done rfl ?_
      refine a_rseq ?_
      rw [ha2, ho2, (nm_t ha1).2, (nm_t ho1).2]
      refine rg_put (d := 40) (v := .d (.fl (.int .i64 (0 : Int)))) rfl (og rfl (op_move rfl rfl rfl)) ?_
      refine rg_put (d := 41) (v := .d (.fl (.bool (((0 : Int) == 0))))) rfl (og rfl (op_bin rfl rfl rfl (b_eql _ _ _ _) rfl)) ?_
      refine rg_put (d := 42) (v := .d (.fl (.bool (((0 : Int) == 0))))) rfl (og rfl (op_move rfl rfl rfl)) ?_
      refine rg_put (d := 43) (v := .d (.fl (.string (nmS s)))) rfl (oy rfl rfl rfl (eq_self_b _) (op_move rfl rfl rfl)) ?_
      refine rg_put (d := 44) (v := .d (.fl (.string (nmS s)))) rfl (oy rfl rfl rfl (eq_self_b _) (op_move rfl rfl rfl)) ?_
      refine rg_put (d := 45) (v := .d (.fl (.bool ((sEq (nmS s) (nmS s)))))) rfl (oy rfl rfl rfl (eq_self_b _) (op_bin rfl rfl rfl (b_seq _ _ _) rfl)) ?_
      refine rg_put (d := 46) (v := .d (.fl (.bool ((sEq (nmS s) (nmS s)))))) rfl (og rfl (op_pick rfl rfl (by rw [(eq_self_b _)]; rfl) rfl)) ?_
      refine rg_put (d := 47) (v := .d (.fl (.bool ((sEq (nmS s) (nmS s)))))) rfl (og rfl (op_move rfl rfl rfl)) ?_
      refine rg_put (d := 48) (v := .d (.fl (.int .i64 (0 : Int)))) rfl (oy rfl rfl rfl (eq_self_s _) (op_move rfl rfl rfl)) ?_
      refine rg_put (d := 49) (v := .d (.fl (.bool (((0 : Int) == 0))))) rfl (oy rfl rfl rfl (eq_self_s _) (op_bin rfl rfl rfl (b_eql _ _ _ _) rfl)) ?_
      refine rg_put (d := 50) (v := .d (.fl (.bool (((0 : Int) == 0))))) rfl (og rfl (op_pick rfl rfl (by rw [(eq_self_s _)]; rfl) rfl)) ?_
      refine rg_put (d := 51) (v := .d (.fl (.bool (((0 : Int) == 0))))) rfl (og rfl (op_move rfl rfl rfl)) ?_
      refine rg_put (d := 52) (v := .d (.fl (.string (nmS s)))) rfl (oy rfl rfl rfl (eq_self_b _) (op_move rfl rfl rfl)) ?_
      refine rg_put (d := 53) (v := .d (.fl (.string (nmS s)))) rfl (oy rfl rfl rfl (eq_self_b _) (op_move rfl rfl rfl)) ?_
      refine rg_put (d := 54) (v := .d (.fl (.bool ((sEq (nmS s) (nmS s)))))) rfl (oy rfl rfl rfl (eq_self_b _) (op_bin rfl rfl rfl (b_seq _ _ _) rfl)) ?_
      refine rg_put (d := 55) (v := .d (.fl (.bool ((sEq (nmS s) (nmS s)))))) rfl (og rfl (op_pick rfl rfl (by rw [(eq_self_b _)]; rfl) rfl)) ?_
      refine rg_put (d := 56) (v := .d (.fl (.bool ((sEq (nmS s) (nmS s)))))) rfl (og rfl (op_move rfl rfl rfl)) ?_
      refine rg_put (d := 57) (v := .d (.fl (.string (nmS s)))) rfl (oy rfl rfl rfl (eq_self_s _) (op_move rfl rfl rfl)) ?_
      refine rg_put (d := 58) (v := .d (.fl (.int .i64 (((nmS s).size : Int))))) rfl (oy rfl rfl rfl (eq_self_s _) (op_len_str rfl Tryd.underlying9 rfl rfl)) ?_
      refine rg_put (d := 59) (v := .d (.fl (.bool ((decide (2 ≤ ((nmS s).size : Int))))))) rfl (oy rfl rfl rfl (eq_self_s _) (op_bin rfl rfl rfl (b_geq _ _ _ _) rfl)) ?_
      refine rg_put (d := 60) (v := .d (.fl (.bool ((decide (2 ≤ ((nmS s).size : Int))))))) rfl (og rfl (op_pick rfl rfl (by rw [(eq_self_s _)]; rfl) rfl)) ?_
      refine rg_put (d := 61) (v := .d (.fl (.bool ((decide (2 ≤ ((nmS s).size : Int))))))) rfl (og rfl (op_move rfl rfl rfl)) ?_
      rcases fot ((decide (2 ≤ ((nmS s).size : Int)))) with h7 | h7
      · skip
        have h8 := f_dec h7
        refine rg_put (d := 62) (v := .d (.fl undef)) rfl (on rfl rfl rfl h7) ?_
        refine rg_put (d := 63) (v := .d (.fl undef)) rfl (on rfl rfl rfl h7) ?_
        refine rg_put (d := 64) (v := .d (.fl undef)) rfl (on rfl rfl rfl h7) ?_
        refine rg_put (d := 65) (v := .d (.fl (.bool false))) rfl (og rfl (op_pick rfl rfl (by rw [h7]; rfl) rfl)) ?_
        refine rg_put (d := 66) (v := .d (.fl (.bool false))) rfl (og rfl (op_move rfl rfl rfl)) ?_
        refine rg_put (d := 67) (v := .d (.fl undef)) rfl (on rfl rfl rfl rfl) ?_
        refine rg_put (d := 68) (v := .d (.fl (.bool false))) rfl (og rfl (op_pick rfl rfl rfl rfl)) ?_
        refine rg_put (d := 2) (v := .d (.fl (.bool false))) rfl (og rfl (op_assign rfl rfl rfl)) ?_
        refine rg_done rfl ?_
        refine a_ret ?_
        show ∃ ds, ResL _ _ _ ds ∧ RV.of ds = _
        refine ⟨[.fl (.bool false)], (.cons (.tmp rfl (.d _)) .nil), ?_⟩
        exfalso; omega
      · skip
        have h9 := t_dec h7
        refine rg_put (d := 62) (v := .d (.fl (.string (nmS s)))) rfl (oy rfl rfl rfl h7 (op_move rfl rfl rfl)) ?_
        refine rg_put (d := 63) (v := .d (.fl (.int .i64 (((nmS s).size : Int))))) rfl (oy rfl rfl rfl h7 (op_len_str rfl Tryd.underlying9 rfl rfl)) ?_
        refine rg_put (d := 64) (v := .d (.fl (.bool ((decide (((nmS s).size : Int) ≤ 10)))))) rfl (oy rfl rfl rfl h7 (op_bin rfl rfl rfl (b_leq _ _ _ _) rfl)) ?_
        refine rg_put (d := 65) (v := .d (.fl (.bool ((decide (((nmS s).size : Int) ≤ 10)))))) rfl (og rfl (op_pick rfl rfl (by rw [h7]; rfl) rfl)) ?_
        refine rg_put (d := 66) (v := .d (.fl (.bool ((decide (((nmS s).size : Int) ≤ 10)))))) rfl (og rfl (op_move rfl rfl rfl)) ?_
        rcases fot ((decide (((nmS s).size : Int) ≤ 10))) with h10 | h10
        · skip
          have h11 := f_dec h10
          refine rg_put (d := 67) (v := .d (.fl undef)) rfl (on rfl rfl rfl h10) ?_
          refine rg_put (d := 68) (v := .d (.fl (.bool false))) rfl (og rfl (op_pick rfl rfl (by rw [h10]; rfl) rfl)) ?_
          refine rg_put (d := 2) (v := .d (.fl (.bool false))) rfl (og rfl (op_assign rfl rfl rfl)) ?_
          refine rg_done rfl ?_
          refine a_ret ?_
          show ∃ ds, ResL _ _ _ ds ∧ RV.of ds = _
          refine ⟨[.fl (.bool false)], (.cons (.tmp rfl (.d _)) .nil), ?_⟩
          exfalso; omega
        · skip
          have h12 := t_dec h10
          refine rg_put (d := 67) (v := .d (.fl (.bool true))) rfl (oy rfl rfl rfl h10 (op_callK kkst hG rfl Tryd.func6 nm6 rfl .nil (ctrK_of alive6) rfl)) ?_
          refine rg_put (d := 68) (v := .d (.fl (.bool true))) rfl (og rfl (op_pick rfl rfl (by rw [h10]; rfl) rfl)) ?_
          refine rg_put (d := 2) (v := .d (.fl (.bool true))) rfl (og rfl (op_assign rfl rfl rfl)) ?_
          refine rg_done rfl ?_
          refine a_ret ?_
          show ∃ ds, ResL _ _ _ ds ∧ RV.of ds = _
          refine ⟨[.fl (.bool true)], (.cons (.tmp rfl (.d _)) .nil), ?_⟩
          rfl
end Go.Proofs.YtgelodnkfajgjaaDoor.Wk
