/- Distances, the other side. Conditions: as each theorem names them. -/
import Derived.Test.YtldglchpaookiaaDoorB2
set_option linter.unusedSimpArgs false
set_option linter.unusedVariables false
namespace Go.Proofs.YtldglchpaookiaaDoor.Wk
open Go Go.RowKit Go.Proofs.YtldglchpaookiaaDoor.Av
theorem rg_one {f : Nat → Int} {v : Int} (h : f 0 = v) : [v] = rg (0 + 1) f := by subst h; rfl
theorem hd_hd (s : ByteArray) : hd (hd s) = hd s := by
  have h := hd_sz s
  show (if 32 < (hd s).size then (hd s).extract 0 32 else hd s) = hd s
  rw [if_neg (by omega)]
def sm (a b : ByteArray) : Bool := decide (dst a b ≤ 2)
theorem dst_hd (a b : ByteArray) : dst (hd a) (hd b) = dst a b := by unfold dst; rw [hd_hd, hd_hd]
set_option maxHeartbeats 4000000 in
set_option maxRecDepth 100000 in
theorem dsD (a b : ByteArray) (ha : a.size ≤ 60) (hb : b.size ≤ 60) : Ctr Tryd.prog 16 [.fl (.string a), .fl (.string b)] (.d (.fl (.int .i64 (dst a b)))) := by
  refine ctr (n := 9) (rs := #[.tmp 4]) (L := [(0, .d (.fl (.string a))), (1, .d (.fl (.string b)))]) Tryd.func16 rfl rfl rfl rfl rfl (fun w0 U0 => ?_)
  refine a_rseq ?_
  refine rg_put (d := 4) (v := .d (.fl (.int .i64 0))) rfl (og rfl (op_assign rfl rfl rfl)) ?_
  refine rg_done rfl ?_
  refine a_rseq ?_
  refine rg_put (d := 5) (v := .d (.mp CMD)) rfl (og rfl (op_call rfl Tryd.func30 nm30 rfl .nil cm30 rfl)) ?_
  refine rg_put (d := 6) (v := .d (.fl (.string a))) rfl (og rfl (op_move rfl rfl rfl)) ?_
  refine rg_put (d := 7) (v := .d (.fl (.string b))) rfl (og rfl (op_move rfl rfl rfl)) ?_
  refine rg_put (d := 8) (v := .d (.fl (.int .i64 (dst a b)))) rfl (og rfl (op_call rfl Tryd.func32 nm32 rfl (.cons rfl (.d _) (.cons rfl (.d _) (.cons rfl (.d _) .nil))) (dsP a b (by omega) (by omega)) rfl)) ?_
  refine rg_put (d := 4) (v := .d (.fl (.int .i64 (dst a b)))) rfl (og rfl (op_assign rfl rfl rfl)) ?_
  refine rg_done rfl ?_
  refine a_ret ?_
  show ∃ ds, ResL _ _ _ ds ∧ RV.of ds = _
  refine ⟨[.fl (.int .i64 (dst a b))], (.cons (.tmp rfl (.d _)) .nil), ?_⟩
  rfl
set_option maxHeartbeats 4000000 in
set_option maxRecDepth 100000 in
theorem lea (p q : Int) : Ctr Tryd.prog 34 [.fl (.int .i64 p), .fl (.int .i64 q)] (.d (.fl (.int .i64 (min p q)))) := by
  refine ctr (n := 10) (rs := #[.tmp 4]) (L := [(0, .d (.fl (.int .i64 p))), (1, .d (.fl (.int .i64 q)))]) Tryd.func34 rfl rfl rfl rfl rfl (fun w0 U0 => ?_)
  refine a_rseq ?_
  refine rg_put (d := 4) (v := .d (.fl (.int .i64 0))) rfl (og rfl (op_assign rfl rfl rfl)) ?_
  refine rg_done rfl ?_
  refine a_seq ?_
  refine a_rseq ?_
  refine rg_put (d := 5) (v := .d (.fl (.int .i64 p))) rfl (og rfl (op_move rfl rfl rfl)) ?_
  refine rg_put (d := 6) (v := .d (.fl (.int .i64 q))) rfl (og rfl (op_move rfl rfl rfl)) ?_
  refine rg_put (d := 7) (v := .d (.fl (.bool ((decide (p < q)))))) rfl (og rfl (op_bin rfl rfl rfl (b_lss _ _ _ _) rfl)) ?_
  refine rg_done rfl ?_
  refine a_cond rfl (fun h1 => ?_) (fun h1 => ?_)
  · skip
    have h2 := t_dec h1
    refine a_rseq ?_
    refine rg_put (d := 8) (v := .d (.fl (.int .i64 p))) rfl (og rfl (op_move rfl rfl rfl)) ?_
    refine rg_put (d := 4) (v := .d (.fl (.int .i64 p))) rfl (og rfl (op_assign rfl rfl rfl)) ?_
    refine rg_done rfl ?_
    refine a_ret ?_
    show ∃ ds, ResL _ _ _ ds ∧ RV.of ds = _
    refine ⟨[.fl (.int .i64 p)], (.cons (.tmp rfl (.d _)) .nil), ?_⟩
    have hu : min p q = p := by omega
    rw [hu]; rfl
  · skip
    have h3 := f_dec h1
    refine a_skip ?_
    show A _ _ _ _ _ _ _
    refine a_rseq ?_
    refine rg_put (d := 9) (v := .d (.fl (.int .i64 q))) rfl (og rfl (op_move rfl rfl rfl)) ?_
    refine rg_put (d := 4) (v := .d (.fl (.int .i64 q))) rfl (og rfl (op_assign rfl rfl rfl)) ?_
    refine rg_done rfl ?_
    refine a_ret ?_
    show ∃ ds, ResL _ _ _ ds ∧ RV.of ds = _
    refine ⟨[.fl (.int .i64 q)], (.cons (.tmp rfl (.d _)) .nil), ?_⟩
    have hu : min p q = q := by omega
    rw [hu]; rfl
set_option maxHeartbeats 4000000 in
set_option maxRecDepth 100000 in
theorem dsR (a b : ByteArray) (ha : a.size ≤ 60) (hb : b.size ≤ 60) : Ctr Tryd.prog 17 [.fl (.string a), .fl (.string b)] (.d (.fl (.int .i64 (dst a b)))) := by
  refine ctr (n := 89) (rs := #[.tmp 4]) (L := [(0, .d (.fl (.string a))), (1, .d (.fl (.string b)))]) Tryd.func17 rfl rfl rfl rfl rfl (fun w0 U0 => ?_)
  refine a_rseq ?_
  refine rg_put (d := 4) (v := .d (.fl (.int .i64 0))) rfl (og rfl (op_assign rfl rfl rfl)) ?_
  refine rg_done rfl ?_
  refine a_rseq ?_
  refine rg_put (d := 13) (v := .d (.fl (.string a))) rfl (og rfl (op_move rfl rfl rfl)) ?_
  refine rg_put (d := 14) (v := .d (.fl (.string (hd a)))) rfl (og rfl (op_call rfl Tryd.func33 nm33 rfl (.cons rfl (.d _) .nil) (hdR a (by omega)) rfl)) ?_
  refine rg_put (d := 15) (v := .d (.fl (.string b))) rfl (og rfl (op_move rfl rfl rfl)) ?_
  refine rg_put (d := 16) (v := .d (.fl (.string (hd b)))) rfl (og rfl (op_call rfl Tryd.func33 nm33 rfl (.cons rfl (.d _) .nil) (hdR b (by omega)) rfl)) ?_
  refine rg_put (d := 5) (v := .d (.fl (.string (hd a)))) rfl (og rfl (op_assign rfl rfl rfl)) ?_
  refine rg_put (d := 6) (v := .d (.fl (.string (hd b)))) rfl (og rfl (op_assign rfl rfl rfl)) ?_
  refine rg_done rfl ?_
  refine a_rseq ?_
  have hza := hd_sz a
  have hzb := hd_sz b
  refine rg_put (d := 7) (v := .d (.fl (.slice none 0 0))) rfl (og rfl (op_assign rfl rfl rfl)) ?_
  refine rg_done rfl ?_
  refine a_seq ?_
  refine a_rseq ?_
  refine rg_put (d := 8) (v := .d (.fl (.int .i64 0))) rfl (og rfl (op_assign rfl rfl rfl)) ?_
  refine rg_done rfl ?_
  refine a_block ?_
  refine a_loop (ι := Nat) (fun k => SS [(0, .d (.fl (.string a))), (1, .d (.fl (.string b))), (4, .d (.fl (.int .i64 0))), (5, .d (.fl (.string (hd a)))), (6, .d (.fl (.string (hd b)))), (8, .d (.fl (.int .i64 (k : Int)))), (7, .ow 700)] [(700, .tr 3 1 (tD (rI .i64) ((rg k (fun q => 3 * (q : Int))))))]) (fun k => k ≤ (hd b).size + 1) (fun k => (hd b).size + 1 - k) 0 (by omega) (Imp.trans (imp_nilT 7 700 3 1 rfl rfl) (imp_forget rfl ⟨rfl, rfl, rfl, rfl, rfl, (by first | rfl | exact ci (by omega) | exact ci (by simp) | exact cd (by simp) | simp), (by first | rfl | exact ci (by omega) | exact ci (by simp) | exact cd (by simp) | simp), trivial⟩ ⟨(by first | rfl | simp), trivial⟩)) (fun k hok => ?_)
  have hk := hok
  have hrk := rg_len k (fun q => 3 * (q : Int))
  refine a_seq ?_
  refine a_rseq ?_
  refine rg_put (d := 17) (v := .d (.fl (.int .i64 (k : Int)))) rfl (og rfl (op_move rfl rfl rfl)) ?_
  refine rg_put (d := 18) (v := .d (.fl (.string (hd b)))) rfl (og rfl (op_move rfl rfl rfl)) ?_
  refine rg_put (d := 19) (v := .d (.fl (.int .i64 (((hd b).size : Int))))) rfl (og rfl (op_len_str rfl Tryd.underlying9 rfl rfl)) ?_
  refine rg_put (d := 20) (v := .d (.fl (.bool ((decide ((k : Int) ≤ ((hd b).size : Int))))))) rfl (og rfl (op_bin rfl rfl rfl (b_leq _ _ _ _) rfl)) ?_
  refine rg_done rfl ?_
  refine a_cond rfl (fun h1 => ?_) (fun h1 => ?_)
  · skip
    have h2 := t_dec h1
    refine a_skip ?_
    show A _ _ _ _ _ _ _
    refine a_seq ?_
    refine a_block ?_
    refine a_region ?_
    refine rg_put (d := 23) (v := .ow 700) rfl (og rfl (op_move rfl rfl rfl)) ?_
    refine rg_put (d := 24) (v := .d (.fl (.int .i64 (k : Int)))) rfl (og rfl (op_move rfl rfl rfl)) ?_
    refine rg_put (d := 25) (v := .d (.fl (.int .i64 ((3 * (k : Int)))))) rfl (og rfl (op_bin rfl rfl rfl (fun x y w => b_mul64 _ _ _ x y w (by omega)) rfl)) ?_
    refine rg_put (d := 26) (v := .d (.sl 1 (List.map (rI .i64) [(3 * (k : Int))]))) rfl (og rfl (of_eff (op_slices rfl Tryd.underlying37 ti3 rfl rfl rfl (by kernel_rfl) (xs := [.fl (.int .i64 ((3 * (k : Int))))]) rfl rfl (.cons rfl rfl (.d _) rfl rfl rfl .nil) rfl) rfl)) ?_
    refine rg_nam (d := 27) (v := .ow 101) (m := 101) (nw := [(101, .tr 3 1 (tD (rI .i64) (((rg k (fun q => 3 * (q : Int))) ++ [(3 * (k : Int))])))), (700, .no)]) rfl (og rfl (of_eff (s_append_td 101 rfl Tryd.underlying37 ti3 rfl rfl rfl rfl rfl (.d _) (by simp only [List.length_append, List.length_cons, List.length_nil]; omega) rfl) rfl)) rfl ?_
    refine rg_put (d := 7) (v := .ow 101) rfl (og rfl (op_assign rfl rfl rfl)) ?_
    refine rg_done rfl ?_
    show A _ _ _ _ _ _ _
    refine a_region ?_
    refine rg_put (d := 21) (v := .d (.fl (.int .i64 (k : Int)))) rfl (og rfl (op_move rfl rfl rfl)) ?_
    refine rg_put (d := 22) (v := .d (.fl (.int .i64 (((k : Int) + 1))))) rfl (og rfl (op_bin rfl rfl rfl (fun x y w => b_add64 _ _ _ x y w (by omega)) rfl)) ?_
    refine rg_put (d := 8) (v := .d (.fl (.int .i64 (((k : Int) + 1))))) rfl (og rfl (op_assign rfl rfl rfl)) ?_
    refine rg_done rfl ?_
    show ∃ i, _ ∧ _ ∧ Imp _ _ _ _ _
    refine ⟨k + 1, (by omega), by omega, imp_ren (fun m => bif Nat.beq m 700 then 101 else m) rfl ⟨rfl, rfl, rfl, rfl, rfl, (by first | rfl | exact ci (by omega) | exact ci (by simp) | exact cd (by simp) | simp), rfl, trivial⟩ ⟨(congrArg (fun z => Ob.tr 3 1 (tD (rI .i64) z)) (rg_app k (fun q => 3 * (q : Int)) rfl)), trivial⟩⟩
  · skip
    have h3 := f_dec h1
    refine a_exit ?_
    show A _ _ _ _ _ _ _
    refine a_seq ?_
    refine a_rseq ?_
    refine rg_put (d := 9) (v := .d (.fl (.int .i64 1))) rfl (og rfl (op_assign rfl rfl rfl)) ?_
    refine rg_done rfl ?_
    refine a_block ?_
    refine a_loop (ι := Nat) (fun i => SS [(0, .d (.fl (.string a))), (1, .d (.fl (.string b))), (4, .d (.fl (.int .i64 0))), (5, .d (.fl (.string (hd a)))), (6, .d (.fl (.string (hd b)))), (8, .d (.fl (.int .i64 (k : Int)))), (20, .d (.fl (.bool ((decide ((k : Int) ≤ ((hd b).size : Int))))))), (9, .d (.fl (.int .i64 (((i + 1 : Nat) : Int))))), (7, .ow 700)] [(700, .tr 3 1 (tD (rI .i64) ((rg ((hd b).size + 1) (dd (hd a) (hd b) i)))))]) (fun i => i ≤ (hd a).size) (fun i => (hd a).size - i) 0 (by omega) (imp_forget rfl ⟨rfl, rfl, rfl, rfl, rfl, rfl, rfl, rfl, (by first | rfl | exact ci (by omega) | exact ci (by simp) | exact cd (by simp) | simp), trivial⟩ ⟨(congrArg (fun z => Ob.tr 3 1 (tD (rI .i64) z)) (by rw [show k = (hd b).size + 1 by omega]; exact rg_cong (fun q _ => by simp only [dd]))), trivial⟩) (fun i hok => ?_)
    have hki := hok
    have hrl := rg_len ((hd b).size + 1) (dd (hd a) (hd b) i)
    refine a_seq ?_
    refine a_rseq ?_
    refine rg_put (d := 28) (v := .d (.fl (.int .i64 (((i + 1 : Nat) : Int))))) rfl (og rfl (op_move rfl rfl rfl)) ?_
    refine rg_put (d := 29) (v := .d (.fl (.string (hd a)))) rfl (og rfl (op_move rfl rfl rfl)) ?_
    refine rg_put (d := 30) (v := .d (.fl (.int .i64 (((hd a).size : Int))))) rfl (og rfl (op_len_str rfl Tryd.underlying9 rfl rfl)) ?_
    refine rg_put (d := 31) (v := .d (.fl (.bool ((decide (((i + 1 : Nat) : Int) ≤ ((hd a).size : Int))))))) rfl (og rfl (op_bin rfl rfl rfl (b_leq _ _ _ _) rfl)) ?_
    refine rg_done rfl ?_
    refine a_cond rfl (fun h4 => ?_) (fun h4 => ?_)
    · skip
      have h5 := t_dec h4
      refine a_skip ?_
      show A _ _ _ _ _ _ _
      refine a_seq ?_
      refine a_block ?_
      refine a_rseq ?_
      refine rg_put (d := 34) (v := .d (.fl (.int .i64 (((i + 1 : Nat) : Int))))) rfl (og rfl (op_move rfl rfl rfl)) ?_
      refine rg_put (d := 35) (v := .d (.fl (.int .i64 ((3 * ((i + 1 : Nat) : Int)))))) rfl (og rfl (op_bin rfl rfl rfl (fun x y w => b_mul64 _ _ _ x y w (by omega)) rfl)) ?_
      refine rg_nam (d := 36) (v := .ow 102) (m := 102) (nw := [(102, .tr 3 1 (tD (rI .i64) [(3 * ((i + 1 : Nat) : Int))]))]) rfl (og rfl (of_eff (of_eff (op_sliceB 102 rfl Tryd.underlying37 ti3 rfl rfl rfl (by kernel_rfl) (xs := [.fl (.int .i64 ((3 * ((i + 1 : Nat) : Int))))]) rfl rfl (.cons rfl rfl (.d _) rfl rfl rfl .nil) rfl) rfl) rfl)) rfl ?_
      refine rg_put (d := 10) (v := .ow 102) rfl (og rfl (op_assign rfl rfl rfl)) ?_
      refine rg_done rfl ?_
      refine a_seq ?_
      refine a_rseq ?_
      refine rg_put (d := 11) (v := .d (.fl (.int .i64 1))) rfl (og rfl (op_assign rfl rfl rfl)) ?_
      refine rg_done rfl ?_
      refine a_block ?_
      refine a_loop (ι := Nat) (fun j => SS [(0, .d (.fl (.string a))), (1, .d (.fl (.string b))), (4, .d (.fl (.int .i64 0))), (5, .d (.fl (.string (hd a)))), (6, .d (.fl (.string (hd b)))), (7, .ow 700), (8, .d (.fl (.int .i64 (k : Int)))), (9, .d (.fl (.int .i64 (((i + 1 : Nat) : Int))))), (20, .d (.fl (.bool ((decide ((k : Int) ≤ ((hd b).size : Int))))))), (31, .d (.fl (.bool ((decide (((i + 1 : Nat) : Int) ≤ ((hd a).size : Int))))))), (11, .d (.fl (.int .i64 (((j + 1 : Nat) : Int))))), (10, .ow 102)] [(700, .tr 3 1 (tD (rI .i64) ((rg ((hd b).size + 1) (dd (hd a) (hd b) i))))), (102, .tr 3 1 (tD (rI .i64) ((rg (j + 1) (dd (hd a) (hd b) (i + 1))))))]) (fun j => j ≤ (hd b).size) (fun j => (hd b).size - j) 0 (by omega) (imp_forget rfl ⟨rfl, rfl, rfl, rfl, rfl, rfl, rfl, rfl, rfl, rfl, rfl, (by first | rfl | exact ci (by omega) | exact ci (by simp) | exact cd (by simp) | simp), trivial⟩ ⟨rfl, (congrArg (fun z => Ob.tr 3 1 (tD (rI .i64) z)) (rg_one (dd_0 _ _ (i + 1)))), trivial⟩) (fun j hok => ?_)
      have hkj := hok
      have hrl2 := rg_len (j + 1) (dd (hd a) (hd b) (i + 1))
      have ei : (((i + 1 : Nat) : Int) - 1).toNat = i := by omega
      have ej : (((j + 1 : Nat) : Int) - 1).toNat = j := by omega
      have b1 := dd_in (hd a) (hd b) i j
      have b2 := dd_in (hd a) (hd b) (i + 1) j
      have b3 := dd_in (hd a) (hd b) i (j + 1)
      have hby := UInt8.toNat_lt (bt (hd b) (((j + 1 : Nat) : Int) - 1).toNat)
      refine a_seq ?_
      refine a_rseq ?_
      refine rg_put (d := 37) (v := .d (.fl (.int .i64 (((j + 1 : Nat) : Int))))) rfl (og rfl (op_move rfl rfl rfl)) ?_
      refine rg_put (d := 38) (v := .d (.fl (.string (hd b)))) rfl (og rfl (op_move rfl rfl rfl)) ?_
      refine rg_put (d := 39) (v := .d (.fl (.int .i64 (((hd b).size : Int))))) rfl (og rfl (op_len_str rfl Tryd.underlying9 rfl rfl)) ?_
      refine rg_put (d := 40) (v := .d (.fl (.bool ((decide (((j + 1 : Nat) : Int) ≤ ((hd b).size : Int))))))) rfl (og rfl (op_bin rfl rfl rfl (b_leq _ _ _ _) rfl)) ?_
      refine rg_done rfl ?_
      refine a_cond rfl (fun h6 => ?_) (fun h6 => ?_)
      · skip
        have h7 := t_dec h6
        refine a_skip ?_
        show A _ _ _ _ _ _ _
        refine a_seq ?_
        refine a_block ?_
        refine a_rseq ?_
        refine rg_put (d := 12) (v := .d (.fl (.int .i64 3))) rfl (og rfl (op_assign rfl rfl rfl)) ?_
        refine rg_done rfl ?_
        refine a_seq ?_
        refine a_dseq (by kernel_rfl) ?_
        refine dr_put (d := 43) (v := .d (.fl (.string (hd a)))) rfl (og rfl (op_move rfl rfl rfl)) ?_
        refine dr_put (d := 44) (v := .d (.fl (.int .i64 (((i + 1 : Nat) : Int))))) rfl (og rfl (op_move rfl rfl rfl)) ?_
        refine dr_put (d := 45) (v := .d (.fl (.int .i64 ((((i + 1 : Nat) : Int) - 1))))) rfl (og rfl (op_bin rfl rfl rfl (fun x y w => b_sub64 _ _ _ x y w (by omega)) rfl)) ?_
        refine dr_put (d := 46) (v := .d (.fl (.int .u8 (((bt (hd a) (((((i + 1 : Nat) : Int) - 1)).toNat)).toNat : Int))))) rfl (og rfl (op_strindex (n := (((i + 1 : Nat) : Int) - 1)) rfl Tryd.underlying9 rfl rfl (by omega) (byte_ix (k := ((((i + 1 : Nat) : Int) - 1)).toNat) (by omega)) rfl)) ?_
        refine dr_put (d := 47) (v := .d (.fl (.string (hd b)))) rfl (og rfl (op_move rfl rfl rfl)) ?_
        refine dr_put (d := 48) (v := .d (.fl (.int .i64 (((j + 1 : Nat) : Int))))) rfl (og rfl (op_move rfl rfl rfl)) ?_
        refine dr_put (d := 49) (v := .d (.fl (.int .i64 ((((j + 1 : Nat) : Int) - 1))))) rfl (og rfl (op_bin rfl rfl rfl (fun x y w => b_sub64 _ _ _ x y w (by omega)) rfl)) ?_
        refine dr_put (d := 50) (v := .d (.fl (.int .u8 (((bt (hd b) (((((j + 1 : Nat) : Int) - 1)).toNat)).toNat : Int))))) rfl (og rfl (op_strindex (n := (((j + 1 : Nat) : Int) - 1)) rfl Tryd.underlying9 rfl rfl (by omega) (byte_ix (k := ((((j + 1 : Nat) : Int) - 1)).toNat) (by omega)) rfl)) ?_
        refine dr_put (d := 51) (v := .d (.fl (.bool ((((bt (hd a) (((((i + 1 : Nat) : Int) - 1)).toNat)).toNat : Int) == ((bt (hd b) (((((j + 1 : Nat) : Int) - 1)).toNat)).toNat : Int)))))) rfl (og rfl (op_bin rfl rfl rfl (b_eql _ _ _ _) rfl)) ?_
        refine dr_done rfl (by kernel_rfl) (by kernel_rfl) ?_
        refine a_cond rfl (fun h8 => ?_) (fun h8 => ?_)
        · skip
          have h9 := t_beq h8
          refine a_region ?_
          refine rg_put (d := 12) (v := .d (.fl (.int .i64 0))) rfl (og rfl (op_assign rfl rfl rfl)) ?_
          refine rg_done rfl ?_
          show A _ _ _ _ _ _ _
          refine a_draw (by kernel_rfl) ?_
          have e1h : ix (rg ((hd b).size + 1) (dd (hd a) (hd b) i)) (((j + 1 : Nat) : Int) - 1).toNat = dd (hd a) (hd b) i j := by rw [ej]; exact rg_ix (by omega)
          have e2h : ix (rg ((hd b).size + 1) (dd (hd a) (hd b) i)) (j + 1) = dd (hd a) (hd b) i (j + 1) := rg_ix (by omega)
          have e3h : ix (rg (j + 1) (dd (hd a) (hd b) (i + 1))) (((j + 1 : Nat) : Int) - 1).toNat = dd (hd a) (hd b) (i + 1) j := by rw [ej]; exact rg_ix (by omega)
          refine dr_put (d := 61) (v := .ow 102) rfl (og rfl (op_move rfl rfl rfl)) ?_
          refine dr_put (d := 62) (v := .ow 700) rfl (og rfl (op_move rfl rfl rfl)) ?_
          refine dr_put (d := 63) (v := .d (.fl (.int .i64 (((j + 1 : Nat) : Int))))) rfl (og rfl (op_move rfl rfl rfl)) ?_
          refine dr_put (d := 64) (v := .d (.fl (.int .i64 ((((j + 1 : Nat) : Int) - 1))))) rfl (og rfl (op_bin rfl rfl rfl (fun x y w => b_sub64 _ _ _ x y w (by omega)) rfl)) ?_
          refine dr_put (d := 65) (v := .pe 700 1 (((((j + 1 : Nat) : Int) - 1)).toNat) 0) rfl (og rfl (op_index_trI rfl Tryd.underlying37 ti3 rfl rfl rfl (by omega) (get_lt (tD_at (by omega))) rfl)) ?_
          refine dr_put (d := 66) (v := .d (.fl (.int .i64 ((ix ((rg ((hd b).size + 1) (dd (hd a) (hd b) i))) (((((j + 1 : Nat) : Int) - 1)).toNat)))))) rfl (og rfl (of_eff (op_load_pe rfl Tryd.underlying3 rfl rfl rfl (tD_at (by omega)) rfl rfl) rfl)) ?_
          refine dr_put (d := 67) (v := .d (.fl (.int .i64 0))) rfl (og rfl (op_move rfl rfl rfl)) ?_
          refine dr_put (d := 68) (v := .d (.fl (.int .i64 (((ix ((rg ((hd b).size + 1) (dd (hd a) (hd b) i))) (((((j + 1 : Nat) : Int) - 1)).toNat)) + 0))))) rfl (og rfl (op_bin rfl rfl rfl (fun x y w => b_add64 _ _ _ x y w (by omega)) rfl)) ?_
          refine dr_put (d := 69) (v := .ow 700) rfl (og rfl (op_move rfl rfl rfl)) ?_
          refine dr_put (d := 70) (v := .d (.fl (.int .i64 (((j + 1 : Nat) : Int))))) rfl (og rfl (op_move rfl rfl rfl)) ?_
          refine dr_put (d := 71) (v := .pe 700 1 (j + 1) 0) rfl (og rfl (op_index_tr rfl Tryd.underlying37 ti3 rfl rfl rfl (get_lt (tD_at (by omega))) rfl)) ?_
          refine dr_put (d := 72) (v := .d (.fl (.int .i64 ((ix ((rg ((hd b).size + 1) (dd (hd a) (hd b) i))) (j + 1)))))) rfl (og rfl (of_eff (op_load_pe rfl Tryd.underlying3 rfl rfl rfl (tD_at (by omega)) rfl rfl) rfl)) ?_
          refine dr_put (d := 73) (v := .ow 102) rfl (og rfl (op_move rfl rfl rfl)) ?_
          refine dr_put (d := 74) (v := .d (.fl (.int .i64 (((j + 1 : Nat) : Int))))) rfl (og rfl (op_move rfl rfl rfl)) ?_
          refine dr_put (d := 75) (v := .d (.fl (.int .i64 ((((j + 1 : Nat) : Int) - 1))))) rfl (og rfl (op_bin rfl rfl rfl (fun x y w => b_sub64 _ _ _ x y w (by omega)) rfl)) ?_
          refine dr_put (d := 76) (v := .pe 102 1 (((((j + 1 : Nat) : Int) - 1)).toNat) 0) rfl (og rfl (op_index_trI rfl Tryd.underlying37 ti3 rfl rfl rfl (by omega) (get_lt (tD_at (by omega))) rfl)) ?_
          refine dr_put (d := 77) (v := .d (.fl (.int .i64 ((ix ((rg (j + 1) (dd (hd a) (hd b) (i + 1)))) (((((j + 1 : Nat) : Int) - 1)).toNat)))))) rfl (og rfl (of_eff (op_load_pe rfl Tryd.underlying3 rfl rfl rfl (tD_at (by omega)) rfl rfl) rfl)) ?_
          refine dr_put (d := 78) (v := .d (.fl (.int .i64 ((min ((ix ((rg ((hd b).size + 1) (dd (hd a) (hd b) i))) (j + 1))) ((ix ((rg (j + 1) (dd (hd a) (hd b) (i + 1)))) (((((j + 1 : Nat) : Int) - 1)).toNat)))))))) rfl (og rfl (op_call rfl Tryd.func34 nm34 rfl (.cons rfl (.d _) (.cons rfl (.d _) .nil)) (lea ((ix ((rg ((hd b).size + 1) (dd (hd a) (hd b) i))) (j + 1))) ((ix ((rg (j + 1) (dd (hd a) (hd b) (i + 1)))) (((((j + 1 : Nat) : Int) - 1)).toNat)))) rfl)) ?_
          refine dr_put (d := 79) (v := .d (.fl (.int .i64 (((min ((ix ((rg ((hd b).size + 1) (dd (hd a) (hd b) i))) (j + 1))) ((ix ((rg (j + 1) (dd (hd a) (hd b) (i + 1)))) (((((j + 1 : Nat) : Int) - 1)).toNat)))) + 3))))) rfl (og rfl (op_bin rfl rfl rfl (fun x y w => b_add64 _ _ _ x y w (by omega)) rfl)) ?_
          refine dr_put (d := 80) (v := .d (.fl (.int .i64 ((min (((ix ((rg ((hd b).size + 1) (dd (hd a) (hd b) i))) (((((j + 1 : Nat) : Int) - 1)).toNat)) + 0)) (((min ((ix ((rg ((hd b).size + 1) (dd (hd a) (hd b) i))) (j + 1))) ((ix ((rg (j + 1) (dd (hd a) (hd b) (i + 1)))) (((((j + 1 : Nat) : Int) - 1)).toNat)))) + 3))))))) rfl (og rfl (op_call rfl Tryd.func34 nm34 rfl (.cons rfl (.d _) (.cons rfl (.d _) .nil)) (lea (((ix ((rg ((hd b).size + 1) (dd (hd a) (hd b) i))) (((((j + 1 : Nat) : Int) - 1)).toNat)) + 0)) (((min ((ix ((rg ((hd b).size + 1) (dd (hd a) (hd b) i))) (j + 1))) ((ix ((rg (j + 1) (dd (hd a) (hd b) (i + 1)))) (((((j + 1 : Nat) : Int) - 1)).toNat)))) + 3))) rfl)) ?_
          refine dr_put (d := 81) (v := .d (.sl 1 (List.map (rI .i64) [(min (((ix ((rg ((hd b).size + 1) (dd (hd a) (hd b) i))) (((((j + 1 : Nat) : Int) - 1)).toNat)) + 0)) (((min ((ix ((rg ((hd b).size + 1) (dd (hd a) (hd b) i))) (j + 1))) ((ix ((rg (j + 1) (dd (hd a) (hd b) (i + 1)))) (((((j + 1 : Nat) : Int) - 1)).toNat)))) + 3)))]))) rfl (og rfl (of_eff (op_slices rfl Tryd.underlying37 ti3 rfl rfl rfl (by kernel_rfl) (xs := [.fl (.int .i64 ((min (((ix ((rg ((hd b).size + 1) (dd (hd a) (hd b) i))) (((((j + 1 : Nat) : Int) - 1)).toNat)) + 0)) (((min ((ix ((rg ((hd b).size + 1) (dd (hd a) (hd b) i))) (j + 1))) ((ix ((rg (j + 1) (dd (hd a) (hd b) (i + 1)))) (((((j + 1 : Nat) : Int) - 1)).toNat)))) + 3)))))]) rfl rfl (.cons rfl rfl (.d _) rfl rfl rfl .nil) rfl) rfl)) ?_
          refine dr_nam (d := 82) (v := .ow 103) (m := 103) (nw := [(103, .tr 3 1 (tD (rI .i64) (((rg (j + 1) (dd (hd a) (hd b) (i + 1))) ++ [(min (((ix ((rg ((hd b).size + 1) (dd (hd a) (hd b) i))) (((((j + 1 : Nat) : Int) - 1)).toNat)) + 0)) (((min ((ix ((rg ((hd b).size + 1) (dd (hd a) (hd b) i))) (j + 1))) ((ix ((rg (j + 1) (dd (hd a) (hd b) (i + 1)))) (((((j + 1 : Nat) : Int) - 1)).toNat)))) + 3)))])))), (102, .no)]) rfl (og rfl (of_eff (s_append_td 103 rfl Tryd.underlying37 ti3 rfl rfl rfl rfl rfl (.d _) (by simp only [List.length_append, List.length_cons, List.length_nil]; omega) rfl) rfl)) ?_
          refine dr_put (d := 10) (v := .ow 103) rfl (og rfl (op_assign rfl rfl rfl)) ?_
          refine dr_done rfl (sepB_of [0, 0, 0, 4, 14, 30, 0, 126, 0, 0, 768, 1792, 0, 0, 8192, 28672, 61440, 130816, 261888, 524286, 1048574, 2097151, 4194303] (by kernel_rfl)) (by kernel_rfl) ?_
          show A _ _ _ _ _ _ _
          refine a_region ?_
          refine rg_put (d := 41) (v := .d (.fl (.int .i64 (((j + 1 : Nat) : Int))))) rfl (og rfl (op_move rfl rfl rfl)) ?_
          refine rg_put (d := 42) (v := .d (.fl (.int .i64 ((((j + 1 : Nat) : Int) + 1))))) rfl (og rfl (op_bin rfl rfl rfl (fun x y w => b_add64 _ _ _ x y w (by omega)) rfl)) ?_
          refine rg_put (d := 11) (v := .d (.fl (.int .i64 ((((j + 1 : Nat) : Int) + 1))))) rfl (og rfl (op_assign rfl rfl rfl)) ?_
          refine rg_done rfl ?_
          show ∃ i, _ ∧ _ ∧ Imp _ _ _ _ _
          refine ⟨j + 1, (by omega), by omega, imp_ren (fun m => bif Nat.beq m 102 then 103 else m) rfl ⟨rfl, rfl, rfl, rfl, rfl, rfl, rfl, rfl, rfl, rfl, (by first | rfl | exact ci (by omega) | exact ci (by simp) | exact cd (by simp) | simp), rfl, trivial⟩ ⟨rfl, (congrArg (fun z => Ob.tr 3 1 (tD (rI .i64) z)) (rg_app _ _ (by have hc : chg ((bt (hd a) (((i + 1 : Nat) : Int) - 1).toNat).toNat : Int) ((bt (hd b) (((j + 1 : Nat) : Int) - 1).toNat).toNat : Int) = 0 := (by unfold chg; simp only [h1, h4, h6, h8, Bool.true_or, Bool.false_or, Bool.or_true, Bool.or_false, Bool.not_true, Bool.not_false, cond_true, cond_false, Bool.true_and, Bool.false_and, Bool.and_true, Bool.and_false] <;> rfl); rw [ei, ej] at hc; rw [e1h, e3h, e2h]; have hc2 : chg (bI (hd a) i) (bI (hd b) j) = 0 := hc; simp only [dd, hc2]; omega))), trivial⟩⟩
        · skip
          have h10 := f_beq h8
          refine a_dseq (by kernel_rfl) ?_
          refine dr_put (d := 52) (v := .d (.fl (.string (hd a)))) rfl (og rfl (op_move rfl rfl rfl)) ?_
          refine dr_put (d := 53) (v := .d (.fl (.int .i64 (((i + 1 : Nat) : Int))))) rfl (og rfl (op_move rfl rfl rfl)) ?_
          refine dr_put (d := 54) (v := .d (.fl (.int .i64 ((((i + 1 : Nat) : Int) - 1))))) rfl (og rfl (op_bin rfl rfl rfl (fun x y w => b_sub64 _ _ _ x y w (by omega)) rfl)) ?_
          refine dr_put (d := 55) (v := .d (.fl (.int .u8 (((bt (hd a) (((((i + 1 : Nat) : Int) - 1)).toNat)).toNat : Int))))) rfl (og rfl (op_strindex (n := (((i + 1 : Nat) : Int) - 1)) rfl Tryd.underlying9 rfl rfl (by omega) (byte_ix (k := ((((i + 1 : Nat) : Int) - 1)).toNat) (by omega)) rfl)) ?_
          refine dr_put (d := 56) (v := .d (.fl (.string (hd b)))) rfl (og rfl (op_move rfl rfl rfl)) ?_
          refine dr_put (d := 57) (v := .d (.fl (.int .i64 (((j + 1 : Nat) : Int))))) rfl (og rfl (op_move rfl rfl rfl)) ?_
          refine dr_put (d := 58) (v := .d (.fl (.int .i64 ((((j + 1 : Nat) : Int) - 1))))) rfl (og rfl (op_bin rfl rfl rfl (fun x y w => b_sub64 _ _ _ x y w (by omega)) rfl)) ?_
          refine dr_put (d := 59) (v := .d (.fl (.int .u8 (((bt (hd b) (((((j + 1 : Nat) : Int) - 1)).toNat)).toNat : Int))))) rfl (og rfl (op_strindex (n := (((j + 1 : Nat) : Int) - 1)) rfl Tryd.underlying9 rfl rfl (by omega) (byte_ix (k := ((((j + 1 : Nat) : Int) - 1)).toNat) (by omega)) rfl)) ?_
          refine dr_put (d := 60) (v := .d (.fl (.bool ((lk (((bt (hd a) (((((i + 1 : Nat) : Int) - 1)).toNat)).toNat : Int)) (((bt (hd b) (((((j + 1 : Nat) : Int) - 1)).toNat)).toNat : Int))))))) rfl (og rfl (op_call rfl Tryd.func15 nm15 rfl (.cons rfl (.d _) (.cons rfl (.d _) .nil)) (lkR15 (((bt (hd a) (((((i + 1 : Nat) : Int) - 1)).toNat)).toNat : Int)) (((bt (hd b) (((((j + 1 : Nat) : Int) - 1)).toNat)).toNat : Int)) (by omega)) rfl)) ?_
          refine dr_done rfl (by kernel_rfl) (by kernel_rfl) ?_
          refine a_cond rfl (fun h11 => ?_) (fun h11 => ?_)
          · skip
            refine a_region ?_
            refine rg_put (d := 12) (v := .d (.fl (.int .i64 1))) rfl (og rfl (op_assign rfl rfl rfl)) ?_
            refine rg_done rfl ?_
            show A _ _ _ _ _ _ _
            refine a_draw (by kernel_rfl) ?_
            have e1h : ix (rg ((hd b).size + 1) (dd (hd a) (hd b) i)) (((j + 1 : Nat) : Int) - 1).toNat = dd (hd a) (hd b) i j := by rw [ej]; exact rg_ix (by omega)
            have e2h : ix (rg ((hd b).size + 1) (dd (hd a) (hd b) i)) (j + 1) = dd (hd a) (hd b) i (j + 1) := rg_ix (by omega)
            have e3h : ix (rg (j + 1) (dd (hd a) (hd b) (i + 1))) (((j + 1 : Nat) : Int) - 1).toNat = dd (hd a) (hd b) (i + 1) j := by rw [ej]; exact rg_ix (by omega)
            refine dr_put (d := 61) (v := .ow 102) rfl (og rfl (op_move rfl rfl rfl)) ?_
            refine dr_put (d := 62) (v := .ow 700) rfl (og rfl (op_move rfl rfl rfl)) ?_
            refine dr_put (d := 63) (v := .d (.fl (.int .i64 (((j + 1 : Nat) : Int))))) rfl (og rfl (op_move rfl rfl rfl)) ?_
            refine dr_put (d := 64) (v := .d (.fl (.int .i64 ((((j + 1 : Nat) : Int) - 1))))) rfl (og rfl (op_bin rfl rfl rfl (fun x y w => b_sub64 _ _ _ x y w (by omega)) rfl)) ?_
            refine dr_put (d := 65) (v := .pe 700 1 (((((j + 1 : Nat) : Int) - 1)).toNat) 0) rfl (og rfl (op_index_trI rfl Tryd.underlying37 ti3 rfl rfl rfl (by omega) (get_lt (tD_at (by omega))) rfl)) ?_
            refine dr_put (d := 66) (v := .d (.fl (.int .i64 ((ix ((rg ((hd b).size + 1) (dd (hd a) (hd b) i))) (((((j + 1 : Nat) : Int) - 1)).toNat)))))) rfl (og rfl (of_eff (op_load_pe rfl Tryd.underlying3 rfl rfl rfl (tD_at (by omega)) rfl rfl) rfl)) ?_
            refine dr_put (d := 67) (v := .d (.fl (.int .i64 1))) rfl (og rfl (op_move rfl rfl rfl)) ?_
            refine dr_put (d := 68) (v := .d (.fl (.int .i64 (((ix ((rg ((hd b).size + 1) (dd (hd a) (hd b) i))) (((((j + 1 : Nat) : Int) - 1)).toNat)) + 1))))) rfl (og rfl (op_bin rfl rfl rfl (fun x y w => b_add64 _ _ _ x y w (by omega)) rfl)) ?_
            refine dr_put (d := 69) (v := .ow 700) rfl (og rfl (op_move rfl rfl rfl)) ?_
            refine dr_put (d := 70) (v := .d (.fl (.int .i64 (((j + 1 : Nat) : Int))))) rfl (og rfl (op_move rfl rfl rfl)) ?_
            refine dr_put (d := 71) (v := .pe 700 1 (j + 1) 0) rfl (og rfl (op_index_tr rfl Tryd.underlying37 ti3 rfl rfl rfl (get_lt (tD_at (by omega))) rfl)) ?_
            refine dr_put (d := 72) (v := .d (.fl (.int .i64 ((ix ((rg ((hd b).size + 1) (dd (hd a) (hd b) i))) (j + 1)))))) rfl (og rfl (of_eff (op_load_pe rfl Tryd.underlying3 rfl rfl rfl (tD_at (by omega)) rfl rfl) rfl)) ?_
            refine dr_put (d := 73) (v := .ow 102) rfl (og rfl (op_move rfl rfl rfl)) ?_
            refine dr_put (d := 74) (v := .d (.fl (.int .i64 (((j + 1 : Nat) : Int))))) rfl (og rfl (op_move rfl rfl rfl)) ?_
            refine dr_put (d := 75) (v := .d (.fl (.int .i64 ((((j + 1 : Nat) : Int) - 1))))) rfl (og rfl (op_bin rfl rfl rfl (fun x y w => b_sub64 _ _ _ x y w (by omega)) rfl)) ?_
            refine dr_put (d := 76) (v := .pe 102 1 (((((j + 1 : Nat) : Int) - 1)).toNat) 0) rfl (og rfl (op_index_trI rfl Tryd.underlying37 ti3 rfl rfl rfl (by omega) (get_lt (tD_at (by omega))) rfl)) ?_
            refine dr_put (d := 77) (v := .d (.fl (.int .i64 ((ix ((rg (j + 1) (dd (hd a) (hd b) (i + 1)))) (((((j + 1 : Nat) : Int) - 1)).toNat)))))) rfl (og rfl (of_eff (op_load_pe rfl Tryd.underlying3 rfl rfl rfl (tD_at (by omega)) rfl rfl) rfl)) ?_
            refine dr_put (d := 78) (v := .d (.fl (.int .i64 ((min ((ix ((rg ((hd b).size + 1) (dd (hd a) (hd b) i))) (j + 1))) ((ix ((rg (j + 1) (dd (hd a) (hd b) (i + 1)))) (((((j + 1 : Nat) : Int) - 1)).toNat)))))))) rfl (og rfl (op_call rfl Tryd.func34 nm34 rfl (.cons rfl (.d _) (.cons rfl (.d _) .nil)) (lea ((ix ((rg ((hd b).size + 1) (dd (hd a) (hd b) i))) (j + 1))) ((ix ((rg (j + 1) (dd (hd a) (hd b) (i + 1)))) (((((j + 1 : Nat) : Int) - 1)).toNat)))) rfl)) ?_
            refine dr_put (d := 79) (v := .d (.fl (.int .i64 (((min ((ix ((rg ((hd b).size + 1) (dd (hd a) (hd b) i))) (j + 1))) ((ix ((rg (j + 1) (dd (hd a) (hd b) (i + 1)))) (((((j + 1 : Nat) : Int) - 1)).toNat)))) + 3))))) rfl (og rfl (op_bin rfl rfl rfl (fun x y w => b_add64 _ _ _ x y w (by omega)) rfl)) ?_
            refine dr_put (d := 80) (v := .d (.fl (.int .i64 ((min (((ix ((rg ((hd b).size + 1) (dd (hd a) (hd b) i))) (((((j + 1 : Nat) : Int) - 1)).toNat)) + 1)) (((min ((ix ((rg ((hd b).size + 1) (dd (hd a) (hd b) i))) (j + 1))) ((ix ((rg (j + 1) (dd (hd a) (hd b) (i + 1)))) (((((j + 1 : Nat) : Int) - 1)).toNat)))) + 3))))))) rfl (og rfl (op_call rfl Tryd.func34 nm34 rfl (.cons rfl (.d _) (.cons rfl (.d _) .nil)) (lea (((ix ((rg ((hd b).size + 1) (dd (hd a) (hd b) i))) (((((j + 1 : Nat) : Int) - 1)).toNat)) + 1)) (((min ((ix ((rg ((hd b).size + 1) (dd (hd a) (hd b) i))) (j + 1))) ((ix ((rg (j + 1) (dd (hd a) (hd b) (i + 1)))) (((((j + 1 : Nat) : Int) - 1)).toNat)))) + 3))) rfl)) ?_
            refine dr_put (d := 81) (v := .d (.sl 1 (List.map (rI .i64) [(min (((ix ((rg ((hd b).size + 1) (dd (hd a) (hd b) i))) (((((j + 1 : Nat) : Int) - 1)).toNat)) + 1)) (((min ((ix ((rg ((hd b).size + 1) (dd (hd a) (hd b) i))) (j + 1))) ((ix ((rg (j + 1) (dd (hd a) (hd b) (i + 1)))) (((((j + 1 : Nat) : Int) - 1)).toNat)))) + 3)))]))) rfl (og rfl (of_eff (op_slices rfl Tryd.underlying37 ti3 rfl rfl rfl (by kernel_rfl) (xs := [.fl (.int .i64 ((min (((ix ((rg ((hd b).size + 1) (dd (hd a) (hd b) i))) (((((j + 1 : Nat) : Int) - 1)).toNat)) + 1)) (((min ((ix ((rg ((hd b).size + 1) (dd (hd a) (hd b) i))) (j + 1))) ((ix ((rg (j + 1) (dd (hd a) (hd b) (i + 1)))) (((((j + 1 : Nat) : Int) - 1)).toNat)))) + 3)))))]) rfl rfl (.cons rfl rfl (.d _) rfl rfl rfl .nil) rfl) rfl)) ?_
            refine dr_nam (d := 82) (v := .ow 104) (m := 104) (nw := [(104, .tr 3 1 (tD (rI .i64) (((rg (j + 1) (dd (hd a) (hd b) (i + 1))) ++ [(min (((ix ((rg ((hd b).size + 1) (dd (hd a) (hd b) i))) (((((j + 1 : Nat) : Int) - 1)).toNat)) + 1)) (((min ((ix ((rg ((hd b).size + 1) (dd (hd a) (hd b) i))) (j + 1))) ((ix ((rg (j + 1) (dd (hd a) (hd b) (i + 1)))) (((((j + 1 : Nat) : Int) - 1)).toNat)))) + 3)))])))), (102, .no)]) rfl (og rfl (of_eff (s_append_td 104 rfl Tryd.underlying37 ti3 rfl rfl rfl rfl rfl (.d _) (by simp only [List.length_append, List.length_cons, List.length_nil]; omega) rfl) rfl)) ?_
            refine dr_put (d := 10) (v := .ow 104) rfl (og rfl (op_assign rfl rfl rfl)) ?_
            refine dr_done rfl (sepB_of [0, 0, 0, 4, 14, 30, 0, 126, 0, 0, 768, 1792, 0, 0, 8192, 28672, 61440, 130816, 261888, 524286, 1048574, 2097151, 4194303] (by kernel_rfl)) (by kernel_rfl) ?_
            show A _ _ _ _ _ _ _
            refine a_region ?_
            refine rg_put (d := 41) (v := .d (.fl (.int .i64 (((j + 1 : Nat) : Int))))) rfl (og rfl (op_move rfl rfl rfl)) ?_
            refine rg_put (d := 42) (v := .d (.fl (.int .i64 ((((j + 1 : Nat) : Int) + 1))))) rfl (og rfl (op_bin rfl rfl rfl (fun x y w => b_add64 _ _ _ x y w (by omega)) rfl)) ?_
            refine rg_put (d := 11) (v := .d (.fl (.int .i64 ((((j + 1 : Nat) : Int) + 1))))) rfl (og rfl (op_assign rfl rfl rfl)) ?_
            refine rg_done rfl ?_
            show ∃ i, _ ∧ _ ∧ Imp _ _ _ _ _
            refine ⟨j + 1, (by omega), by omega, imp_ren (fun m => bif Nat.beq m 102 then 104 else m) rfl ⟨rfl, rfl, rfl, rfl, rfl, rfl, rfl, rfl, rfl, rfl, (by first | rfl | exact ci (by omega) | exact ci (by simp) | exact cd (by simp) | simp), rfl, trivial⟩ ⟨rfl, (congrArg (fun z => Ob.tr 3 1 (tD (rI .i64) z)) (rg_app _ _ (by have hc : chg ((bt (hd a) (((i + 1 : Nat) : Int) - 1).toNat).toNat : Int) ((bt (hd b) (((j + 1 : Nat) : Int) - 1).toNat).toNat : Int) = 1 := (by unfold chg; simp only [h1, h4, h6, h8, h11, Bool.true_or, Bool.false_or, Bool.or_true, Bool.or_false, Bool.not_true, Bool.not_false, cond_true, cond_false, Bool.true_and, Bool.false_and, Bool.and_true, Bool.and_false] <;> rfl); rw [ei, ej] at hc; rw [e1h, e3h, e2h]; have hc2 : chg (bI (hd a) i) (bI (hd b) j) = 1 := hc; simp only [dd, hc2]; omega))), trivial⟩⟩
          · skip
            refine a_skip ?_
            show A _ _ _ _ _ _ _
            refine a_draw (by kernel_rfl) ?_
            have e1h : ix (rg ((hd b).size + 1) (dd (hd a) (hd b) i)) (((j + 1 : Nat) : Int) - 1).toNat = dd (hd a) (hd b) i j := by rw [ej]; exact rg_ix (by omega)
            have e2h : ix (rg ((hd b).size + 1) (dd (hd a) (hd b) i)) (j + 1) = dd (hd a) (hd b) i (j + 1) := rg_ix (by omega)
            have e3h : ix (rg (j + 1) (dd (hd a) (hd b) (i + 1))) (((j + 1 : Nat) : Int) - 1).toNat = dd (hd a) (hd b) (i + 1) j := by rw [ej]; exact rg_ix (by omega)
            refine dr_put (d := 61) (v := .ow 102) rfl (og rfl (op_move rfl rfl rfl)) ?_
            refine dr_put (d := 62) (v := .ow 700) rfl (og rfl (op_move rfl rfl rfl)) ?_
            refine dr_put (d := 63) (v := .d (.fl (.int .i64 (((j + 1 : Nat) : Int))))) rfl (og rfl (op_move rfl rfl rfl)) ?_
            refine dr_put (d := 64) (v := .d (.fl (.int .i64 ((((j + 1 : Nat) : Int) - 1))))) rfl (og rfl (op_bin rfl rfl rfl (fun x y w => b_sub64 _ _ _ x y w (by omega)) rfl)) ?_
            refine dr_put (d := 65) (v := .pe 700 1 (((((j + 1 : Nat) : Int) - 1)).toNat) 0) rfl (og rfl (op_index_trI rfl Tryd.underlying37 ti3 rfl rfl rfl (by omega) (get_lt (tD_at (by omega))) rfl)) ?_
            refine dr_put (d := 66) (v := .d (.fl (.int .i64 ((ix ((rg ((hd b).size + 1) (dd (hd a) (hd b) i))) (((((j + 1 : Nat) : Int) - 1)).toNat)))))) rfl (og rfl (of_eff (op_load_pe rfl Tryd.underlying3 rfl rfl rfl (tD_at (by omega)) rfl rfl) rfl)) ?_
            refine dr_put (d := 67) (v := .d (.fl (.int .i64 3))) rfl (og rfl (op_move rfl rfl rfl)) ?_
            refine dr_put (d := 68) (v := .d (.fl (.int .i64 (((ix ((rg ((hd b).size + 1) (dd (hd a) (hd b) i))) (((((j + 1 : Nat) : Int) - 1)).toNat)) + 3))))) rfl (og rfl (op_bin rfl rfl rfl (fun x y w => b_add64 _ _ _ x y w (by omega)) rfl)) ?_
            refine dr_put (d := 69) (v := .ow 700) rfl (og rfl (op_move rfl rfl rfl)) ?_
            refine dr_put (d := 70) (v := .d (.fl (.int .i64 (((j + 1 : Nat) : Int))))) rfl (og rfl (op_move rfl rfl rfl)) ?_
            refine dr_put (d := 71) (v := .pe 700 1 (j + 1) 0) rfl (og rfl (op_index_tr rfl Tryd.underlying37 ti3 rfl rfl rfl (get_lt (tD_at (by omega))) rfl)) ?_
            refine dr_put (d := 72) (v := .d (.fl (.int .i64 ((ix ((rg ((hd b).size + 1) (dd (hd a) (hd b) i))) (j + 1)))))) rfl (og rfl (of_eff (op_load_pe rfl Tryd.underlying3 rfl rfl rfl (tD_at (by omega)) rfl rfl) rfl)) ?_
            refine dr_put (d := 73) (v := .ow 102) rfl (og rfl (op_move rfl rfl rfl)) ?_
            refine dr_put (d := 74) (v := .d (.fl (.int .i64 (((j + 1 : Nat) : Int))))) rfl (og rfl (op_move rfl rfl rfl)) ?_
            refine dr_put (d := 75) (v := .d (.fl (.int .i64 ((((j + 1 : Nat) : Int) - 1))))) rfl (og rfl (op_bin rfl rfl rfl (fun x y w => b_sub64 _ _ _ x y w (by omega)) rfl)) ?_
            refine dr_put (d := 76) (v := .pe 102 1 (((((j + 1 : Nat) : Int) - 1)).toNat) 0) rfl (og rfl (op_index_trI rfl Tryd.underlying37 ti3 rfl rfl rfl (by omega) (get_lt (tD_at (by omega))) rfl)) ?_
            refine dr_put (d := 77) (v := .d (.fl (.int .i64 ((ix ((rg (j + 1) (dd (hd a) (hd b) (i + 1)))) (((((j + 1 : Nat) : Int) - 1)).toNat)))))) rfl (og rfl (of_eff (op_load_pe rfl Tryd.underlying3 rfl rfl rfl (tD_at (by omega)) rfl rfl) rfl)) ?_
            refine dr_put (d := 78) (v := .d (.fl (.int .i64 ((min ((ix ((rg ((hd b).size + 1) (dd (hd a) (hd b) i))) (j + 1))) ((ix ((rg (j + 1) (dd (hd a) (hd b) (i + 1)))) (((((j + 1 : Nat) : Int) - 1)).toNat)))))))) rfl (og rfl (op_call rfl Tryd.func34 nm34 rfl (.cons rfl (.d _) (.cons rfl (.d _) .nil)) (lea ((ix ((rg ((hd b).size + 1) (dd (hd a) (hd b) i))) (j + 1))) ((ix ((rg (j + 1) (dd (hd a) (hd b) (i + 1)))) (((((j + 1 : Nat) : Int) - 1)).toNat)))) rfl)) ?_
            refine dr_put (d := 79) (v := .d (.fl (.int .i64 (((min ((ix ((rg ((hd b).size + 1) (dd (hd a) (hd b) i))) (j + 1))) ((ix ((rg (j + 1) (dd (hd a) (hd b) (i + 1)))) (((((j + 1 : Nat) : Int) - 1)).toNat)))) + 3))))) rfl (og rfl (op_bin rfl rfl rfl (fun x y w => b_add64 _ _ _ x y w (by omega)) rfl)) ?_
            refine dr_put (d := 80) (v := .d (.fl (.int .i64 ((min (((ix ((rg ((hd b).size + 1) (dd (hd a) (hd b) i))) (((((j + 1 : Nat) : Int) - 1)).toNat)) + 3)) (((min ((ix ((rg ((hd b).size + 1) (dd (hd a) (hd b) i))) (j + 1))) ((ix ((rg (j + 1) (dd (hd a) (hd b) (i + 1)))) (((((j + 1 : Nat) : Int) - 1)).toNat)))) + 3))))))) rfl (og rfl (op_call rfl Tryd.func34 nm34 rfl (.cons rfl (.d _) (.cons rfl (.d _) .nil)) (lea (((ix ((rg ((hd b).size + 1) (dd (hd a) (hd b) i))) (((((j + 1 : Nat) : Int) - 1)).toNat)) + 3)) (((min ((ix ((rg ((hd b).size + 1) (dd (hd a) (hd b) i))) (j + 1))) ((ix ((rg (j + 1) (dd (hd a) (hd b) (i + 1)))) (((((j + 1 : Nat) : Int) - 1)).toNat)))) + 3))) rfl)) ?_
            refine dr_put (d := 81) (v := .d (.sl 1 (List.map (rI .i64) [(min (((ix ((rg ((hd b).size + 1) (dd (hd a) (hd b) i))) (((((j + 1 : Nat) : Int) - 1)).toNat)) + 3)) (((min ((ix ((rg ((hd b).size + 1) (dd (hd a) (hd b) i))) (j + 1))) ((ix ((rg (j + 1) (dd (hd a) (hd b) (i + 1)))) (((((j + 1 : Nat) : Int) - 1)).toNat)))) + 3)))]))) rfl (og rfl (of_eff (op_slices rfl Tryd.underlying37 ti3 rfl rfl rfl (by kernel_rfl) (xs := [.fl (.int .i64 ((min (((ix ((rg ((hd b).size + 1) (dd (hd a) (hd b) i))) (((((j + 1 : Nat) : Int) - 1)).toNat)) + 3)) (((min ((ix ((rg ((hd b).size + 1) (dd (hd a) (hd b) i))) (j + 1))) ((ix ((rg (j + 1) (dd (hd a) (hd b) (i + 1)))) (((((j + 1 : Nat) : Int) - 1)).toNat)))) + 3)))))]) rfl rfl (.cons rfl rfl (.d _) rfl rfl rfl .nil) rfl) rfl)) ?_
            refine dr_nam (d := 82) (v := .ow 105) (m := 105) (nw := [(105, .tr 3 1 (tD (rI .i64) (((rg (j + 1) (dd (hd a) (hd b) (i + 1))) ++ [(min (((ix ((rg ((hd b).size + 1) (dd (hd a) (hd b) i))) (((((j + 1 : Nat) : Int) - 1)).toNat)) + 3)) (((min ((ix ((rg ((hd b).size + 1) (dd (hd a) (hd b) i))) (j + 1))) ((ix ((rg (j + 1) (dd (hd a) (hd b) (i + 1)))) (((((j + 1 : Nat) : Int) - 1)).toNat)))) + 3)))])))), (102, .no)]) rfl (og rfl (of_eff (s_append_td 105 rfl Tryd.underlying37 ti3 rfl rfl rfl rfl rfl (.d _) (by simp only [List.length_append, List.length_cons, List.length_nil]; omega) rfl) rfl)) ?_
            refine dr_put (d := 10) (v := .ow 105) rfl (og rfl (op_assign rfl rfl rfl)) ?_
            refine dr_done rfl (sepB_of [0, 0, 0, 4, 14, 30, 0, 126, 0, 0, 768, 1792, 0, 0, 8192, 28672, 61440, 130816, 261888, 524286, 1048574, 2097151, 4194303] (by kernel_rfl)) (by kernel_rfl) ?_
            show A _ _ _ _ _ _ _
            refine a_region ?_
            refine rg_put (d := 41) (v := .d (.fl (.int .i64 (((j + 1 : Nat) : Int))))) rfl (og rfl (op_move rfl rfl rfl)) ?_
            refine rg_put (d := 42) (v := .d (.fl (.int .i64 ((((j + 1 : Nat) : Int) + 1))))) rfl (og rfl (op_bin rfl rfl rfl (fun x y w => b_add64 _ _ _ x y w (by omega)) rfl)) ?_
            refine rg_put (d := 11) (v := .d (.fl (.int .i64 ((((j + 1 : Nat) : Int) + 1))))) rfl (og rfl (op_assign rfl rfl rfl)) ?_
            refine rg_done rfl ?_
            show ∃ i, _ ∧ _ ∧ Imp _ _ _ _ _
            refine ⟨j + 1, (by omega), by omega, imp_ren (fun m => bif Nat.beq m 102 then 105 else m) rfl ⟨rfl, rfl, rfl, rfl, rfl, rfl, rfl, rfl, rfl, rfl, (by first | rfl | exact ci (by omega) | exact ci (by simp) | exact cd (by simp) | simp), rfl, trivial⟩ ⟨rfl, (congrArg (fun z => Ob.tr 3 1 (tD (rI .i64) z)) (rg_app _ _ (by have hc : chg ((bt (hd a) (((i + 1 : Nat) : Int) - 1).toNat).toNat : Int) ((bt (hd b) (((j + 1 : Nat) : Int) - 1).toNat).toNat : Int) = 3 := (by unfold chg; simp only [h1, h4, h6, h8, h11, Bool.true_or, Bool.false_or, Bool.or_true, Bool.or_false, Bool.not_true, Bool.not_false, cond_true, cond_false, Bool.true_and, Bool.false_and, Bool.and_true, Bool.and_false] <;> rfl); rw [ei, ej] at hc; rw [e1h, e3h, e2h]; have hc2 : chg (bI (hd a) i) (bI (hd b) j) = 3 := hc; simp only [dd, hc2]; omega))), trivial⟩⟩
      · skip
        have h12 := f_dec h6
        refine a_exit ?_
        show A _ _ _ _ _ _ _
        refine a_region ?_
        refine rg_put (d := 83) (v := .ow 102) rfl (og rfl (op_move rfl rfl rfl)) ?_
        refine rg_put (d := 7) (v := .ow 102) rfl (og rfl (op_assign rfl rfl rfl)) ?_
        refine rg_done rfl ?_
        show A _ _ _ _ _ _ _
        refine a_region ?_
        refine rg_put (d := 32) (v := .d (.fl (.int .i64 (((i + 1 : Nat) : Int))))) rfl (og rfl (op_move rfl rfl rfl)) ?_
        refine rg_put (d := 33) (v := .d (.fl (.int .i64 ((((i + 1 : Nat) : Int) + 1))))) rfl (og rfl (op_bin rfl rfl rfl (fun x y w => b_add64 _ _ _ x y w (by omega)) rfl)) ?_
        refine rg_put (d := 9) (v := .d (.fl (.int .i64 ((((i + 1 : Nat) : Int) + 1))))) rfl (og rfl (op_assign rfl rfl rfl)) ?_
        refine rg_done rfl ?_
        show ∃ i, _ ∧ _ ∧ Imp _ _ _ _ _
        refine ⟨i + 1, (by omega), by omega, imp_ren (fun m => bif Nat.beq m 700 then 102 else m) rfl ⟨rfl, rfl, rfl, rfl, rfl, rfl, rfl, (by first | rfl | exact ci (by omega) | exact ci (by simp) | exact cd (by simp) | simp), rfl, trivial⟩ ⟨(congrArg (fun z => Ob.tr 3 1 (tD (rI .i64) z)) (by rw [show j = (hd b).size by omega])), trivial⟩⟩
    · skip
      have h13 := f_dec h4
      refine a_exit ?_
      show A _ _ _ _ _ _ _
      refine a_rseq ?_
      refine rg_put (d := 84) (v := .ow 700) rfl (og rfl (op_move rfl rfl rfl)) ?_
      refine rg_put (d := 85) (v := .d (.fl (.string (hd b)))) rfl (og rfl (op_move rfl rfl rfl)) ?_
      refine rg_put (d := 86) (v := .d (.fl (.int .i64 (((hd b).size : Int))))) rfl (og rfl (op_len_str rfl Tryd.underlying9 rfl rfl)) ?_
      refine rg_put (d := 87) (v := .pe 700 1 ((hd b).size) 0) rfl (og rfl (op_index_tr rfl Tryd.underlying37 ti3 rfl rfl rfl (get_lt (tD_at (by omega))) rfl)) ?_
      refine rg_put (d := 88) (v := .d (.fl (.int .i64 ((ix ((rg ((hd b).size + 1) (dd (hd a) (hd b) i))) ((hd b).size)))))) rfl (og rfl (of_eff (op_load_pe rfl Tryd.underlying3 rfl rfl rfl (tD_at (by omega)) rfl rfl) rfl)) ?_
      refine rg_put (d := 4) (v := .d (.fl (.int .i64 ((ix ((rg ((hd b).size + 1) (dd (hd a) (hd b) i))) ((hd b).size)))))) rfl (og rfl (op_assign rfl rfl rfl)) ?_
      refine rg_done rfl ?_
      refine a_ret ?_
      show ∃ ds, ResL _ _ _ ds ∧ RV.of ds = _
      refine ⟨[.fl (.int .i64 ((ix ((rg ((hd b).size + 1) (dd (hd a) (hd b) i))) ((hd b).size))))], (.cons (.tmp rfl (.d _)) .nil), ?_⟩
      have him : i = (hd a).size := by omega
      have hu : dst a b = ix (rg ((hd b).size + 1) (dd (hd a) (hd b) i)) (hd b).size := by rw [rg_ix (by omega)]; unfold dst; rw [him]
      rw [hu]; rfl
set_option maxHeartbeats 4000000 in
set_option maxRecDepth 100000 in
theorem smP (a b : ByteArray) (ha : a.size ≤ 60) (hb : b.size ≤ 60) : Ctr Tryd.prog 18 [.fl (.string a), .fl (.string b)] (.d (.fl (.bool (sm a b)))) := by
  refine ctr (n := 26) (rs := #[.tmp 4]) (L := [(0, .d (.fl (.string a))), (1, .d (.fl (.string b)))]) Tryd.func18 rfl rfl rfl rfl rfl (fun w0 U0 => ?_)
  refine a_rseq ?_
  refine rg_put (d := 4) (v := .d (.fl (.bool false))) rfl (og rfl (op_assign rfl rfl rfl)) ?_
  refine rg_done rfl ?_
  refine a_rseq ?_
  refine rg_put (d := 5) (v := .d (.fl (.string a))) rfl (og rfl (op_move rfl rfl rfl)) ?_
  refine rg_put (d := 6) (v := .d (.fl (.string (hd a)))) rfl (og rfl (op_call rfl Tryd.func35 nm35 rfl (.cons rfl (.d _) .nil) (hdP a (by omega)) rfl)) ?_
  refine rg_put (d := 7) (v := .d (.fl (.string b))) rfl (og rfl (op_move rfl rfl rfl)) ?_
  refine rg_put (d := 8) (v := .d (.fl (.string (hd b)))) rfl (og rfl (op_call rfl Tryd.func35 nm35 rfl (.cons rfl (.d _) .nil) (hdP b (by omega)) rfl)) ?_
  refine rg_put (d := 0) (v := .d (.fl (.string (hd a)))) rfl (og rfl (op_assign rfl rfl rfl)) ?_
  refine rg_put (d := 1) (v := .d (.fl (.string (hd b)))) rfl (og rfl (op_assign rfl rfl rfl)) ?_
  refine rg_done rfl ?_
  refine a_seq ?_
  refine a_rseq ?_
  have hza := hd_sz a
  have hzb := hd_sz b
  refine rg_put (d := 9) (v := .d (.fl (.string (hd a)))) rfl (og rfl (op_move rfl rfl rfl)) ?_
  refine rg_put (d := 10) (v := .d (.fl (.string (hd b)))) rfl (og rfl (op_move rfl rfl rfl)) ?_
  refine rg_put (d := 11) (v := .d (.fl (.bool ((sEq (hd a) (hd b)))))) rfl (og rfl (op_bin rfl rfl rfl (b_seq _ _ _) rfl)) ?_
  refine rg_put (d := 12) (v := .d (.fl (.bool ((sEq (hd a) (hd b)))))) rfl (og rfl (op_move rfl rfl rfl)) ?_
  rcases fot ((sEq (hd a) (hd b))) with h1 | h1
  · skip
    refine rg_put (d := 13) (v := .d (.fl (.string (hd a)))) rfl (oy rfl rfl rfl h1 (op_move rfl rfl rfl)) ?_
    refine rg_put (d := 14) (v := .d (.fl (.int .i64 (((hd a).size : Int))))) rfl (oy rfl rfl rfl h1 (op_len_str rfl Tryd.underlying9 rfl rfl)) ?_
    refine rg_put (d := 15) (v := .d (.fl (.string (hd b)))) rfl (oy rfl rfl rfl h1 (op_move rfl rfl rfl)) ?_
    refine rg_put (d := 16) (v := .d (.fl (.int .i64 (((hd b).size : Int))))) rfl (oy rfl rfl rfl h1 (op_len_str rfl Tryd.underlying9 rfl rfl)) ?_
    refine rg_put (d := 17) (v := .d (.fl (.bool ((((hd a).size : Int) != ((hd b).size : Int)))))) rfl (oy rfl rfl rfl h1 (op_bin rfl rfl rfl (b_neq _ _ _ _) rfl)) ?_
    refine rg_put (d := 18) (v := .d (.fl (.bool ((((hd a).size : Int) != ((hd b).size : Int)))))) rfl (og rfl (op_pick rfl rfl (by rw [h1]; rfl) rfl)) ?_
    refine rg_done rfl ?_
    refine a_cond rfl (fun h2 => ?_) (fun h2 => ?_)
    · skip
      have h3 := t_bne h2
      refine a_rseq ?_
      refine rg_put (d := 19) (v := .d (.fl (.string (hd a)))) rfl (og rfl (op_move rfl rfl rfl)) ?_
      refine rg_put (d := 20) (v := .d (.fl (.string (hd b)))) rfl (og rfl (op_move rfl rfl rfl)) ?_
      refine rg_put (d := 21) (v := .d (.fl (.bool ((sEq (hd a) (hd b)))))) rfl (og rfl (op_bin rfl rfl rfl (b_seq _ _ _) rfl)) ?_
      refine rg_put (d := 4) (v := .d (.fl (.bool ((sEq (hd a) (hd b)))))) rfl (og rfl (op_assign rfl rfl rfl)) ?_
      refine rg_done rfl ?_
      refine a_ret ?_
      show ∃ ds, ResL _ _ _ ds ∧ RV.of ds = _
      refine ⟨[.fl (.bool ((sEq (hd a) (hd b))))], (.cons (.tmp rfl (.d _)) .nil), ?_⟩
      have hne := t_bne h2
      have hi := dd_in (hd a) (hd b) (hd a).size (hd b).size
      have hu : sm a b = false := by unfold sm dst; exact decide_eq_false (by omega)
      rw [h1, hu]; rfl
    · skip
      have h4 := f_bne h2
      refine a_skip ?_
      show A _ _ _ _ _ _ _
      refine a_rseq ?_
      refine rg_put (d := 22) (v := .d (.fl (.string (hd a)))) rfl (og rfl (op_move rfl rfl rfl)) ?_
      refine rg_put (d := 23) (v := .d (.fl (.string (hd b)))) rfl (og rfl (op_move rfl rfl rfl)) ?_
      refine rg_put (d := 24) (v := .d (.fl (.int .i64 ((dst (hd a) (hd b)))))) rfl (og rfl (op_call rfl Tryd.func16 nm16 rfl (.cons rfl (.d _) (.cons rfl (.d _) .nil)) (dsD (hd a) (hd b) (by omega) (by omega)) rfl)) ?_
      refine rg_put (d := 25) (v := .d (.fl (.bool ((decide ((dst (hd a) (hd b)) ≤ 2)))))) rfl (og rfl (op_bin rfl rfl rfl (b_leq _ _ _ _) rfl)) ?_
      refine rg_put (d := 4) (v := .d (.fl (.bool ((decide ((dst (hd a) (hd b)) ≤ 2)))))) rfl (og rfl (op_assign rfl rfl rfl)) ?_
      refine rg_done rfl ?_
      refine a_ret ?_
      show ∃ ds, ResL _ _ _ ds ∧ RV.of ds = _
      refine ⟨[.fl (.bool ((decide ((dst (hd a) (hd b)) ≤ 2))))], (.cons (.tmp rfl (.d _)) .nil), ?_⟩
      rw [dst_hd]; rfl
  · skip
    refine rg_put (d := 13) (v := .d (.fl undef)) rfl (on rfl rfl rfl h1) ?_
    refine rg_put (d := 14) (v := .d (.fl undef)) rfl (on rfl rfl rfl h1) ?_
    refine rg_put (d := 15) (v := .d (.fl undef)) rfl (on rfl rfl rfl h1) ?_
    refine rg_put (d := 16) (v := .d (.fl undef)) rfl (on rfl rfl rfl h1) ?_
    refine rg_put (d := 17) (v := .d (.fl undef)) rfl (on rfl rfl rfl h1) ?_
    refine rg_put (d := 18) (v := .d (.fl (.bool true))) rfl (og rfl (op_pick rfl rfl (by rw [h1]; rfl) rfl)) ?_
    refine rg_done rfl ?_
    refine a_condK rfl rfl ?_
    refine a_rseq ?_
    refine rg_put (d := 19) (v := .d (.fl (.string (hd a)))) rfl (og rfl (op_move rfl rfl rfl)) ?_
    refine rg_put (d := 20) (v := .d (.fl (.string (hd b)))) rfl (og rfl (op_move rfl rfl rfl)) ?_
    refine rg_put (d := 21) (v := .d (.fl (.bool ((sEq (hd a) (hd b)))))) rfl (og rfl (op_bin rfl rfl rfl (b_seq _ _ _) rfl)) ?_
    refine rg_put (d := 4) (v := .d (.fl (.bool ((sEq (hd a) (hd b)))))) rfl (og rfl (op_assign rfl rfl rfl)) ?_
    refine rg_done rfl ?_
    refine a_ret ?_
    show ∃ ds, ResL _ _ _ ds ∧ RV.of ds = _
    refine ⟨[.fl (.bool ((sEq (hd a) (hd b))))], (.cons (.tmp rfl (.d _)) .nil), ?_⟩
    have he := sEq_eq h1
    have hu : sm a b = true := by unfold sm dst; rw [he, dd_same]; rfl
    rw [h1, hu]; rfl
set_option maxHeartbeats 4000000 in
set_option maxRecDepth 100000 in
theorem smR (a b : ByteArray) (ha : a.size ≤ 60) (hb : b.size ≤ 60) : Ctr Tryd.prog 19 [.fl (.string a), .fl (.string b)] (.d (.fl (.bool (sm a b)))) := by
  refine ctr (n := 9) (rs := #[.tmp 4]) (L := [(0, .d (.fl (.string a))), (1, .d (.fl (.string b)))]) Tryd.func19 rfl rfl rfl rfl rfl (fun w0 U0 => ?_)
  refine a_rseq ?_
  refine rg_put (d := 4) (v := .d (.fl (.bool false))) rfl (og rfl (op_assign rfl rfl rfl)) ?_
  refine rg_done rfl ?_
  refine a_rseq ?_
  refine rg_put (d := 5) (v := .d (.fl (.string a))) rfl (og rfl (op_move rfl rfl rfl)) ?_
  refine rg_put (d := 6) (v := .d (.fl (.string b))) rfl (og rfl (op_move rfl rfl rfl)) ?_
  refine rg_put (d := 7) (v := .d (.fl (.int .i64 (dst a b)))) rfl (og rfl (op_call rfl Tryd.func17 nm17 rfl (.cons rfl (.d _) (.cons rfl (.d _) .nil)) (dsR a b (by omega) (by omega)) rfl)) ?_
  refine rg_put (d := 8) (v := .d (.fl (.bool ((decide ((dst a b) ≤ 2)))))) rfl (og rfl (op_bin rfl rfl rfl (b_leq _ _ _ _) rfl)) ?_
  refine rg_put (d := 4) (v := .d (.fl (.bool ((decide ((dst a b) ≤ 2)))))) rfl (og rfl (op_assign rfl rfl rfl)) ?_
  refine rg_done rfl ?_
  refine a_ret ?_
  show ∃ ds, ResL _ _ _ ds ∧ RV.of ds = _
  refine ⟨[.fl (.bool ((decide ((dst a b) ≤ 2))))], (.cons (.tmp rfl (.d _)) .nil), ?_⟩
  rfl
end Go.Proofs.YtldglchpaookiaaDoor.Wk
