/- Encodings. No condition. -/
import Derived.Test.YtaecdkhpidligaaA1
set_option linter.unusedSimpArgs false
set_option linter.unusedVariables false
namespace Go.Proofs.Ytaecdkhpidligaa.Wk
open Go Go.RowKit Go.Proofs.Ytaecdkhpidligaa.Av
def zz (n : Int) : Nat := if n < 0 then (-2 * n - 1).toNat else (2 * n).toNat
def enc (c : Nat) : List Int := if c < 128 then [(c : Int)] else ((c % 128 + 128 : Nat) : Int) :: enc (c / 128)
termination_by c
decreasing_by omega
theorem enc_lo {c : Nat} (h : c < 128) : enc c = [(c : Int)] := by rw [enc, if_pos h]
theorem enc_hi {c : Nat} (h : ¬ c < 128) : enc c = ((c % 128 + 128 : Nat) : Int) :: enc (c / 128) := by rw [enc, if_neg h]
theorem enc_len : ∀ (k c : Nat), c < 128 ^ (k + 1) → (enc c).length ≤ k + 1 := by
  intro k
  induction k with
  | zero => intro c h; rw [enc_lo (by simpa using h)]; simp
  | succ k ih =>
    intro c h
    by_cases h1 : c < 128
    · rw [enc_lo h1]; simp
    · rw [enc_hi h1, List.length_cons]
      have h2 : c / 128 < 128 ^ (k + 1) := by rw [Nat.div_lt_iff_lt_mul (by decide)]; rw [← Nat.pow_succ]; exact h
      have := ih _ h2
      omega
theorem enc_ten {c : Nat} (h : c < 18446744073709551616) : (enc c).length ≤ 10 := enc_len 9 c (Nat.lt_trans h (by decide))
theorem enc_pos (c : Nat) : 0 < (enc c).length := by
  by_cases h : c < 128
  · rw [enc_lo h]; simp
  · rw [enc_hi h]; simp
theorem zz_lt {n : Int} (h : -9223372036854775808 ≤ n ∧ n ≤ 9223372036854775807) : zz n < 18446744073709551616 := by unfold zz; split <;> omega
theorem or128 : ∀ n : Fin 256, bits BinOp.or IntKind.u8 (n.val : Int) 128 = ((n.val % 128 + 128 : Nat) : Int) := by decide +kernel
theorem not_u64 (x : Nat) (hx : x < 18446744073709551616) : x ^^^ 18446744073709551615 = 18446744073709551615 - x := by
  have h : (BitVec.ofNat 64 x ^^^ BitVec.allOnes 64).toNat = 2 ^ 64 - 1 - (BitVec.ofNat 64 x).toNat := by rw [BitVec.xor_allOnes, BitVec.toNat_not]
  have hn : (BitVec.ofNat 64 x).toNat = x := by rw [BitVec.toNat_ofNat]; exact Nat.mod_eq_of_lt (by omega)
  rw [BitVec.toNat_xor, hn, BitVec.toNat_allOnes] at h
  exact h
theorem zig0 {n : Int} (h : -9223372036854775808 ≤ n ∧ n ≤ 9223372036854775807) : bits BinOp.xor IntKind.u64 (IntKind.u64.wrap (IntKind.u64.wrap n * 2)) (IntKind.u64.wrap (n / 9223372036854775808)) = ((zz n : Nat) : Int) := by
  simp only [IntKind.wrap_u64]
  by_cases h0 : n < 0
  · obtain ⟨a, ha⟩ : ∃ a : Nat, n % 18446744073709551616 * 2 % 18446744073709551616 = (a : Int) := ⟨(n % 18446744073709551616 * 2 % 18446744073709551616).toNat, by omega⟩
    have hb : n / 9223372036854775808 % 18446744073709551616 = ((18446744073709551615 : Nat) : Int) := by omega
    rw [ha, hb, bits_xor_u64_nat a 18446744073709551615 (by omega) (by decide), not_u64 a (by omega)]
    unfold zz
    rw [if_pos h0]
    omega
  · obtain ⟨a, ha⟩ : ∃ a : Nat, n % 18446744073709551616 * 2 % 18446744073709551616 = (a : Int) := ⟨(n % 18446744073709551616 * 2 % 18446744073709551616).toNat, by omega⟩
    have hb : n / 9223372036854775808 % 18446744073709551616 = ((0 : Nat) : Int) := by omega
    rw [ha, hb, bits_xor_u64_nat a 0 (by omega) (by decide), Nat.xor_zero]
    unfold zz
    rw [if_neg h0]
    omega
theorem min1 : min ((1 : Int)).toNat IntKind.u64.bits = 1 := by decide
theorem min63 : min ((63 : Int)).toNat IntKind.i64.bits = 63 := by decide
theorem min7 : min ((7 : Int)).toNat IntKind.u64.bits = 7 := by decide
theorem zig {n : Int} (h : -9223372036854775808 ≤ n ∧ n ≤ 9223372036854775807) : bits .xor .u64 (IntKind.u64.wrap (IntKind.u64.wrap n * 2 ^ min ((1 : Int)).toNat IntKind.u64.bits)) (IntKind.u64.wrap (n / 2 ^ min ((63 : Int)).toNat IntKind.i64.bits)) = ((zz n : Nat) : Int) := by
  rw [min1, min63]; exact zig0 h
theorem or_byte (c : Nat) : bits .or .u8 (IntKind.u8.wrap (c : Int)) 128 = ((c % 128 + 128 : Nat) : Int) := by
  have := or128 ⟨c % 256, by omega⟩
  have e : IntKind.u8.wrap (c : Int) = ((c % 256 : Nat) : Int) := by rw [IntKind.wrap_u8]; omega
  rw [e]
  simp only at this
  rw [this]
  congr 1
  omega
theorem shr7 (c : Nat) : (c : Int) / 2 ^ min ((7 : Int)).toNat IntKind.u64.bits = ((c / 128 : Nat) : Int) := by rw [min7]; omega
theorem byte_lo {c : Nat} (h : c < 128) : IntKind.u8.wrap (c : Int) = (c : Int) := by rw [IntKind.wrap_u8]; omega
def icd (n : Int) : List Int := enc (zz n)
theorem icd_len {n : Int} (h : -9223372036854775808 ≤ n ∧ n ≤ 9223372036854775807) : (icd n).length ≤ 10 := enc_ten (zz_lt h)
def txb (s : ByteArray) : List Int := icd (s.size : Int) ++ bys s
theorem txb_len {s : ByteArray} (h : s.size ≤ 1000000) : (txb s).length ≤ s.size + 10 := by
  have := icd_len (n := (s.size : Int)) (by omega)
  unfold txb
  rw [List.length_append, bys_len]
  omega

set_option maxHeartbeats 4000000 in
set_option maxRecDepth 100000 in
theorem fresh62 (l : List Int) (k : Int) (hl : l.length ≤ 4000000) (hk : 0 ≤ k ∧ k ≤ 4000000) : CtrO Try.prog 39 [.sl 1 (List.map (rI .u8) l), .fl (.int .i64 k)] (.tr 5 1 (tD (rI .u8) l)) := by
  refine ctrO (n := 12) (rs := #[.tmp 4]) (L := [(0, .d (.sl 1 (List.map (rI .u8) l))), (1, .d (.fl (.int .i64 k)))]) Try.func39 rfl rfl rfl rfl rfl (fun w0 U0 => ?_)
  refine a_rseq ?_
  refine rg_put (d := 4) (v := .d (.fl (.slice none 0 0))) rfl (og rfl (op_assign rfl rfl rfl)) ?_
  refine rg_done rfl ?_
  refine a_rseq ?_
  refine rg_put (d := 5) (v := .d (.sl 1 (List.map (rI .u8) l))) rfl (og rfl (op_move rfl rfl rfl)) ?_
  refine rg_put (d := 6) (v := .d (.fl (.int .i64 (l.length : Int)))) rfl (og rfl (s_len rfl Try.underlying67 rfl rfl)) ?_
  refine rg_put (d := 7) (v := .d (.fl (.int .i64 k))) rfl (og rfl (op_move rfl rfl rfl)) ?_
  refine rg_put (d := 8) (v := .d (.fl (.int .i64 (((l.length : Int) + k))))) rfl (og rfl (op_bin rfl rfl rfl (fun x y w => b_add64 _ _ _ x y w (by omega)) rfl)) ?_
  refine rg_nam (d := 9) (v := .ow 101) (m := 101) (nw := [(101, .tr 5 1 (tD (rI .u8) []))]) rfl (og rfl (of_eff (op_make0 101 rfl Try.underlying67 ti5 rfl rfl (by omega) (by omega) (by omega) rfl) rfl)) rfl ?_
  refine rg_put (d := 10) (v := .d (.sl 1 (List.map (rI .u8) l))) rfl (og rfl (op_move rfl rfl rfl)) ?_
  refine rg_nam (d := 11) (v := .ow 102) (m := 102) (nw := [(102, .tr 5 1 (tD (rI .u8) ([] ++ l))), (101, .no)]) rfl (og rfl (of_eff (s_append_td 102 rfl Try.underlying67 ti5 rfl rfl rfl rfl rfl (.d _) (by first | omega | (simp only [List.length_nil]; omega) | (simp; omega)) rfl) rfl)) rfl ?_
  refine rg_put (d := 4) (v := .ow 102) rfl (og rfl (op_assign rfl rfl rfl)) ?_
  refine rg_done rfl ?_
  rw [show ([] ++ l) = l from List.nil_append l]
  refine a_ret ?_
  show ∃ rv, _ = #[rv] ∧ ResO _ _ rv _
  exact ⟨_, rfl, .tmp rfl rfl⟩
set_option maxHeartbeats 4000000 in
set_option maxRecDepth 100000 in
theorem put61 (l : List Int) (n : Int) (hl : l.length ≤ 4000000) (hn : -9223372036854775808 ≤ n ∧ n ≤ 9223372036854775807) : CtrT Try.prog 38 5 1 (tD (rI .u8) l) [.fl (.int .i64 n)] (tD (rI .u8) (l ++ icd n)) := by
  refine ctrT (n := 28) (t := 4) (L := [(1, .d (.fl (.int .i64 n)))]) Try.func38 rfl rfl rfl rfl rfl (fun w0 U0 H0 V0 Q0 => ?_)
  refine a_rseq ?_
  refine rg_put (d := 4) (v := .d (.fl (.slice none 0 0))) rfl (og rfl (op_assign rfl rfl rfl)) ?_
  refine rg_done rfl ?_
  refine a_rseq ?_
  refine rg_put (d := 6) (v := .d (.fl (.int .i64 n))) rfl (og rfl (op_move rfl rfl rfl)) ?_
  refine rg_put (d := 7) (v := .d (.fl (.int .u64 (IntKind.u64.wrap n)))) rfl (og rfl (op_convK rfl Try.underlying3 Try.underlying38 rfl rfl)) ?_
  refine rg_put (d := 8) (v := .d (.fl (.int .u64 ((IntKind.u64.wrap ((IntKind.u64.wrap n) * 2 ^ min ((1 : Int)).toNat IntKind.u64.bits)))))) rfl (og rfl (op_bin rfl rfl rfl (fun x y w => b_shl _ _ _ _ _ x y w (by omega)) rfl)) ?_
  refine rg_put (d := 9) (v := .d (.fl (.int .i64 n))) rfl (og rfl (op_move rfl rfl rfl)) ?_
  refine rg_put (d := 10) (v := .d (.fl (.int .i64 ((n / 2 ^ min ((63 : Int)).toNat IntKind.i64.bits))))) rfl (og rfl (op_bin rfl rfl rfl (fun x y w => b_shr _ _ _ _ _ x y w (by omega)) rfl)) ?_
  refine rg_put (d := 11) (v := .d (.fl (.int .u64 ((IntKind.u64.wrap ((n / 2 ^ min ((63 : Int)).toNat IntKind.i64.bits))))))) rfl (og rfl (op_convK rfl Try.underlying3 Try.underlying38 rfl rfl)) ?_
  refine rg_put (d := 12) (v := .d (.fl (.int .u64 ((bits .xor .u64 ((IntKind.u64.wrap ((IntKind.u64.wrap n) * 2 ^ min ((1 : Int)).toNat IntKind.u64.bits))) ((IntKind.u64.wrap ((n / 2 ^ min ((63 : Int)).toNat IntKind.i64.bits))))))))) rfl (og rfl (op_bin rfl rfl rfl (b_xor _ _ _ _) rfl)) ?_
  rw [show (bits .xor .u64 ((IntKind.u64.wrap ((IntKind.u64.wrap n) * 2 ^ min ((1 : Int)).toNat IntKind.u64.bits))) ((IntKind.u64.wrap ((n / 2 ^ min ((63 : Int)).toNat IntKind.i64.bits))))) = ((zz n : Nat) : Int) from zig hn]
  refine rg_put (d := 5) (v := .d (.fl (.int .u64 (((zz n : Nat) : Int))))) rfl (og rfl (op_assign rfl rfl rfl)) ?_
  refine rg_done rfl ?_
  refine a_seq ?_
  refine a_block ?_
  refine a_loop (ι := List Int × Nat) (fun p => SS [(1, .d (.fl (.int .i64 n))), (4, .d (.fl (.slice none 0 0))), (0, .ow 0), (5, .d (.fl (.int .u64 (p.2 : Int))))] [(1, .pin H0 V0 Q0), (0, .tr 5 1 (tD (rI .u8) p.1))]) (fun p => p.1 ++ enc p.2 = l ++ enc (zz n) ∧ p.2 < 18446744073709551616) (fun p => p.2) (l, zz n) (⟨rfl, zz_lt hn⟩) (imp_forget rfl ⟨rfl, rfl, (by first | rfl | exact ci (by omega) | exact ci (by simp) | exact cd (by simp) | simp), (by first | rfl | exact ci (by omega) | exact ci (by simp) | exact cd (by simp) | simp), trivial⟩ ⟨rfl, (by first | rfl | simp), trivial⟩) (fun p hok => ?_)
  obtain ⟨hE, hp⟩ := hok
  have hpl : p.1.length ≤ l.length + 10 := by
    have h1 := congrArg List.length hE
    rw [List.length_append, List.length_append] at h1
    have := enc_ten (zz_lt hn)
    omega
  refine a_seq ?_
  refine a_rseq ?_
  refine rg_put (d := 13) (v := .d (.fl (.int .u64 (p.2 : Int)))) rfl (og rfl (op_move rfl rfl rfl)) ?_
  refine rg_put (d := 14) (v := .d (.fl (.bool ((decide (128 ≤ (p.2 : Int))))))) rfl (og rfl (op_bin rfl rfl rfl (b_geq _ _ _ _) rfl)) ?_
  refine rg_done rfl ?_
  refine a_cond rfl (fun h1 => ?_) (fun h1 => ?_)
  · skip
    have h2 := t_dec h1
    refine a_skip ?_
    show A _ _ _ _ _ _ _
    refine a_block ?_
    refine a_rseq ?_
    refine rg_put (d := 15) (v := .ow 0) rfl (og rfl (op_move rfl rfl rfl)) ?_
    refine rg_put (d := 16) (v := .d (.fl (.int .u64 (p.2 : Int)))) rfl (og rfl (op_move rfl rfl rfl)) ?_
    refine rg_put (d := 17) (v := .d (.fl (.int .u8 ((IntKind.u8.wrap (p.2 : Int)))))) rfl (og rfl (op_convK rfl Try.underlying38 Try.underlying5 rfl rfl)) ?_
    refine rg_put (d := 18) (v := .d (.fl (.int .u8 ((bits .or .u8 ((IntKind.u8.wrap (p.2 : Int))) 128))))) rfl (og rfl (op_bin rfl rfl rfl (b_or _ _ _ _) rfl)) ?_
    rw [show (bits .or .u8 ((IntKind.u8.wrap (p.2 : Int))) 128) = ((p.2 % 128 + 128 : Nat) : Int) from or_byte p.2]
    refine rg_put (d := 19) (v := .d (.sl 1 (List.map (rI .u8) [((p.2 % 128 + 128 : Nat) : Int)]))) rfl (og rfl (of_eff (op_slices rfl Try.underlying67 ti5 rfl rfl rfl (by kernel_rfl) (xs := [.fl (.int .u8 (((p.2 % 128 + 128 : Nat) : Int)))]) rfl rfl (.cons rfl rfl (.d _) rfl rfl rfl .nil) rfl) rfl)) ?_
    refine rg_nam (d := 20) (v := .ow 101) (m := 101) (nw := [(101, .tr 5 1 (tD (rI .u8) ((p.1 ++ [((p.2 % 128 + 128 : Nat) : Int)])))), (0, .no)]) rfl (og rfl (of_eff (s_append_td 101 rfl Try.underlying67 ti5 rfl rfl rfl rfl rfl (.d _) (by simp only [List.length_append, List.length_cons, List.length_nil]; omega) rfl) rfl)) rfl ?_
    refine rg_put (d := 0) (v := .ow 101) rfl (og rfl (op_assign rfl rfl rfl)) ?_
    refine rg_done rfl ?_
    refine a_region ?_
    refine rg_put (d := 21) (v := .d (.fl (.int .u64 (p.2 : Int)))) rfl (og rfl (op_move rfl rfl rfl)) ?_
    refine rg_put (d := 22) (v := .d (.fl (.int .u64 (((p.2 : Int) / 2 ^ min ((7 : Int)).toNat IntKind.u64.bits))))) rfl (og rfl (op_bin rfl rfl rfl (fun x y w => b_shr _ _ _ _ _ x y w (by omega)) rfl)) ?_
    rw [show ((p.2 : Int) / 2 ^ min ((7 : Int)).toNat IntKind.u64.bits) = ((p.2 / 128 : Nat) : Int) from shr7 p.2]
    refine rg_put (d := 5) (v := .d (.fl (.int .u64 (((p.2 / 128 : Nat) : Int))))) rfl (og rfl (op_assign rfl rfl rfl)) ?_
    refine rg_done rfl ?_
    show ∃ i, _ ∧ _ ∧ Imp _ _ _ _ _
    refine ⟨(p.1 ++ [((p.2 % 128 + 128 : Nat) : Int)], p.2 / 128), (by refine ⟨?_, by omega⟩; rw [← hE, enc_hi (c := p.2) (by omega)]; simp), (by show p.2 / 128 < p.2; omega), imp_ren (fun m => bif Nat.beq m 0 then 101 else m) rfl ⟨rfl, rfl, rfl, (by first | rfl | exact ci (by omega) | exact ci (by simp) | exact cd (by simp) | simp), trivial⟩ ⟨rfl, (by first | rfl | simp), trivial⟩⟩
  · skip
    have h3 := f_dec h1
    refine a_exit ?_
    show A _ _ _ _ _ _ _
    refine a_rseq ?_
    refine rg_put (d := 23) (v := .ow 0) rfl (og rfl (op_move rfl rfl rfl)) ?_
    refine rg_put (d := 24) (v := .d (.fl (.int .u64 (p.2 : Int)))) rfl (og rfl (op_move rfl rfl rfl)) ?_
    refine rg_put (d := 25) (v := .d (.fl (.int .u8 ((IntKind.u8.wrap (p.2 : Int)))))) rfl (og rfl (op_convK rfl Try.underlying38 Try.underlying5 rfl rfl)) ?_
    rw [show (IntKind.u8.wrap (p.2 : Int)) = (p.2 : Int) from byte_lo (by omega)]
    refine rg_put (d := 26) (v := .d (.sl 1 (List.map (rI .u8) [(p.2 : Int)]))) rfl (og rfl (of_eff (op_slices rfl Try.underlying67 ti5 rfl rfl rfl (by kernel_rfl) (xs := [.fl (.int .u8 (p.2 : Int))]) rfl rfl (.cons rfl rfl (.d _) rfl rfl rfl .nil) rfl) rfl)) ?_
    refine rg_nam (d := 27) (v := .ow 102) (m := 102) (nw := [(102, .tr 5 1 (tD (rI .u8) ((p.1 ++ [(p.2 : Int)])))), (0, .no)]) rfl (og rfl (of_eff (s_append_td 102 rfl Try.underlying67 ti5 rfl rfl rfl rfl rfl (.d _) (by simp only [List.length_append, List.length_cons, List.length_nil]; omega) rfl) rfl)) rfl ?_
    refine rg_put (d := 4) (v := .ow 102) rfl (og rfl (op_assign rfl rfl rfl)) ?_
    refine rg_done rfl ?_
    have hR : (p.1 ++ [(p.2 : Int)]) = (l ++ icd n) := by unfold icd; rw [← hE, enc_lo (by omega)]
    rw [show (p.1 ++ [(p.2 : Int)]) = (l ++ icd n) from hR]
    refine a_ret ?_
    show ∃ m, _ ∧ _ ∧ _ ∧ _
    exact ⟨102, by decide, rfl, rfl, rfl⟩
set_option maxHeartbeats 4000000 in
set_option maxRecDepth 100000 in
theorem putI50 (l : List Int) (n : Int) (hl : l.length ≤ 3000000) (hn : -9223372036854775808 ≤ n ∧ n ≤ 9223372036854775807) : CtrO Try.prog 36 [.sl 1 (List.map (rI .u8) l), .fl (.int .i64 n)] (.tr 5 1 (tD (rI .u8) (l ++ icd n))) := by
  refine ctrO (n := 9) (rs := #[.tmp 4]) (L := [(0, .d (.sl 1 (List.map (rI .u8) l))), (1, .d (.fl (.int .i64 n)))]) Try.func36 rfl rfl rfl rfl rfl (fun w0 U0 => ?_)
  refine a_rseq ?_
  refine rg_put (d := 4) (v := .d (.fl (.slice none 0 0))) rfl (og rfl (op_assign rfl rfl rfl)) ?_
  refine rg_done rfl ?_
  refine a_rseq ?_
  refine rg_put (d := 5) (v := .d (.sl 1 (List.map (rI .u8) l))) rfl (og rfl (op_move rfl rfl rfl)) ?_
  refine rg_nam (d := 6) (v := .ow 101) (m := 101) (nw := [(101, .tr 5 1 (tD (rI .u8) l))]) rfl (og rfl (of_eff (op_callO 101 rfl Try.func39 nm39 rfl (.cons rfl (.d _) (.cons rfl (.d _) .nil)) (fresh62 l 10 (by first | omega | (simp only [List.length_append, List.length_cons, List.length_nil]; omega)) (by omega)) rfl) rfl)) rfl ?_
  refine rg_put (d := 7) (v := .d (.fl (.int .i64 n))) rfl (og rfl (op_move rfl rfl rfl)) ?_
  refine rg_nam (d := 8) (v := .ow 102) (m := 102) (nw := [(102, .tr 5 1 (tD (rI .u8) (l ++ icd n))), (101, .no)]) rfl (og rfl (of_eff (op_callT 102 rfl Try.func38 nm38 rfl rfl rfl rfl (.cons rfl (.d _) .nil) (put61 l n (by first | omega | (simp only [List.length_append, List.length_cons, List.length_nil]; omega)) (by omega)) rfl) rfl)) rfl ?_
  refine rg_put (d := 4) (v := .ow 102) rfl (og rfl (op_assign rfl rfl rfl)) ?_
  refine rg_done rfl ?_
  refine a_ret ?_
  show ∃ rv, _ = #[rv] ∧ ResO _ _ rv _
  exact ⟨_, rfl, .tmp rfl rfl⟩
set_option maxHeartbeats 4000000 in
set_option maxRecDepth 100000 in
theorem putT49 (l : List Int) (s : ByteArray) (hl : l.length ≤ 3000000) (hs : s.size ≤ 1000000) : CtrO Try.prog 35 [.sl 1 (List.map (rI .u8) l), .fl (.string s)] (.tr 5 1 (tD (rI .u8) (l ++ txb s))) := by
  refine ctrO (n := 15) (rs := #[.tmp 4]) (L := [(0, .d (.sl 1 (List.map (rI .u8) l))), (1, .d (.fl (.string s)))]) Try.func35 rfl rfl rfl rfl rfl (fun w0 U0 => ?_)
  refine a_rseq ?_
  refine rg_put (d := 4) (v := .d (.fl (.slice none 0 0))) rfl (og rfl (op_assign rfl rfl rfl)) ?_
  refine rg_done rfl ?_
  refine a_rseq ?_
  refine rg_put (d := 5) (v := .d (.sl 1 (List.map (rI .u8) l))) rfl (og rfl (op_move rfl rfl rfl)) ?_
  refine rg_put (d := 6) (v := .d (.fl (.string s))) rfl (og rfl (op_move rfl rfl rfl)) ?_
  refine rg_put (d := 7) (v := .d (.fl (.int .i64 (s.size : Int)))) rfl (og rfl (op_len_str rfl Try.underlying9 rfl rfl)) ?_
  refine rg_put (d := 8) (v := .d (.fl (.int .i64 ((10 + (s.size : Int)))))) rfl (og rfl (op_bin rfl rfl rfl (fun x y w => b_add64 _ _ _ x y w (by omega)) rfl)) ?_
  refine rg_nam (d := 9) (v := .ow 101) (m := 101) (nw := [(101, .tr 5 1 (tD (rI .u8) l))]) rfl (og rfl (of_eff (op_callO 101 rfl Try.func39 nm39 rfl (.cons rfl (.d _) (.cons rfl (.d _) .nil)) (fresh62 l ((10 + (s.size : Int))) (by first | omega | (simp only [List.length_append, List.length_cons, List.length_nil]; omega)) (by omega)) rfl) rfl)) rfl ?_
  refine rg_put (d := 10) (v := .d (.fl (.string s))) rfl (og rfl (op_move rfl rfl rfl)) ?_
  refine rg_put (d := 11) (v := .d (.fl (.int .i64 (s.size : Int)))) rfl (og rfl (op_len_str rfl Try.underlying9 rfl rfl)) ?_
  refine rg_nam (d := 12) (v := .ow 102) (m := 102) (nw := [(102, .tr 5 1 (tD (rI .u8) ((l ++ icd (s.size : Int))))), (101, .no)]) rfl (og rfl (of_eff (op_callT 102 rfl Try.func38 nm38 rfl rfl rfl rfl (.cons rfl (.d _) .nil) (put61 l (s.size : Int) (by first | omega | (simp only [List.length_append, List.length_cons, List.length_nil]; omega)) (by omega)) rfl) rfl)) rfl ?_
  refine rg_put (d := 13) (v := .d (.fl (.string s))) rfl (og rfl (op_move rfl rfl rfl)) ?_
  refine rg_nam (d := 14) (v := .ow 103) (m := 103) (nw := [(103, .tr 5 1 (tD (rI .u8) (((l ++ icd (s.size : Int)) ++ bys s)))), (102, .no)]) rfl (og rfl (of_eff (op_appendStr 103 rfl Try.underlying67 Try.underlying9 ti5 rfl rfl rfl (by have := icd_len (n := (s.size : Int)) (by omega); rw [List.length_append]; omega) rfl) rfl)) rfl ?_
  refine rg_put (d := 4) (v := .ow 103) rfl (og rfl (op_assign rfl rfl rfl)) ?_
  refine rg_done rfl ?_
  rw [show ((l ++ icd (s.size : Int)) ++ bys s) = (l ++ txb s) from by unfold txb; rw [List.append_assoc]]
  refine a_ret ?_
  show ∃ rv, _ = #[rv] ∧ ResO _ _ rv _
  exact ⟨_, rfl, .tmp rfl rfl⟩
end Go.Proofs.Ytaecdkhpidligaa.Wk
