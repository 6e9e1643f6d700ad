/- Offsets, outages, points: what a device is checked for. No condition. -/
import Derived.Test.YtajhpdmbmipboaaB7
set_option linter.unusedSimpArgs false
set_option linter.unusedVariables false
namespace Go.Proofs.Ytajhpdmbmipboaa.Wk
open Go Go.RowKit Go.Proofs.Ytajhpdmbmipboaa.Av
def of1 (l : List Of) (k : Nat) : Int := if (decide (0 < (k : Int)) && decide ((ix l k).fr ≤ (ix l ((k : Int) - 1).toNat).fr)) = true then 15 else if ((!isT (ix l k).fr || decide ((ix l k).dl < -86400)) || decide (86400 < (ix l k).dl)) = true then 1 else 0
def iv1 (l : List Iv) (k : Nat) : Int := if (!vI (ix l k)) = true then 12 else if (decide (0 < (k : Int)) && decide ((ix l k).fr ≤ (ix l ((k : Int) - 1).toNat).to)) = true then 15 else 0
def fe (f : Nat → Int) : Nat → Nat → Int
  | _, 0 => 0
  | i, n + 1 => if f i = 0 then fe f (i + 1) n else f i
theorem fe_at {f : Nat → Int} {k n : Nat} (h : k < n) : fe f k (n - k) = if f k = 0 then fe f (k + 1) (n - (k + 1)) else f k := by
  rw [show n - k = (n - (k + 1)) + 1 by omega]; rfl
theorem fe_end {f : Nat → Int} {k n : Nat} (h : ¬ k < n) : fe f k (n - k) = 0 := by
  rw [show n - k = 0 by omega]; rfl
theorem fe_no {f : Nat → Int} {k n : Nat} {c : Int} (h : k < n) (hc : c = fe f k (n - k)) (hb : f k = 0) : c = fe f (k + 1) (n - (k + 1)) := by rw [hc, fe_at h, if_pos hb]
theorem fe_yes {f : Nat → Int} {k n : Nat} {c e : Int} (h : k < n) (hc : c = fe f k (n - k)) (hb : f k = e) (he : e ≠ 0) : c = e := by rw [hc, fe_at h, hb, if_neg he]
def ofE (l : List Of) : Int := fe (of1 l) 0 l.length
def ivE (l : List Iv) : Int := fe (iv1 l) 0 l.length
theorem ofE_go (l : List Of) : ofE l = fe (of1 l) 0 (l.length - 0) := rfl
theorem ivE_go (l : List Iv) : ivE l = fe (iv1 l) 0 (l.length - 0) := rfl
def hasP (n : Nw) (s : ByteArray) : Bool := n.points.any fun p => sEq p.name s
def dup (l : List Dc) (s : ByteArray) : Bool := l.any fun d => sEq d.name s
def kdB (d : Dc) : Bool := ((decide (d.kind < 1) || decide (3 < d.kind)) || decide (d.lane < 0)) || decide (15 < d.lane)
def one (n : Nw) (d : Dc) : Int := if (!hasP n d.point) = true then 16 else if kdB d = true then 1 else if ofE d.offs ≠ 0 then ofE d.offs else ivE d.down
def dv1 (n : Nw) (l : List Dc) (k : Nat) : Int := if (!isN (ix l k).name) = true then 6 else if dup (l.take k) (ix l k).name = true then 9 else one n (ix l k)
def dvE (n : Nw) (l : List Dc) : Int := fe (dv1 n l) 0 l.length
def chk (n : Nw) (l : List Dc) : Int := if decide (1024 < (l.length : Int)) = true then 3 else dvE n l
theorem dvE_go (n : Nw) (l : List Dc) : dvE n l = fe (dv1 n l) 0 (l.length - 0) := rfl
theorem one_pt {n : Nw} {d : Dc} (h : hasP n d.point = false) : one n d = 16 := by unfold one; rw [h]; rfl
theorem one_kd {n : Nw} {d : Dc} (h : hasP n d.point = true) (h2 : kdB d = true) : one n d = 1 := by unfold one; rw [h, h2]; rfl
theorem one_of {n : Nw} {d : Dc} {e : Int} (h : hasP n d.point = true) (h2 : kdB d = false) (h3 : ofE d.offs = e) (he : e ≠ 0) : one n d = e := by unfold one; rw [h, h2, h3, if_neg (by decide), if_neg (by decide), if_pos he]
theorem one_iv {n : Nw} {d : Dc} (h : hasP n d.point = true) (h2 : kdB d = false) (h3 : ofE d.offs = 0) : one n d = ivE d.down := by unfold one; rw [h, h2, h3]; rfl
theorem dv_nm {n : Nw} {l : List Dc} {k : Nat} (h : isN (ix l k).name = false) : dv1 n l k = 6 := by unfold dv1; rw [h]; rfl
theorem dv_dup {n : Nw} {l : List Dc} {k : Nat} (h : isN (ix l k).name = true) (h2 : dup (l.take k) (ix l k).name = true) : dv1 n l k = 9 := by unfold dv1; rw [h, h2]; rfl
theorem dv_one {n : Nw} {l : List Dc} {k : Nat} (h : isN (ix l k).name = true) (h2 : dup (l.take k) (ix l k).name = false) : dv1 n l k = one n (ix l k) := by unfold dv1; rw [h, h2]; rfl
theorem chk_lim {n : Nw} {l : List Dc} (h : decide (1024 < (l.length : Int)) = true) : chk n l = 3 := by unfold chk; rw [h]; rfl
theorem chk_all {n : Nw} {l : List Dc} (h : decide (1024 < (l.length : Int)) = false) : chk n l = dvE n l := by unfold chk; rw [h]; rfl
theorem dup_no {l : List Dc} {k : Nat} (hk : k ≤ l.length) {s : ByteArray} (h : ∀ q, q < k → sEq (ix l q).name s = false) : dup (l.take k) s = false := by
  unfold dup
  refine any_no (fun q hq => ?_)
  rw [List.length_take] at hq
  rw [show ix (l.take k) q = ix l q by unfold ix; rw [List.getD_eq_getElem?_getD, List.getD_eq_getElem?_getD, List.getElem?_take_of_lt (by omega)]]
  exact h q (by omega)
theorem dup_yes {l : List Dc} {k q : Nat} (hk : k ≤ l.length) (hq : q < k) {s : ByteArray} (h : sEq (ix l q).name s = true) : dup (l.take k) s = true := by
  unfold dup
  rw [List.any_eq_true]
  refine ⟨ix l q, ?_, h⟩
  rw [← ix_eq (by omega : q < l.length)]
  exact List.mem_take_iff_getElem.2 ⟨q, by omega, rfl⟩
/-- the points, each name once -/
def ded (l : List Pn) : Nat → List Pn
  | 0 => []
  | k + 1 => if (l.take k).any (fun p => sEq p.name (ix l k).name) = true then ded l k else ded l k ++ [ix l k]
def setP (l : List Pn) : List (Value × DV) := l.map fun x => (Value.string x.name, DV.fl (.bool true))
def setD (l : List Dc) : List (Value × DV) := l.map fun x => (Value.string x.name, DV.fl (.bool true))
theorem ded_any {l : List Pn} (s : ByteArray) : ∀ k, k ≤ l.length → (ded l k).any (fun p => sEq p.name s) = (l.take k).any (fun p => sEq p.name s)
  | 0, _ => by simp [ded]
  | k + 1, h => by
    have ih := ded_any (l := l) s k (by omega)
    rw [take_ix (by omega), List.any_append]
    show (if _ then _ else _ : List Pn).any _ = _
    split
    · rename_i hd
      rw [ih]
      rcases fot (sEq (ix l k).name s) with h1 | h1
      · simp [h1]
      · have hs : (ix l k).name = s := of_decide_eq_true h1
        rw [hs] at hd
        rw [hd]; simp
    · rw [List.any_append, ih]
theorem ded_yes {l : List Pn} {k : Nat} (h : (l.take k).any (fun p => sEq p.name (ix l k).name) = true) : setP (ded l k) = setP (ded l (k + 1)) := by
  show _ = setP (if _ then _ else _)
  rw [if_pos h]
theorem ded_no {l : List Pn} {k : Nat} (h : (l.take k).any (fun p => sEq p.name (ix l k).name) = false) : setP (ded l k) ++ [(Value.string (ix l k).name, DV.fl (.bool true))] = setP (ded l (k + 1)) := by
  show _ = setP (if _ then _ else _)
  rw [if_neg (by rw [h]; decide)]
  unfold setP; rw [List.map_append]; rfl
def seenP (l : List Pn) (k : Nat) : Bool := (l.take k).any fun p => sEq p.name (ix l k).name
theorem find_P {l : List Pn} {k : Nat} (hk : k ≤ l.length) (s : ByteArray) : mfind .string (.string s) (setP (ded l k)) = some (if ((l.take k).any fun p => sEq p.name s) = true then some (.fl (.bool true)) else none) := by
  unfold setP
  rw [mfind_set Pn.name, ded_any s k hk]
theorem setD_take {l : List Dc} {k : Nat} (h : k < l.length) : setD (l.take k) ++ [(Value.string (ix l k).name, DV.fl (.bool true))] = setD (l.take (k + 1)) := by unfold setD; rw [take_ix h, List.map_append]; rfl

set_option maxHeartbeats 4000000 in
set_option maxRecDepth 100000 in
theorem ofE19 (l : List Of) (hl : l.length ≤ 1000) : Ctr Try.prog 19 [.sl 2 (List.map eOf l)] (.d (.fl (.int .i64 (ofE l)))) := by
  refine ctr (n := 40) (rs := #[.tmp 2]) (L := [(0, .d (.sl 2 (List.map eOf l)))]) Try.func19 rfl rfl rfl rfl rfl (fun w0 U0 => ?_)
  refine a_rseq ?_
  refine rg_put (d := 2) (v := .d (.fl (.int .i64 0))) rfl (og rfl (op_assign rfl rfl rfl)) ?_
  refine rg_done rfl ?_
  refine a_seq ?_
  refine a_rseq ?_
  refine rg_put (d := 5) (v := .d (.sl 2 (List.map eOf l))) rfl (og rfl (op_move rfl rfl rfl)) ?_
  refine rg_put (d := 6) (v := .d (.fl (.int .i64 (l.length : Int)))) rfl (og rfl (s_len rfl Try.underlying33 rfl rfl)) ?_
  refine rg_put (d := 7) (v := .d (.fl (.int .i64 0))) rfl (og rfl (op_move rfl rfl rfl)) ?_
  refine rg_done rfl ?_
  refine a_block ?_
  refine a_loop (ι := Nat) (fun k => SS [(0, .d (.sl 2 (List.map eOf l))), (5, .d (.sl 2 (List.map eOf l))), (6, .d (.fl (.int .i64 (l.length : Int)))), (7, .d (.fl (.int .i64 (k : Int))))] []) (fun k => k ≤ l.length ∧ ofE l = fe (of1 l) k (l.length - k)) (fun k => l.length - k) 0 (⟨by omega, ofE_go l⟩) (imp_forget rfl ⟨rfl, rfl, rfl, (by first | rfl | exact ci (by omega) | exact ci (by simp) | exact cd (by simp) | simp), trivial⟩ trivial) (fun k hok => ?_)
  obtain ⟨hk, hc⟩ := hok
  refine a_rseq ?_
  refine rg_put (d := 8) (v := .d (.fl (.bool ((decide ((k : Int) < (l.length : Int))))))) rfl (og rfl (op_bin rfl rfl rfl (b_lss _ _ _ _) rfl)) ?_
  refine rg_done rfl ?_
  refine a_seq ?_
  refine a_cond rfl (fun h1 => ?_) (fun h1 => ?_)
  · skip
    have h2 := t_dec h1
    refine a_skip ?_
    show A _ _ _ _ _ _ _
    refine a_seq ?_
    refine a_block ?_
    refine a_rseq ?_
    refine rg_put (d := 9) (v := .d (.fl (.int .i64 (k : Int)))) rfl (og rfl (op_move rfl rfl rfl)) ?_
    refine rg_put (d := 10) (v := .el ((eOf (ix l k)))) rfl (og rfl (s_index rfl Try.underlying33 ti46 rfl rfl (by omega) (row_at (by omega)) rfl)) ?_
    refine rg_put (d := 11) (v := .d (.ag (eOf (ix l k)))) rfl (og rfl (of_eff (s_load_els rfl Try.underlying46 rfl ti46 rfl rfl rfl) rfl)) ?_
    refine rg_nam (d := 4) (v := .pt 101 0) (m := 101) (nw := [(101, .bx 46 [.fl (.int .i64 0), .fl (.int .i64 0)])]) rfl (og rfl (of_eff (s_alloc 101 rfl ti46 (by kernel_rfl) rfl) rfl)) rfl ?_
    refine rg_put (d := 3) (v := .d (.fl (.int .i64 (k : Int)))) rfl (og rfl (op_assign rfl rfl rfl)) ?_
    refine rg_sto (nw := [(101, .bx 46 ((eOf (ix l k))))]) rfl (og rfl (of_eff (s_store rfl rfl ti46 rfl rfl rfl rfl rfl rfl) rfl)) ?_
    refine rg_done rfl ?_
    refine a_seq ?_
    refine a_dseq (by kernel_rfl) ?_
    refine dr_put (d := 12) (v := .d (.fl (.int .i64 (k : Int)))) rfl (og rfl (op_move rfl rfl rfl)) ?_
    refine dr_put (d := 13) (v := .d (.fl (.bool ((decide (0 < (k : Int))))))) rfl (og rfl (op_bin rfl rfl rfl (b_gtr _ _ _ _) rfl)) ?_
    refine dr_put (d := 14) (v := .d (.fl (.bool ((decide (0 < (k : Int))))))) rfl (og rfl (op_move rfl rfl rfl)) ?_
    rcases fot ((decide (0 < (k : Int)))) with h3 | h3
    · skip
      have h4 := f_dec h3
      refine dr_put (d := 15) (v := .d (.fl undef)) rfl (on rfl rfl rfl h3) ?_
      refine dr_put (d := 16) (v := .d (.fl undef)) rfl (on rfl rfl rfl h3) ?_
      refine dr_put (d := 17) (v := .d (.fl undef)) rfl (on rfl rfl rfl h3) ?_
      refine dr_put (d := 18) (v := .d (.fl undef)) rfl (on rfl rfl rfl h3) ?_
      refine dr_put (d := 19) (v := .d (.fl undef)) rfl (on rfl rfl rfl h3) ?_
      refine dr_put (d := 20) (v := .d (.fl undef)) rfl (on rfl rfl rfl h3) ?_
      refine dr_put (d := 21) (v := .d (.fl undef)) rfl (on rfl rfl rfl h3) ?_
      refine dr_put (d := 22) (v := .d (.fl undef)) rfl (on rfl rfl rfl h3) ?_
      refine dr_put (d := 23) (v := .d (.fl undef)) rfl (on rfl rfl rfl h3) ?_
      refine dr_put (d := 24) (v := .d (.fl (.bool false))) rfl (og rfl (op_pick rfl rfl (by rw [h3]; rfl) rfl)) ?_
      refine dr_done rfl (by kernel_rfl) (by kernel_rfl) ?_
      refine a_condF rfl rfl ?_
      refine a_skip ?_
      show A _ _ _ _ _ _ _
      refine a_rseq ?_
      refine rg_put (d := 25) (v := .pt 101 0) rfl (og rfl (of_eff (s_field_pt rfl Try.underlying46 rfl ti3 rfl rfl rfl) rfl)) ?_
      refine rg_put (d := 26) (v := .d (.fl (.int .i64 ((ix l k).fr)))) rfl (og rfl (op_load_pt rfl Try.underlying3 rfl rfl rfl rfl rfl)) ?_
      refine rg_put (d := 27) (v := .d (.fl (.bool ((isT ((ix l k).fr)))))) rfl (og rfl (op_call rfl Try.func23 nm23 rfl (.cons rfl (.d _) .nil) (isT23 ((ix l k).fr)) rfl)) ?_
      refine rg_put (d := 28) (v := .d (.fl (.bool ((!((isT ((ix l k).fr)))))))) rfl (og rfl (op_un rfl rfl (u_not _) rfl)) ?_
      refine rg_put (d := 29) (v := .d (.fl (.bool ((!((isT ((ix l k).fr)))))))) rfl (og rfl (op_move rfl rfl rfl)) ?_
      rcases fot ((!((isT ((ix l k).fr))))) with h5 | h5
      · skip
        have h6 := f_not h5
        refine rg_put (d := 30) (v := .pt 101 1) rfl (oy rfl rfl rfl h5 (of_eff (s_field_pt rfl Try.underlying46 rfl ti3 rfl rfl rfl) rfl)) ?_
        refine rg_put (d := 31) (v := .d (.fl (.int .i64 ((ix l k).dl)))) rfl (oy rfl rfl rfl h5 (op_load_pt rfl Try.underlying3 rfl rfl rfl rfl rfl)) ?_
        refine rg_put (d := 32) (v := .d (.fl (.bool ((decide ((ix l k).dl < (-86400))))))) rfl (oy rfl rfl rfl h5 (op_bin rfl rfl rfl (b_lss _ _ _ _) rfl)) ?_
        refine rg_put (d := 33) (v := .d (.fl (.bool ((decide ((ix l k).dl < (-86400))))))) rfl (og rfl (op_pick rfl rfl (by rw [h5]; rfl) rfl)) ?_
        refine rg_put (d := 34) (v := .d (.fl (.bool ((decide ((ix l k).dl < (-86400))))))) rfl (og rfl (op_move rfl rfl rfl)) ?_
        rcases fot ((decide ((ix l k).dl < (-86400)))) with h7 | h7
        · skip
          have h8 := f_dec h7
          refine rg_put (d := 35) (v := .pt 101 1) rfl (oy rfl rfl rfl h7 (of_eff (s_field_pt rfl Try.underlying46 rfl ti3 rfl rfl rfl) rfl)) ?_
          refine rg_put (d := 36) (v := .d (.fl (.int .i64 ((ix l k).dl)))) rfl (oy rfl rfl rfl h7 (op_load_pt rfl Try.underlying3 rfl rfl rfl rfl rfl)) ?_
          refine rg_put (d := 37) (v := .d (.fl (.bool ((decide (86400 < (ix l k).dl)))))) rfl (oy rfl rfl rfl h7 (op_bin rfl rfl rfl (b_gtr _ _ _ _) rfl)) ?_
          refine rg_put (d := 38) (v := .d (.fl (.bool ((decide (86400 < (ix l k).dl)))))) rfl (og rfl (op_pick rfl rfl (by rw [h7]; rfl) rfl)) ?_
          refine rg_done rfl ?_
          refine a_cond rfl (fun h9 => ?_) (fun h9 => ?_)
          · skip
            have h10 := t_dec h9
            refine a_rseq ?_
            refine rg_put (d := 2) (v := .d (.fl (.int .i64 1))) rfl (og rfl (op_assign rfl rfl rfl)) ?_
            refine rg_done rfl ?_
            refine a_ret ?_
            show ∃ ds, ResL _ _ _ ds ∧ RV.of ds = _
            refine ⟨[.fl (.int .i64 1)], (.cons (.tmp rfl (.d _)) .nil), ?_⟩
            have hb : of1 l k = 1 := by unfold of1; simp only [h1, h3, h5, h6, h7, h9, Bool.true_and, Bool.false_and, Bool.and_true, Bool.and_false, Bool.true_or, Bool.false_or, Bool.or_true, Bool.or_false] <;> rfl
            rw [fe_yes (by omega) hc hb (by decide)]; rfl
          · skip
            have h11 := f_dec h9
            refine a_skip ?_
            show A _ _ _ _ _ _ _
            refine a_region ?_
            refine rg_put (d := 39) (v := .d (.fl (.int .i64 (((k : Int) + 1))))) rfl (og rfl (op_bin rfl rfl rfl (fun x y w => b_add64 _ _ _ x y w (by omega)) rfl)) ?_
            refine rg_put (d := 7) (v := .d (.fl (.int .i64 (((k : Int) + 1))))) rfl (og rfl (op_move rfl rfl rfl)) ?_
            refine rg_done rfl ?_
            have hb : of1 l k = 0 := by unfold of1; simp only [h1, h3, h5, h6, h7, h9, Bool.true_and, Bool.false_and, Bool.and_true, Bool.and_false, Bool.true_or, Bool.false_or, Bool.or_true, Bool.or_false] <;> rfl
            show ∃ i, _ ∧ _ ∧ Imp _ _ _ _ _
            refine ⟨k + 1, ⟨by omega, fe_no (by omega) hc hb⟩, by omega, imp_forget rfl ⟨rfl, rfl, rfl, (by first | rfl | exact ci (by omega) | exact ci (by simp) | exact cd (by simp) | simp), trivial⟩ trivial⟩
        · skip
          have h12 := t_dec h7
          refine rg_put (d := 35) (v := .d (.fl undef)) rfl (on rfl rfl rfl h7) ?_
          refine rg_put (d := 36) (v := .d (.fl undef)) rfl (on rfl rfl rfl h7) ?_
          refine rg_put (d := 37) (v := .d (.fl undef)) rfl (on rfl rfl rfl h7) ?_
          refine rg_put (d := 38) (v := .d (.fl (.bool true))) rfl (og rfl (op_pick rfl rfl (by rw [h7]; rfl) rfl)) ?_
          refine rg_done rfl ?_
          refine a_condK rfl rfl ?_
          refine a_rseq ?_
          refine rg_put (d := 2) (v := .d (.fl (.int .i64 1))) rfl (og rfl (op_assign rfl rfl rfl)) ?_
          refine rg_done rfl ?_
          refine a_ret ?_
          show ∃ ds, ResL _ _ _ ds ∧ RV.of ds = _
          refine ⟨[.fl (.int .i64 1)], (.cons (.tmp rfl (.d _)) .nil), ?_⟩
          have hb : of1 l k = 1 := by unfold of1; simp only [h1, h3, h5, h6, h7, Bool.true_and, Bool.false_and, Bool.and_true, Bool.and_false, Bool.true_or, Bool.false_or, Bool.or_true, Bool.or_false] <;> rfl
          rw [fe_yes (by omega) hc hb (by decide)]; rfl
      · skip
        have h13 := t_not h5
        refine rg_put (d := 30) (v := .d (.fl undef)) rfl (on rfl rfl rfl h5) ?_
        refine rg_put (d := 31) (v := .d (.fl undef)) rfl (on rfl rfl rfl h5) ?_
        refine rg_put (d := 32) (v := .d (.fl undef)) rfl (on rfl rfl rfl h5) ?_
        refine rg_put (d := 33) (v := .d (.fl (.bool true))) rfl (og rfl (op_pick rfl rfl (by rw [h5]; rfl) rfl)) ?_
        refine rg_put (d := 34) (v := .d (.fl (.bool true))) rfl (og rfl (op_move rfl rfl rfl)) ?_
        refine rg_put (d := 35) (v := .d (.fl undef)) rfl (on rfl rfl rfl rfl) ?_
        refine rg_put (d := 36) (v := .d (.fl undef)) rfl (on rfl rfl rfl rfl) ?_
        refine rg_put (d := 37) (v := .d (.fl undef)) rfl (on rfl rfl rfl rfl) ?_
        refine rg_put (d := 38) (v := .d (.fl (.bool true))) rfl (og rfl (op_pick rfl rfl rfl rfl)) ?_
        refine rg_done rfl ?_
        refine a_condK rfl rfl ?_
        refine a_rseq ?_
        refine rg_put (d := 2) (v := .d (.fl (.int .i64 1))) rfl (og rfl (op_assign rfl rfl rfl)) ?_
        refine rg_done rfl ?_
        refine a_ret ?_
        show ∃ ds, ResL _ _ _ ds ∧ RV.of ds = _
        refine ⟨[.fl (.int .i64 1)], (.cons (.tmp rfl (.d _)) .nil), ?_⟩
        have hb : of1 l k = 1 := by unfold of1; simp only [h1, h3, h5, h13, Bool.true_and, Bool.false_and, Bool.and_true, Bool.and_false, Bool.true_or, Bool.false_or, Bool.or_true, Bool.or_false] <;> rfl
        rw [fe_yes (by omega) hc hb (by decide)]; rfl
    · skip
      have h14 := t_dec h3
      refine dr_put (d := 15) (v := .pt 101 0) rfl (oy rfl rfl rfl h3 (of_eff (s_field_pt rfl Try.underlying46 rfl ti3 rfl rfl rfl) rfl)) ?_
      refine dr_put (d := 16) (v := .d (.fl (.int .i64 ((ix l k).fr)))) rfl (oy rfl rfl rfl h3 (op_load_pt rfl Try.underlying3 rfl rfl rfl rfl rfl)) ?_
      refine dr_put (d := 17) (v := .d (.sl 2 (List.map eOf l))) rfl (oy rfl rfl rfl h3 (op_move rfl rfl rfl)) ?_
      refine dr_put (d := 18) (v := .d (.fl (.int .i64 (k : Int)))) rfl (oy rfl rfl rfl h3 (op_move rfl rfl rfl)) ?_
      refine dr_put (d := 19) (v := .d (.fl (.int .i64 (((k : Int) - 1))))) rfl (oy rfl rfl rfl h3 (op_bin rfl rfl rfl (fun x y w => b_sub64 _ _ _ x y w (by omega)) rfl)) ?_
      refine dr_put (d := 20) (v := .el ((eOf ((ix l (((k : Int) - 1)).toNat))))) rfl (oy rfl rfl rfl h3 (s_index rfl Try.underlying33 ti46 rfl rfl (by omega) (row_atI (by omega) (by omega)) rfl)) ?_
      refine dr_put (d := 21) (v := .el ((List.drop 0 ((eOf ((ix l (((k : Int) - 1)).toNat))))))) rfl (oy rfl rfl rfl h3 (of_eff (s_field_el rfl Try.underlying46 rfl ti3 rfl rfl rfl) rfl)) ?_
      refine dr_put (d := 22) (v := .d (.fl (.int .i64 (((ix l (((k : Int) - 1)).toNat)).fr)))) rfl (oy rfl rfl rfl h3 (op_load_el rfl Try.underlying3 rfl rfl rfl rfl)) ?_
      refine dr_put (d := 23) (v := .d (.fl (.bool ((decide ((ix l k).fr ≤ ((ix l (((k : Int) - 1)).toNat)).fr)))))) rfl (oy rfl rfl rfl h3 (op_bin rfl rfl rfl (b_leq _ _ _ _) rfl)) ?_
      refine dr_put (d := 24) (v := .d (.fl (.bool ((decide ((ix l k).fr ≤ ((ix l (((k : Int) - 1)).toNat)).fr)))))) rfl (og rfl (op_pick rfl rfl (by rw [h3]; rfl) rfl)) ?_
      refine dr_done rfl (by kernel_rfl) (by kernel_rfl) ?_
      refine a_cond rfl (fun h15 => ?_) (fun h15 => ?_)
      · skip
        have h16 := t_dec h15
        refine a_rseq ?_
        refine rg_put (d := 2) (v := .d (.fl (.int .i64 15))) rfl (og rfl (op_assign rfl rfl rfl)) ?_
        refine rg_done rfl ?_
        refine a_ret ?_
        show ∃ ds, ResL _ _ _ ds ∧ RV.of ds = _
        refine ⟨[.fl (.int .i64 15)], (.cons (.tmp rfl (.d _)) .nil), ?_⟩
        have hb : of1 l k = 15 := by unfold of1; simp only [h1, h3, h15, Bool.true_and, Bool.false_and, Bool.and_true, Bool.and_false, Bool.true_or, Bool.false_or, Bool.or_true, Bool.or_false] <;> rfl
        rw [fe_yes (by omega) hc hb (by decide)]; rfl
      · skip
        have h17 := f_dec h15
        refine a_skip ?_
        show A _ _ _ _ _ _ _
        refine a_rseq ?_
        refine rg_put (d := 25) (v := .pt 101 0) rfl (og rfl (of_eff (s_field_pt rfl Try.underlying46 rfl ti3 rfl rfl rfl) rfl)) ?_
        refine rg_put (d := 26) (v := .d (.fl (.int .i64 ((ix l k).fr)))) rfl (og rfl (op_load_pt rfl Try.underlying3 rfl rfl rfl rfl rfl)) ?_
        refine rg_put (d := 27) (v := .d (.fl (.bool ((isT ((ix l k).fr)))))) rfl (og rfl (op_call rfl Try.func23 nm23 rfl (.cons rfl (.d _) .nil) (isT23 ((ix l k).fr)) rfl)) ?_
        refine rg_put (d := 28) (v := .d (.fl (.bool ((!((isT ((ix l k).fr)))))))) rfl (og rfl (op_un rfl rfl (u_not _) rfl)) ?_
        refine rg_put (d := 29) (v := .d (.fl (.bool ((!((isT ((ix l k).fr)))))))) rfl (og rfl (op_move rfl rfl rfl)) ?_
        rcases fot ((!((isT ((ix l k).fr))))) with h18 | h18
        · skip
          have h19 := f_not h18
          refine rg_put (d := 30) (v := .pt 101 1) rfl (oy rfl rfl rfl h18 (of_eff (s_field_pt rfl Try.underlying46 rfl ti3 rfl rfl rfl) rfl)) ?_
          refine rg_put (d := 31) (v := .d (.fl (.int .i64 ((ix l k).dl)))) rfl (oy rfl rfl rfl h18 (op_load_pt rfl Try.underlying3 rfl rfl rfl rfl rfl)) ?_
          refine rg_put (d := 32) (v := .d (.fl (.bool ((decide ((ix l k).dl < (-86400))))))) rfl (oy rfl rfl rfl h18 (op_bin rfl rfl rfl (b_lss _ _ _ _) rfl)) ?_
          refine rg_put (d := 33) (v := .d (.fl (.bool ((decide ((ix l k).dl < (-86400))))))) rfl (og rfl (op_pick rfl rfl (by rw [h18]; rfl) rfl)) ?_
          refine rg_put (d := 34) (v := .d (.fl (.bool ((decide ((ix l k).dl < (-86400))))))) rfl (og rfl (op_move rfl rfl rfl)) ?_
          rcases fot ((decide ((ix l k).dl < (-86400)))) with h20 | h20
          · skip
            have h21 := f_dec h20
            refine rg_put (d := 35) (v := .pt 101 1) rfl (oy rfl rfl rfl h20 (of_eff (s_field_pt rfl Try.underlying46 rfl ti3 rfl rfl rfl) rfl)) ?_
            refine rg_put (d := 36) (v := .d (.fl (.int .i64 ((ix l k).dl)))) rfl (oy rfl rfl rfl h20 (op_load_pt rfl Try.underlying3 rfl rfl rfl rfl rfl)) ?_
            refine rg_put (d := 37) (v := .d (.fl (.bool ((decide (86400 < (ix l k).dl)))))) rfl (oy rfl rfl rfl h20 (op_bin rfl rfl rfl (b_gtr _ _ _ _) rfl)) ?_
            refine rg_put (d := 38) (v := .d (.fl (.bool ((decide (86400 < (ix l k).dl)))))) rfl (og rfl (op_pick rfl rfl (by rw [h20]; rfl) rfl)) ?_
            refine rg_done rfl ?_
            refine a_cond rfl (fun h22 => ?_) (fun h22 => ?_)
            · skip
              have h23 := t_dec h22
              refine a_rseq ?_
              refine rg_put (d := 2) (v := .d (.fl (.int .i64 1))) rfl (og rfl (op_assign rfl rfl rfl)) ?_
              refine rg_done rfl ?_
              refine a_ret ?_
              show ∃ ds, ResL _ _ _ ds ∧ RV.of ds = _
              refine ⟨[.fl (.int .i64 1)], (.cons (.tmp rfl (.d _)) .nil), ?_⟩
              have hb : of1 l k = 1 := by unfold of1; simp only [h1, h3, h15, h18, h19, h20, h22, Bool.true_and, Bool.false_and, Bool.and_true, Bool.and_false, Bool.true_or, Bool.false_or, Bool.or_true, Bool.or_false] <;> rfl
              rw [fe_yes (by omega) hc hb (by decide)]; rfl
            · skip
              have h24 := f_dec h22
              refine a_skip ?_
              show A _ _ _ _ _ _ _
              refine a_region ?_
              refine rg_put (d := 39) (v := .d (.fl (.int .i64 (((k : Int) + 1))))) rfl (og rfl (op_bin rfl rfl rfl (fun x y w => b_add64 _ _ _ x y w (by omega)) rfl)) ?_
              refine rg_put (d := 7) (v := .d (.fl (.int .i64 (((k : Int) + 1))))) rfl (og rfl (op_move rfl rfl rfl)) ?_
              refine rg_done rfl ?_
              have hb : of1 l k = 0 := by unfold of1; simp only [h1, h3, h15, h18, h19, h20, h22, Bool.true_and, Bool.false_and, Bool.and_true, Bool.and_false, Bool.true_or, Bool.false_or, Bool.or_true, Bool.or_false] <;> rfl
              show ∃ i, _ ∧ _ ∧ Imp _ _ _ _ _
              refine ⟨k + 1, ⟨by omega, fe_no (by omega) hc hb⟩, by omega, imp_forget rfl ⟨rfl, rfl, rfl, (by first | rfl | exact ci (by omega) | exact ci (by simp) | exact cd (by simp) | simp), trivial⟩ trivial⟩
          · skip
            have h25 := t_dec h20
            refine rg_put (d := 35) (v := .d (.fl undef)) rfl (on rfl rfl rfl h20) ?_
            refine rg_put (d := 36) (v := .d (.fl undef)) rfl (on rfl rfl rfl h20) ?_
            refine rg_put (d := 37) (v := .d (.fl undef)) rfl (on rfl rfl rfl h20) ?_
            refine rg_put (d := 38) (v := .d (.fl (.bool true))) rfl (og rfl (op_pick rfl rfl (by rw [h20]; rfl) rfl)) ?_
            refine rg_done rfl ?_
            refine a_condK rfl rfl ?_
            refine a_rseq ?_
            refine rg_put (d := 2) (v := .d (.fl (.int .i64 1))) rfl (og rfl (op_assign rfl rfl rfl)) ?_
            refine rg_done rfl ?_
            refine a_ret ?_
            show ∃ ds, ResL _ _ _ ds ∧ RV.of ds = _
            refine ⟨[.fl (.int .i64 1)], (.cons (.tmp rfl (.d _)) .nil), ?_⟩
            have hb : of1 l k = 1 := by unfold of1; simp only [h1, h3, h15, h18, h19, h20, Bool.true_and, Bool.false_and, Bool.and_true, Bool.and_false, Bool.true_or, Bool.false_or, Bool.or_true, Bool.or_false] <;> rfl
            rw [fe_yes (by omega) hc hb (by decide)]; rfl
        · skip
          have h26 := t_not h18
          refine rg_put (d := 30) (v := .d (.fl undef)) rfl (on rfl rfl rfl h18) ?_
          refine rg_put (d := 31) (v := .d (.fl undef)) rfl (on rfl rfl rfl h18) ?_
          refine rg_put (d := 32) (v := .d (.fl undef)) rfl (on rfl rfl rfl h18) ?_
          refine rg_put (d := 33) (v := .d (.fl (.bool true))) rfl (og rfl (op_pick rfl rfl (by rw [h18]; rfl) rfl)) ?_
          refine rg_put (d := 34) (v := .d (.fl (.bool true))) rfl (og rfl (op_move rfl rfl rfl)) ?_
          refine rg_put (d := 35) (v := .d (.fl undef)) rfl (on rfl rfl rfl rfl) ?_
          refine rg_put (d := 36) (v := .d (.fl undef)) rfl (on rfl rfl rfl rfl) ?_
          refine rg_put (d := 37) (v := .d (.fl undef)) rfl (on rfl rfl rfl rfl) ?_
          refine rg_put (d := 38) (v := .d (.fl (.bool true))) rfl (og rfl (op_pick rfl rfl rfl rfl)) ?_
          refine rg_done rfl ?_
          refine a_condK rfl rfl ?_
          refine a_rseq ?_
          refine rg_put (d := 2) (v := .d (.fl (.int .i64 1))) rfl (og rfl (op_assign rfl rfl rfl)) ?_
          refine rg_done rfl ?_
          refine a_ret ?_
          show ∃ ds, ResL _ _ _ ds ∧ RV.of ds = _
          refine ⟨[.fl (.int .i64 1)], (.cons (.tmp rfl (.d _)) .nil), ?_⟩
          have hb : of1 l k = 1 := by unfold of1; simp only [h1, h3, h15, h18, h26, Bool.true_and, Bool.false_and, Bool.and_true, Bool.and_false, Bool.true_or, Bool.false_or, Bool.or_true, Bool.or_false] <;> rfl
          rw [fe_yes (by omega) hc hb (by decide)]; rfl
  · skip
    have h27 := f_dec h1
    refine a_exit ?_
    show A _ _ _ _ _ _ _
    refine a_rseq ?_
    refine rg_put (d := 2) (v := .d (.fl (.int .i64 0))) rfl (og rfl (op_assign rfl rfl rfl)) ?_
    refine rg_done rfl ?_
    refine a_ret ?_
    show ∃ ds, ResL _ _ _ ds ∧ RV.of ds = _
    refine ⟨[.fl (.int .i64 0)], (.cons (.tmp rfl (.d _)) .nil), ?_⟩
    rw [fe_end (by omega)] at hc
    rw [hc]; rfl
set_option maxHeartbeats 4000000 in
set_option maxRecDepth 100000 in
theorem ivE20 (l : List Iv) (hl : l.length ≤ 1000) : Ctr Try.prog 20 [.sl 2 (List.map eIv l)] (.d (.fl (.int .i64 (ivE l)))) := by
  refine ctr (n := 29) (rs := #[.tmp 2]) (L := [(0, .d (.sl 2 (List.map eIv l)))]) Try.func20 rfl rfl rfl rfl rfl (fun w0 U0 => ?_)
  refine a_rseq ?_
  refine rg_put (d := 2) (v := .d (.fl (.int .i64 0))) rfl (og rfl (op_assign rfl rfl rfl)) ?_
  refine rg_done rfl ?_
  refine a_seq ?_
  refine a_rseq ?_
  refine rg_put (d := 5) (v := .d (.sl 2 (List.map eIv l))) rfl (og rfl (op_move rfl rfl rfl)) ?_
  refine rg_put (d := 6) (v := .d (.fl (.int .i64 (l.length : Int)))) rfl (og rfl (s_len rfl Try.underlying34 rfl rfl)) ?_
  refine rg_put (d := 7) (v := .d (.fl (.int .i64 0))) rfl (og rfl (op_move rfl rfl rfl)) ?_
  refine rg_done rfl ?_
  refine a_block ?_
  refine a_loop (ι := Nat) (fun k => SS [(0, .d (.sl 2 (List.map eIv l))), (5, .d (.sl 2 (List.map eIv l))), (6, .d (.fl (.int .i64 (l.length : Int)))), (7, .d (.fl (.int .i64 (k : Int))))] []) (fun k => k ≤ l.length ∧ ivE l = fe (iv1 l) k (l.length - k)) (fun k => l.length - k) 0 (⟨by omega, ivE_go l⟩) (imp_forget rfl ⟨rfl, rfl, rfl, (by first | rfl | exact ci (by omega) | exact ci (by simp) | exact cd (by simp) | simp), trivial⟩ trivial) (fun k hok => ?_)
  obtain ⟨hk, hc⟩ := hok
  refine a_rseq ?_
  refine rg_put (d := 8) (v := .d (.fl (.bool ((decide ((k : Int) < (l.length : Int))))))) rfl (og rfl (op_bin rfl rfl rfl (b_lss _ _ _ _) rfl)) ?_
  refine rg_done rfl ?_
  refine a_seq ?_
  refine a_cond rfl (fun h1 => ?_) (fun h1 => ?_)
  · skip
    have h2 := t_dec h1
    refine a_skip ?_
    show A _ _ _ _ _ _ _
    refine a_seq ?_
    refine a_block ?_
    refine a_rseq ?_
    refine rg_put (d := 9) (v := .d (.fl (.int .i64 (k : Int)))) rfl (og rfl (op_move rfl rfl rfl)) ?_
    refine rg_put (d := 10) (v := .el ((eIv (ix l k)))) rfl (og rfl (s_index rfl Try.underlying34 ti48 rfl rfl (by omega) (row_at (by omega)) rfl)) ?_
    refine rg_put (d := 11) (v := .d (.ag (eIv (ix l k)))) rfl (og rfl (of_eff (s_load_els rfl Try.underlying48 rfl ti48 rfl rfl rfl) rfl)) ?_
    refine rg_nam (d := 4) (v := .pt 101 0) (m := 101) (nw := [(101, .bx 48 [.fl (.int .i64 0), .fl (.int .i64 0)])]) rfl (og rfl (of_eff (s_alloc 101 rfl ti48 (by kernel_rfl) rfl) rfl)) rfl ?_
    refine rg_put (d := 3) (v := .d (.fl (.int .i64 (k : Int)))) rfl (og rfl (op_assign rfl rfl rfl)) ?_
    refine rg_sto (nw := [(101, .bx 48 ((eIv (ix l k))))]) rfl (og rfl (of_eff (s_store rfl rfl ti48 rfl rfl rfl rfl rfl rfl) rfl)) ?_
    refine rg_done rfl ?_
    refine a_seq ?_
    refine a_rseq ?_
    refine rg_put (d := 12) (v := .d (.ag (eIv (ix l k)))) rfl (og rfl (of_eff (s_load_pts rfl Try.underlying48 rfl ti48 rfl rfl rfl rfl) rfl)) ?_
    refine rg_put (d := 13) (v := .d (.fl (.bool ((vI (ix l k)))))) rfl (og rfl (op_call rfl Try.func34 nm34 rfl (.cons rfl (.d _) .nil) (vI34 (ix l k)) rfl)) ?_
    refine rg_put (d := 14) (v := .d (.fl (.bool ((!((vI (ix l k)))))))) rfl (og rfl (op_un rfl rfl (u_not _) rfl)) ?_
    refine rg_done rfl ?_
    refine a_cond rfl (fun h3 => ?_) (fun h3 => ?_)
    · skip
      have h4 := t_not h3
      refine a_rseq ?_
      refine rg_put (d := 2) (v := .d (.fl (.int .i64 12))) rfl (og rfl (op_assign rfl rfl rfl)) ?_
      refine rg_done rfl ?_
      refine a_ret ?_
      show ∃ ds, ResL _ _ _ ds ∧ RV.of ds = _
      refine ⟨[.fl (.int .i64 12)], (.cons (.tmp rfl (.d _)) .nil), ?_⟩
      have hb : iv1 l k = 12 := by unfold iv1; simp only [h1, h3, h4, Bool.true_and, Bool.false_and, Bool.and_true, Bool.and_false, Bool.true_or, Bool.false_or, Bool.or_true, Bool.or_false] <;> rfl
      rw [fe_yes (by omega) hc hb (by decide)]; rfl
    · skip
      have h5 := f_not h3
      refine a_skip ?_
      show A _ _ _ _ _ _ _
      refine a_dseq (by kernel_rfl) ?_
      refine dr_put (d := 15) (v := .d (.fl (.int .i64 (k : Int)))) rfl (og rfl (op_move rfl rfl rfl)) ?_
      refine dr_put (d := 16) (v := .d (.fl (.bool ((decide (0 < (k : Int))))))) rfl (og rfl (op_bin rfl rfl rfl (b_gtr _ _ _ _) rfl)) ?_
      refine dr_put (d := 17) (v := .d (.fl (.bool ((decide (0 < (k : Int))))))) rfl (og rfl (op_move rfl rfl rfl)) ?_
      rcases fot ((decide (0 < (k : Int)))) with h6 | h6
      · skip
        have h7 := f_dec h6
        refine dr_put (d := 18) (v := .d (.fl undef)) rfl (on rfl rfl rfl h6) ?_
        refine dr_put (d := 19) (v := .d (.fl undef)) rfl (on rfl rfl rfl h6) ?_
        refine dr_put (d := 20) (v := .d (.fl undef)) rfl (on rfl rfl rfl h6) ?_
        refine dr_put (d := 21) (v := .d (.fl undef)) rfl (on rfl rfl rfl h6) ?_
        refine dr_put (d := 22) (v := .d (.fl undef)) rfl (on rfl rfl rfl h6) ?_
        refine dr_put (d := 23) (v := .d (.fl undef)) rfl (on rfl rfl rfl h6) ?_
        refine dr_put (d := 24) (v := .d (.fl undef)) rfl (on rfl rfl rfl h6) ?_
        refine dr_put (d := 25) (v := .d (.fl undef)) rfl (on rfl rfl rfl h6) ?_
        refine dr_put (d := 26) (v := .d (.fl undef)) rfl (on rfl rfl rfl h6) ?_
        refine dr_put (d := 27) (v := .d (.fl (.bool false))) rfl (og rfl (op_pick rfl rfl (by rw [h6]; rfl) rfl)) ?_
        refine dr_done rfl (by kernel_rfl) (by kernel_rfl) ?_
        refine a_condF rfl rfl ?_
        refine a_skip ?_
        show A _ _ _ _ _ _ _
        refine a_region ?_
        refine rg_put (d := 28) (v := .d (.fl (.int .i64 (((k : Int) + 1))))) rfl (og rfl (op_bin rfl rfl rfl (fun x y w => b_add64 _ _ _ x y w (by omega)) rfl)) ?_
        refine rg_put (d := 7) (v := .d (.fl (.int .i64 (((k : Int) + 1))))) rfl (og rfl (op_move rfl rfl rfl)) ?_
        refine rg_done rfl ?_
        have hb : iv1 l k = 0 := by unfold iv1; simp only [h1, h3, h5, h6, Bool.true_and, Bool.false_and, Bool.and_true, Bool.and_false, Bool.true_or, Bool.false_or, Bool.or_true, Bool.or_false] <;> rfl
        show ∃ i, _ ∧ _ ∧ Imp _ _ _ _ _
        refine ⟨k + 1, ⟨by omega, fe_no (by omega) hc hb⟩, by omega, imp_forget rfl ⟨rfl, rfl, rfl, (by first | rfl | exact ci (by omega) | exact ci (by simp) | exact cd (by simp) | simp), trivial⟩ trivial⟩
      · skip
        have h8 := t_dec h6
        refine dr_put (d := 18) (v := .pt 101 0) rfl (oy rfl rfl rfl h6 (of_eff (s_field_pt rfl Try.underlying48 rfl ti3 rfl rfl rfl) rfl)) ?_
        refine dr_put (d := 19) (v := .d (.fl (.int .i64 ((ix l k).fr)))) rfl (oy rfl rfl rfl h6 (op_load_pt rfl Try.underlying3 rfl rfl rfl rfl rfl)) ?_
        refine dr_put (d := 20) (v := .d (.sl 2 (List.map eIv l))) rfl (oy rfl rfl rfl h6 (op_move rfl rfl rfl)) ?_
        refine dr_put (d := 21) (v := .d (.fl (.int .i64 (k : Int)))) rfl (oy rfl rfl rfl h6 (op_move rfl rfl rfl)) ?_
        refine dr_put (d := 22) (v := .d (.fl (.int .i64 (((k : Int) - 1))))) rfl (oy rfl rfl rfl h6 (op_bin rfl rfl rfl (fun x y w => b_sub64 _ _ _ x y w (by omega)) rfl)) ?_
        refine dr_put (d := 23) (v := .el ((eIv ((ix l (((k : Int) - 1)).toNat))))) rfl (oy rfl rfl rfl h6 (s_index rfl Try.underlying34 ti48 rfl rfl (by omega) (row_atI (by omega) (by omega)) rfl)) ?_
        refine dr_put (d := 24) (v := .el ((List.drop 1 ((eIv ((ix l (((k : Int) - 1)).toNat))))))) rfl (oy rfl rfl rfl h6 (of_eff (s_field_el rfl Try.underlying48 rfl ti3 rfl rfl rfl) rfl)) ?_
        refine dr_put (d := 25) (v := .d (.fl (.int .i64 (((ix l (((k : Int) - 1)).toNat)).to)))) rfl (oy rfl rfl rfl h6 (op_load_el rfl Try.underlying3 rfl rfl rfl rfl)) ?_
        refine dr_put (d := 26) (v := .d (.fl (.bool ((decide ((ix l k).fr ≤ ((ix l (((k : Int) - 1)).toNat)).to)))))) rfl (oy rfl rfl rfl h6 (op_bin rfl rfl rfl (b_leq _ _ _ _) rfl)) ?_
        refine dr_put (d := 27) (v := .d (.fl (.bool ((decide ((ix l k).fr ≤ ((ix l (((k : Int) - 1)).toNat)).to)))))) rfl (og rfl (op_pick rfl rfl (by rw [h6]; rfl) rfl)) ?_
        refine dr_done rfl (by kernel_rfl) (by kernel_rfl) ?_
        refine a_cond rfl (fun h9 => ?_) (fun h9 => ?_)
        · skip
          have h10 := t_dec h9
          refine a_rseq ?_
          refine rg_put (d := 2) (v := .d (.fl (.int .i64 15))) rfl (og rfl (op_assign rfl rfl rfl)) ?_
          refine rg_done rfl ?_
          refine a_ret ?_
          show ∃ ds, ResL _ _ _ ds ∧ RV.of ds = _
          refine ⟨[.fl (.int .i64 15)], (.cons (.tmp rfl (.d _)) .nil), ?_⟩
          have hb : iv1 l k = 15 := by unfold iv1; simp only [h1, h3, h5, h6, h9, Bool.true_and, Bool.false_and, Bool.and_true, Bool.and_false, Bool.true_or, Bool.false_or, Bool.or_true, Bool.or_false] <;> rfl
          rw [fe_yes (by omega) hc hb (by decide)]; rfl
        · skip
          have h11 := f_dec h9
          refine a_skip ?_
          show A _ _ _ _ _ _ _
          refine a_region ?_
          refine rg_put (d := 28) (v := .d (.fl (.int .i64 (((k : Int) + 1))))) rfl (og rfl (op_bin rfl rfl rfl (fun x y w => b_add64 _ _ _ x y w (by omega)) rfl)) ?_
          refine rg_put (d := 7) (v := .d (.fl (.int .i64 (((k : Int) + 1))))) rfl (og rfl (op_move rfl rfl rfl)) ?_
          refine rg_done rfl ?_
          have hb : iv1 l k = 0 := by unfold iv1; simp only [h1, h3, h5, h6, h9, Bool.true_and, Bool.false_and, Bool.and_true, Bool.and_false, Bool.true_or, Bool.false_or, Bool.or_true, Bool.or_false] <;> rfl
          show ∃ i, _ ∧ _ ∧ Imp _ _ _ _ _
          refine ⟨k + 1, ⟨by omega, fe_no (by omega) hc hb⟩, by omega, imp_forget rfl ⟨rfl, rfl, rfl, (by first | rfl | exact ci (by omega) | exact ci (by simp) | exact cd (by simp) | simp), trivial⟩ trivial⟩
  · skip
    have h12 := f_dec h1
    refine a_exit ?_
    show A _ _ _ _ _ _ _
    refine a_rseq ?_
    refine rg_put (d := 2) (v := .d (.fl (.int .i64 0))) rfl (og rfl (op_assign rfl rfl rfl)) ?_
    refine rg_done rfl ?_
    refine a_ret ?_
    show ∃ ds, ResL _ _ _ ds ∧ RV.of ds = _
    refine ⟨[.fl (.int .i64 0)], (.cons (.tmp rfl (.d _)) .nil), ?_⟩
    rw [fe_end (by omega)] at hc
    rw [hc]; rfl
set_option maxHeartbeats 4000000 in
set_option maxRecDepth 100000 in
theorem hasP35 (n : Nw) (s : ByteArray) (hn : n.points.length ≤ 1000) : Ctr Try.prog 35 [.ag (eNw n), .fl (.string s)] (.d (.fl (.bool (hasP n s)))) := by
  refine ctr (n := 21) (rs := #[.tmp 4]) (L := [(0, .d (.ag (eNw n))), (1, .d (.fl (.string s)))]) Try.func35 rfl rfl rfl rfl rfl (fun w0 U0 => ?_)
  refine a_rseq ?_
  refine rg_nam (d := 2) (v := .pt 101 0) (m := 101) (nw := [(101, .bx 26 (eNw n))]) rfl (og rfl (of_eff (op_box 101 rfl rfl rfl rfl) rfl)) rfl ?_
  refine rg_put (d := 4) (v := .d (.fl (.bool false))) rfl (og rfl (op_assign rfl rfl rfl)) ?_
  refine rg_done rfl ?_
  refine a_seq ?_
  refine a_rseq ?_
  refine rg_put (d := 5) (v := .d (.fl (.int .i64 0))) rfl (og rfl (op_assign rfl rfl rfl)) ?_
  refine rg_done rfl ?_
  refine a_block ?_
  refine a_loop (ι := Nat) (fun k => SS [(0, .d (.ag (eNw n))), (1, .d (.fl (.string s))), (2, .pt 101 0), (5, .d (.fl (.int .i64 (k : Int))))] [(101, .bx 26 (eNw n))]) (fun k => k ≤ n.points.length ∧ ∀ q, q < k → sEq (ix n.points q).name s = false) (fun k => n.points.length - k) 0 (⟨by omega, fun q h => by omega⟩) (imp_forget rfl ⟨rfl, rfl, rfl, (by first | rfl | exact ci (by omega) | exact ci (by simp) | exact cd (by simp) | simp), trivial⟩ ⟨rfl, trivial⟩) (fun k hok => ?_)
  obtain ⟨hk, hq⟩ := hok
  refine a_seq ?_
  refine a_rseq ?_
  refine rg_put (d := 6) (v := .d (.fl (.int .i64 (k : Int)))) rfl (og rfl (op_move rfl rfl rfl)) ?_
  refine rg_put (d := 7) (v := .pt 101 0) rfl (og rfl (of_eff (s_field_pt rfl Try.underlying26 rfl ti23 rfl rfl rfl) rfl)) ?_
  refine rg_put (d := 8) (v := .d (.sl 3 (List.map ePn n.points))) rfl (og rfl (op_load_pt rfl Try.underlying23 rfl rfl rfl rfl rfl)) ?_
  refine rg_put (d := 9) (v := .d (.fl (.int .i64 (n.points.length : Int)))) rfl (og rfl (s_len rfl Try.underlying23 rfl rfl)) ?_
  refine rg_put (d := 10) (v := .d (.fl (.bool ((decide ((k : Int) < (n.points.length : Int))))))) rfl (og rfl (op_bin rfl rfl rfl (b_lss _ _ _ _) rfl)) ?_
  refine rg_done rfl ?_
  refine a_cond rfl (fun h1 => ?_) (fun h1 => ?_)
  · skip
    have h2 := t_dec h1
    refine a_skip ?_
    show A _ _ _ _ _ _ _
    refine a_seq ?_
    refine a_block ?_
    refine a_rseq ?_
    refine rg_put (d := 13) (v := .pt 101 0) rfl (og rfl (of_eff (s_field_pt rfl Try.underlying26 rfl ti23 rfl rfl rfl) rfl)) ?_
    refine rg_put (d := 14) (v := .d (.sl 3 (List.map ePn n.points))) rfl (og rfl (op_load_pt rfl Try.underlying23 rfl rfl rfl rfl rfl)) ?_
    refine rg_put (d := 15) (v := .d (.fl (.int .i64 (k : Int)))) rfl (og rfl (op_move rfl rfl rfl)) ?_
    refine rg_put (d := 16) (v := .el ((ePn (ix n.points k)))) rfl (og rfl (s_index rfl Try.underlying23 ti52 rfl rfl (by omega) (row_at (by omega)) rfl)) ?_
    refine rg_put (d := 17) (v := .el ((List.drop 0 ((ePn (ix n.points k)))))) rfl (og rfl (of_eff (s_field_el rfl Try.underlying52 rfl ti9 rfl rfl rfl) rfl)) ?_
    refine rg_put (d := 18) (v := .d (.fl (.string ((ix n.points k).name)))) rfl (og rfl (op_load_el rfl Try.underlying9 rfl rfl rfl rfl)) ?_
    refine rg_put (d := 19) (v := .d (.fl (.string s))) rfl (og rfl (op_move rfl rfl rfl)) ?_
    refine rg_put (d := 20) (v := .d (.fl (.bool ((sEq ((ix n.points k).name) s))))) rfl (og rfl (op_bin rfl rfl rfl (b_seq _ _ _) rfl)) ?_
    refine rg_done rfl ?_
    refine a_cond rfl (fun h3 => ?_) (fun h3 => ?_)
    · skip
      refine a_rseq ?_
      refine rg_put (d := 4) (v := .d (.fl (.bool true))) rfl (og rfl (op_assign rfl rfl rfl)) ?_
      refine rg_done rfl ?_
      refine a_ret ?_
      show ∃ ds, ResL _ _ _ ds ∧ RV.of ds = _
      refine ⟨[.fl (.bool true)], (.cons (.tmp rfl (.d _)) .nil), ?_⟩
      have hu : hasP n s = true := any_at (by omega) h3
      rw [hu]; rfl
    · skip
      refine a_skip ?_
      show A _ _ _ _ _ _ _
      refine a_region ?_
      refine rg_put (d := 11) (v := .d (.fl (.int .i64 (k : Int)))) rfl (og rfl (op_move rfl rfl rfl)) ?_
      refine rg_put (d := 12) (v := .d (.fl (.int .i64 (((k : Int) + 1))))) rfl (og rfl (op_bin rfl rfl rfl (fun x y w => b_add64 _ _ _ x y w (by omega)) rfl)) ?_
      refine rg_put (d := 5) (v := .d (.fl (.int .i64 (((k : Int) + 1))))) rfl (og rfl (op_assign rfl rfl rfl)) ?_
      refine rg_done rfl ?_
      have hx : sEq (ix n.points k).name s = false := h3
      show ∃ i, _ ∧ _ ∧ Imp _ _ _ _ _
      refine ⟨k + 1, ⟨by omega, fun q h => (Nat.lt_succ_iff_lt_or_eq.1 h).elim (hq q) (fun e => by rw [e]; exact hx)⟩, by omega, imp_forget rfl ⟨rfl, rfl, rfl, (by first | rfl | exact ci (by omega) | exact ci (by simp) | exact cd (by simp) | simp), trivial⟩ ⟨rfl, trivial⟩⟩
  · skip
    have h4 := f_dec h1
    refine a_exit ?_
    show A _ _ _ _ _ _ _
    refine a_rseq ?_
    refine rg_put (d := 4) (v := .d (.fl (.bool false))) rfl (og rfl (op_assign rfl rfl rfl)) ?_
    refine rg_done rfl ?_
    refine a_ret ?_
    show ∃ ds, ResL _ _ _ ds ∧ RV.of ds = _
    refine ⟨[.fl (.bool false)], (.cons (.tmp rfl (.d _)) .nil), ?_⟩
    have hu : hasP n s = false := any_no (fun q h => hq q (by omega))
    rw [hu]; rfl
set_option maxHeartbeats 4000000 in
set_option maxRecDepth 100000 in
theorem one22 (d : Dc) (n : Nw) (hn : n.points.length ≤ 1000) (h1 : d.offs.length ≤ 1000) (h2 : d.down.length ≤ 1000) : Ctr Try.prog 22 [.ag (eDc d), .ag (eNw n)] (.d (.fl (.int .i64 (one n d)))) := by
  refine ctr (n := 113) (rs := #[.tmp 4]) (L := [(0, .d (.ag (eDc d))), (1, .d (.ag (eNw n)))]) Try.func22 rfl rfl rfl rfl rfl (fun w0 U0 => ?_)
  refine a_rseq ?_
  refine rg_nam (d := 2) (v := .pt 101 0) (m := 101) (nw := [(101, .bx 36 (eDc d))]) rfl (og rfl (of_eff (op_box 101 rfl rfl rfl rfl) rfl)) rfl ?_
  refine rg_nam (d := 3) (v := .pt 102 0) (m := 102) (nw := [(102, .bx 26 (eNw n))]) rfl (og rfl (of_eff (op_box 102 rfl rfl rfl rfl) rfl)) rfl ?_
  refine rg_put (d := 4) (v := .d (.fl (.int .i64 0))) rfl (og rfl (op_assign rfl rfl rfl)) ?_
  refine rg_done rfl ?_
  refine a_seq ?_
  refine a_rseq ?_
  refine rg_put (d := 7) (v := .d (.ag (eNw n))) rfl (og rfl (of_eff (s_load_pts rfl Try.underlying26 rfl ti26 rfl rfl rfl rfl) rfl)) ?_
  refine rg_put (d := 8) (v := .pt 101 1) rfl (og rfl (of_eff (s_field_pt rfl Try.underlying36 rfl ti9 rfl rfl rfl) rfl)) ?_
  refine rg_put (d := 9) (v := .d (.fl (.string d.point))) rfl (og rfl (op_load_pt rfl Try.underlying9 rfl rfl rfl rfl rfl)) ?_
  refine rg_put (d := 10) (v := .d (.fl (.bool (hasP n d.point)))) rfl (og rfl (op_call rfl Try.func35 nm35 rfl (.cons rfl (.d _) (.cons rfl (.d _) .nil)) (hasP35 n d.point hn) rfl)) ?_
  refine rg_put (d := 11) (v := .d (.fl (.bool ((!(hasP n d.point)))))) rfl (og rfl (op_un rfl rfl (u_not _) rfl)) ?_
  refine rg_done rfl ?_
  refine a_cond rfl (fun h1 => ?_) (fun h1 => ?_)
  · skip
    have h2 := t_not h1
    refine a_rseq ?_
    refine rg_put (d := 4) (v := .d (.fl (.int .i64 16))) rfl (og rfl (op_assign rfl rfl rfl)) ?_
    refine rg_done rfl ?_
    refine a_ret ?_
    show ∃ ds, ResL _ _ _ ds ∧ RV.of ds = _
    refine ⟨[.fl (.int .i64 16)], (.cons (.tmp rfl (.d _)) .nil), ?_⟩
    rw [one_pt h2]; rfl
  · skip
    have h3 := f_not h1
    refine a_skip ?_
    show A _ _ _ _ _ _ _
    refine a_seq ?_
    refine a_rseq ?_
    refine rg_put (d := 12) (v := .pt 101 2) rfl (og rfl (of_eff (s_field_pt rfl Try.underlying36 rfl ti3 rfl rfl rfl) rfl)) ?_
    refine rg_put (d := 13) (v := .d (.fl (.int .i64 d.kind))) rfl (og rfl (op_load_pt rfl Try.underlying3 rfl rfl rfl rfl rfl)) ?_
    refine rg_put (d := 14) (v := .d (.fl (.bool ((decide (d.kind < 1)))))) rfl (og rfl (op_bin rfl rfl rfl (b_lss _ _ _ _) rfl)) ?_
    refine rg_put (d := 15) (v := .d (.fl (.bool ((decide (d.kind < 1)))))) rfl (og rfl (op_move rfl rfl rfl)) ?_
    rcases fot ((decide (d.kind < 1))) with h4 | h4
    · skip
      have h5 := f_dec h4
      refine rg_put (d := 16) (v := .pt 101 2) rfl (oy rfl rfl rfl h4 (of_eff (s_field_pt rfl Try.underlying36 rfl ti3 rfl rfl rfl) rfl)) ?_
      refine rg_put (d := 17) (v := .d (.fl (.int .i64 d.kind))) rfl (oy rfl rfl rfl h4 (op_load_pt rfl Try.underlying3 rfl rfl rfl rfl rfl)) ?_
      refine rg_put (d := 18) (v := .d (.fl (.bool ((decide (3 < d.kind)))))) rfl (oy rfl rfl rfl h4 (op_bin rfl rfl rfl (b_gtr _ _ _ _) rfl)) ?_
      refine rg_put (d := 19) (v := .d (.fl (.bool ((decide (3 < d.kind)))))) rfl (og rfl (op_pick rfl rfl (by rw [h4]; rfl) rfl)) ?_
      refine rg_put (d := 20) (v := .d (.fl (.bool ((decide (3 < d.kind)))))) rfl (og rfl (op_move rfl rfl rfl)) ?_
      rcases fot ((decide (3 < d.kind))) with h6 | h6
      · skip
        have h7 := f_dec h6
        refine rg_put (d := 21) (v := .pt 101 3) rfl (oy rfl rfl rfl h6 (of_eff (s_field_pt rfl Try.underlying36 rfl ti3 rfl rfl rfl) rfl)) ?_
        refine rg_put (d := 22) (v := .d (.fl (.int .i64 d.lane))) rfl (oy rfl rfl rfl h6 (op_load_pt rfl Try.underlying3 rfl rfl rfl rfl rfl)) ?_
        refine rg_put (d := 23) (v := .d (.fl (.bool ((decide (d.lane < 0)))))) rfl (oy rfl rfl rfl h6 (op_bin rfl rfl rfl (b_lss _ _ _ _) rfl)) ?_
        refine rg_put (d := 24) (v := .d (.fl (.bool ((decide (d.lane < 0)))))) rfl (og rfl (op_pick rfl rfl (by rw [h6]; rfl) rfl)) ?_
        refine rg_put (d := 25) (v := .d (.fl (.bool ((decide (d.lane < 0)))))) rfl (og rfl (op_move rfl rfl rfl)) ?_
        rcases fot ((decide (d.lane < 0))) with h8 | h8
        · skip
          have h9 := f_dec h8
          refine rg_put (d := 26) (v := .pt 101 3) rfl (oy rfl rfl rfl h8 (of_eff (s_field_pt rfl Try.underlying36 rfl ti3 rfl rfl rfl) rfl)) ?_
          refine rg_put (d := 27) (v := .d (.fl (.int .i64 d.lane))) rfl (oy rfl rfl rfl h8 (op_load_pt rfl Try.underlying3 rfl rfl rfl rfl rfl)) ?_
          refine rg_put (d := 28) (v := .d (.fl (.bool ((decide (15 < d.lane)))))) rfl (oy rfl rfl rfl h8 (op_bin rfl rfl rfl (b_gtr _ _ _ _) rfl)) ?_
          refine rg_put (d := 29) (v := .d (.fl (.bool ((decide (15 < d.lane)))))) rfl (og rfl (op_pick rfl rfl (by rw [h8]; rfl) rfl)) ?_
          refine rg_done rfl ?_
          refine a_cond rfl (fun h10 => ?_) (fun h10 => ?_)
          · skip
            have h11 := t_dec h10
            refine a_rseq ?_
            refine rg_put (d := 4) (v := .d (.fl (.int .i64 1))) rfl (og rfl (op_assign rfl rfl rfl)) ?_
            refine rg_done rfl ?_
            refine a_ret ?_
            show ∃ ds, ResL _ _ _ ds ∧ RV.of ds = _
            refine ⟨[.fl (.int .i64 1)], (.cons (.tmp rfl (.d _)) .nil), ?_⟩
            have hkd : kdB d = true := by unfold kdB; simp only [h1, h3, h4, h6, h8, h10, Bool.true_and, Bool.false_and, Bool.and_true, Bool.and_false, Bool.true_or, Bool.false_or, Bool.or_true, Bool.or_false] <;> rfl
            rw [one_kd h3 hkd]; rfl
          · skip
            have h12 := f_dec h10
            refine a_skip ?_
            show A _ _ _ _ _ _ _
            refine a_seq ?_
            refine a_rseq ?_
            refine rg_put (d := 5) (v := .d (.fl (.int .i64 0))) rfl (og rfl (op_assign rfl rfl rfl)) ?_
            refine rg_done rfl ?_
            refine a_block ?_
            have hp : hasP n d.point = true := h3
            have hkd : kdB d = false := by unfold kdB; simp only [h1, h3, h4, h6, h8, h10, Bool.true_and, Bool.false_and, Bool.and_true, Bool.and_false, Bool.true_or, Bool.false_or, Bool.or_true, Bool.or_false] <;> rfl
            refine a_loop (ι := Nat) (fun k => SS [(0, .d (.ag (eDc d))), (1, .d (.ag (eNw n))), (2, .pt 101 0), (3, .pt 102 0), (11, .d (.fl (.bool ((!(hasP n d.point)))))), (29, .d (.fl (.bool ((decide (15 < d.lane)))))), (5, .d (.fl (.int .i64 (k : Int))))] [(101, .bx 36 (eDc d)), (102, .bx 26 (eNw n))]) (fun k => k ≤ d.offs.length ∧ ofE d.offs = fe (of1 d.offs) k (d.offs.length - k)) (fun k => d.offs.length - k) 0 (⟨by omega, ofE_go d.offs⟩) (imp_forget rfl ⟨rfl, rfl, rfl, rfl, rfl, rfl, (by first | rfl | exact ci (by omega) | exact ci (by simp) | exact cd (by simp) | simp), trivial⟩ ⟨rfl, rfl, trivial⟩) (fun k hok => ?_)
            obtain ⟨hk, hc⟩ := hok
            refine a_seq ?_
            refine a_rseq ?_
            refine rg_put (d := 30) (v := .d (.fl (.int .i64 (k : Int)))) rfl (og rfl (op_move rfl rfl rfl)) ?_
            refine rg_put (d := 31) (v := .pt 101 4) rfl (og rfl (of_eff (s_field_pt rfl Try.underlying36 rfl ti33 rfl rfl rfl) rfl)) ?_
            refine rg_put (d := 32) (v := .d (.sl 2 (List.map eOf d.offs))) rfl (og rfl (op_load_pt rfl Try.underlying33 rfl rfl rfl rfl rfl)) ?_
            refine rg_put (d := 33) (v := .d (.fl (.int .i64 (d.offs.length : Int)))) rfl (og rfl (s_len rfl Try.underlying33 rfl rfl)) ?_
            refine rg_put (d := 34) (v := .d (.fl (.bool ((decide ((k : Int) < (d.offs.length : Int))))))) rfl (og rfl (op_bin rfl rfl rfl (b_lss _ _ _ _) rfl)) ?_
            refine rg_done rfl ?_
            refine a_cond rfl (fun h13 => ?_) (fun h13 => ?_)
            · skip
              have h14 := t_dec h13
              refine a_skip ?_
              show A _ _ _ _ _ _ _
              refine a_seq ?_
              refine a_block ?_
              refine a_seq ?_
              refine a_dseq (by kernel_rfl) ?_
              refine dr_put (d := 37) (v := .d (.fl (.int .i64 (k : Int)))) rfl (og rfl (op_move rfl rfl rfl)) ?_
              refine dr_put (d := 38) (v := .d (.fl (.bool ((decide (0 < (k : Int))))))) rfl (og rfl (op_bin rfl rfl rfl (b_gtr _ _ _ _) rfl)) ?_
              refine dr_put (d := 39) (v := .d (.fl (.bool ((decide (0 < (k : Int))))))) rfl (og rfl (op_move rfl rfl rfl)) ?_
              rcases fot ((decide (0 < (k : Int)))) with h15 | h15
              · skip
                have h16 := f_dec h15
                refine dr_put (d := 40) (v := .d (.fl undef)) rfl (on rfl rfl rfl h15) ?_
                refine dr_put (d := 41) (v := .d (.fl undef)) rfl (on rfl rfl rfl h15) ?_
                refine dr_put (d := 42) (v := .d (.fl undef)) rfl (on rfl rfl rfl h15) ?_
                refine dr_put (d := 43) (v := .d (.fl undef)) rfl (on rfl rfl rfl h15) ?_
                refine dr_put (d := 44) (v := .d (.fl undef)) rfl (on rfl rfl rfl h15) ?_
                refine dr_put (d := 45) (v := .d (.fl undef)) rfl (on rfl rfl rfl h15) ?_
                refine dr_put (d := 46) (v := .d (.fl undef)) rfl (on rfl rfl rfl h15) ?_
                refine dr_put (d := 47) (v := .d (.fl undef)) rfl (on rfl rfl rfl h15) ?_
                refine dr_put (d := 48) (v := .d (.fl undef)) rfl (on rfl rfl rfl h15) ?_
                refine dr_put (d := 49) (v := .d (.fl undef)) rfl (on rfl rfl rfl h15) ?_
                refine dr_put (d := 50) (v := .d (.fl undef)) rfl (on rfl rfl rfl h15) ?_
                refine dr_put (d := 51) (v := .d (.fl undef)) rfl (on rfl rfl rfl h15) ?_
                refine dr_put (d := 52) (v := .d (.fl undef)) rfl (on rfl rfl rfl h15) ?_
                refine dr_put (d := 53) (v := .d (.fl undef)) rfl (on rfl rfl rfl h15) ?_
                refine dr_put (d := 54) (v := .d (.fl (.bool false))) rfl (og rfl (op_pick rfl rfl (by rw [h15]; rfl) rfl)) ?_
                refine dr_done rfl (sepB_of [0, 1, 3, 7, 15, 7, 63, 127, 255, 7, 519, 7, 2055, 7687, 15879, 32263, 65535, 131071] (by kernel_rfl)) (by kernel_rfl) ?_
                refine a_condF rfl rfl ?_
                refine a_skip ?_
                show A _ _ _ _ _ _ _
                refine a_rseq ?_
                refine rg_put (d := 55) (v := .pt 101 4) rfl (og rfl (of_eff (s_field_pt rfl Try.underlying36 rfl ti33 rfl rfl rfl) rfl)) ?_
                refine rg_put (d := 56) (v := .d (.sl 2 (List.map eOf d.offs))) rfl (og rfl (op_load_pt rfl Try.underlying33 rfl rfl rfl rfl rfl)) ?_
                refine rg_put (d := 57) (v := .d (.fl (.int .i64 (k : Int)))) rfl (og rfl (op_move rfl rfl rfl)) ?_
                refine rg_put (d := 58) (v := .el ((eOf (ix d.offs k)))) rfl (og rfl (s_index rfl Try.underlying33 ti46 rfl rfl (by omega) (row_at (by omega)) rfl)) ?_
                refine rg_put (d := 59) (v := .el ((List.drop 0 ((eOf (ix d.offs k)))))) rfl (og rfl (of_eff (s_field_el rfl Try.underlying46 rfl ti3 rfl rfl rfl) rfl)) ?_
                refine rg_put (d := 60) (v := .d (.fl (.int .i64 ((ix d.offs k).fr)))) rfl (og rfl (op_load_el rfl Try.underlying3 rfl rfl rfl rfl)) ?_
                refine rg_put (d := 61) (v := .d (.fl (.bool ((isT ((ix d.offs k).fr)))))) rfl (og rfl (op_call rfl Try.func24 nm24 rfl (.cons rfl (.d _) .nil) (isT24 ((ix d.offs k).fr)) rfl)) ?_
                refine rg_put (d := 62) (v := .d (.fl (.bool ((!((isT ((ix d.offs k).fr)))))))) rfl (og rfl (op_un rfl rfl (u_not _) rfl)) ?_
                refine rg_put (d := 63) (v := .d (.fl (.bool ((!((isT ((ix d.offs k).fr)))))))) rfl (og rfl (op_move rfl rfl rfl)) ?_
                rcases fot ((!((isT ((ix d.offs k).fr))))) with h17 | h17
                · skip
                  have h18 := f_not h17
                  refine rg_put (d := 64) (v := .pt 101 4) rfl (oy rfl rfl rfl h17 (of_eff (s_field_pt rfl Try.underlying36 rfl ti33 rfl rfl rfl) rfl)) ?_
                  refine rg_put (d := 65) (v := .d (.sl 2 (List.map eOf d.offs))) rfl (oy rfl rfl rfl h17 (op_load_pt rfl Try.underlying33 rfl rfl rfl rfl rfl)) ?_
                  refine rg_put (d := 66) (v := .d (.fl (.int .i64 (k : Int)))) rfl (oy rfl rfl rfl h17 (op_move rfl rfl rfl)) ?_
                  refine rg_put (d := 67) (v := .el ((eOf (ix d.offs k)))) rfl (oy rfl rfl rfl h17 (s_index rfl Try.underlying33 ti46 rfl rfl (by omega) (row_at (by omega)) rfl)) ?_
                  refine rg_put (d := 68) (v := .el ((List.drop 1 ((eOf (ix d.offs k)))))) rfl (oy rfl rfl rfl h17 (of_eff (s_field_el rfl Try.underlying46 rfl ti3 rfl rfl rfl) rfl)) ?_
                  refine rg_put (d := 69) (v := .d (.fl (.int .i64 ((ix d.offs k).dl)))) rfl (oy rfl rfl rfl h17 (op_load_el rfl Try.underlying3 rfl rfl rfl rfl)) ?_
                  refine rg_put (d := 70) (v := .d (.fl (.bool ((decide ((ix d.offs k).dl < (-86400))))))) rfl (oy rfl rfl rfl h17 (op_bin rfl rfl rfl (b_lss _ _ _ _) rfl)) ?_
                  refine rg_put (d := 71) (v := .d (.fl (.bool ((decide ((ix d.offs k).dl < (-86400))))))) rfl (og rfl (op_pick rfl rfl (by rw [h17]; rfl) rfl)) ?_
                  refine rg_put (d := 72) (v := .d (.fl (.bool ((decide ((ix d.offs k).dl < (-86400))))))) rfl (og rfl (op_move rfl rfl rfl)) ?_
                  rcases fot ((decide ((ix d.offs k).dl < (-86400)))) with h19 | h19
                  · skip
                    have h20 := f_dec h19
                    refine rg_put (d := 73) (v := .pt 101 4) rfl (oy rfl rfl rfl h19 (of_eff (s_field_pt rfl Try.underlying36 rfl ti33 rfl rfl rfl) rfl)) ?_
                    refine rg_put (d := 74) (v := .d (.sl 2 (List.map eOf d.offs))) rfl (oy rfl rfl rfl h19 (op_load_pt rfl Try.underlying33 rfl rfl rfl rfl rfl)) ?_
                    refine rg_put (d := 75) (v := .d (.fl (.int .i64 (k : Int)))) rfl (oy rfl rfl rfl h19 (op_move rfl rfl rfl)) ?_
                    refine rg_put (d := 76) (v := .el ((eOf (ix d.offs k)))) rfl (oy rfl rfl rfl h19 (s_index rfl Try.underlying33 ti46 rfl rfl (by omega) (row_at (by omega)) rfl)) ?_
                    refine rg_put (d := 77) (v := .el ((List.drop 1 ((eOf (ix d.offs k)))))) rfl (oy rfl rfl rfl h19 (of_eff (s_field_el rfl Try.underlying46 rfl ti3 rfl rfl rfl) rfl)) ?_
                    refine rg_put (d := 78) (v := .d (.fl (.int .i64 ((ix d.offs k).dl)))) rfl (oy rfl rfl rfl h19 (op_load_el rfl Try.underlying3 rfl rfl rfl rfl)) ?_
                    refine rg_put (d := 79) (v := .d (.fl (.bool ((decide (86400 < (ix d.offs k).dl)))))) rfl (oy rfl rfl rfl h19 (op_bin rfl rfl rfl (b_gtr _ _ _ _) rfl)) ?_
                    refine rg_put (d := 80) (v := .d (.fl (.bool ((decide (86400 < (ix d.offs k).dl)))))) rfl (og rfl (op_pick rfl rfl (by rw [h19]; rfl) rfl)) ?_
                    refine rg_done rfl ?_
                    refine a_cond rfl (fun h21 => ?_) (fun h21 => ?_)
                    · skip
                      have h22 := t_dec h21
                      refine a_rseq ?_
                      refine rg_put (d := 4) (v := .d (.fl (.int .i64 1))) rfl (og rfl (op_assign rfl rfl rfl)) ?_
                      refine rg_done rfl ?_
                      refine a_ret ?_
                      show ∃ ds, ResL _ _ _ ds ∧ RV.of ds = _
                      refine ⟨[.fl (.int .i64 1)], (.cons (.tmp rfl (.d _)) .nil), ?_⟩
                      have hb : of1 d.offs k = 1 := by unfold of1; simp only [h1, h3, h13, h15, h17, h18, h19, h21, Bool.true_and, Bool.false_and, Bool.and_true, Bool.and_false, Bool.true_or, Bool.false_or, Bool.or_true, Bool.or_false] <;> rfl
                      rw [one_of hp hkd (fe_yes (by omega) hc hb (by decide)) (by decide)]; rfl
                    · skip
                      have h23 := f_dec h21
                      refine a_skip ?_
                      show A _ _ _ _ _ _ _
                      refine a_region ?_
                      refine rg_put (d := 35) (v := .d (.fl (.int .i64 (k : Int)))) rfl (og rfl (op_move rfl rfl rfl)) ?_
                      refine rg_put (d := 36) (v := .d (.fl (.int .i64 (((k : Int) + 1))))) rfl (og rfl (op_bin rfl rfl rfl (fun x y w => b_add64 _ _ _ x y w (by omega)) rfl)) ?_
                      refine rg_put (d := 5) (v := .d (.fl (.int .i64 (((k : Int) + 1))))) rfl (og rfl (op_assign rfl rfl rfl)) ?_
                      refine rg_done rfl ?_
                      have hb : of1 d.offs k = 0 := by unfold of1; simp only [h1, h3, h13, h15, h17, h18, h19, h21, Bool.true_and, Bool.false_and, Bool.and_true, Bool.and_false, Bool.true_or, Bool.false_or, Bool.or_true, Bool.or_false] <;> rfl
                      show ∃ i, _ ∧ _ ∧ Imp _ _ _ _ _
                      refine ⟨k + 1, ⟨by omega, fe_no (by omega) hc hb⟩, by omega, imp_forget rfl ⟨rfl, rfl, rfl, rfl, rfl, rfl, (by first | rfl | exact ci (by omega) | exact ci (by simp) | exact cd (by simp) | simp), trivial⟩ ⟨rfl, rfl, trivial⟩⟩
                  · skip
                    have h24 := t_dec h19
                    refine rg_put (d := 73) (v := .d (.fl undef)) rfl (on rfl rfl rfl h19) ?_
                    refine rg_put (d := 74) (v := .d (.fl undef)) rfl (on rfl rfl rfl h19) ?_
                    refine rg_put (d := 75) (v := .d (.fl undef)) rfl (on rfl rfl rfl h19) ?_
                    refine rg_put (d := 76) (v := .d (.fl undef)) rfl (on rfl rfl rfl h19) ?_
                    refine rg_put (d := 77) (v := .d (.fl undef)) rfl (on rfl rfl rfl h19) ?_
                    refine rg_put (d := 78) (v := .d (.fl undef)) rfl (on rfl rfl rfl h19) ?_
                    refine rg_put (d := 79) (v := .d (.fl undef)) rfl (on rfl rfl rfl h19) ?_
                    refine rg_put (d := 80) (v := .d (.fl (.bool true))) rfl (og rfl (op_pick rfl rfl (by rw [h19]; rfl) rfl)) ?_
                    refine rg_done rfl ?_
                    refine a_condK rfl rfl ?_
                    refine a_rseq ?_
                    refine rg_put (d := 4) (v := .d (.fl (.int .i64 1))) rfl (og rfl (op_assign rfl rfl rfl)) ?_
                    refine rg_done rfl ?_
                    refine a_ret ?_
                    show ∃ ds, ResL _ _ _ ds ∧ RV.of ds = _
                    refine ⟨[.fl (.int .i64 1)], (.cons (.tmp rfl (.d _)) .nil), ?_⟩
                    have hb : of1 d.offs k = 1 := by unfold of1; simp only [h1, h3, h13, h15, h17, h18, h19, Bool.true_and, Bool.false_and, Bool.and_true, Bool.and_false, Bool.true_or, Bool.false_or, Bool.or_true, Bool.or_false] <;> rfl
                    rw [one_of hp hkd (fe_yes (by omega) hc hb (by decide)) (by decide)]; rfl
                · skip
                  have h25 := t_not h17
                  refine rg_put (d := 64) (v := .d (.fl undef)) rfl (on rfl rfl rfl h17) ?_
                  refine rg_put (d := 65) (v := .d (.fl undef)) rfl (on rfl rfl rfl h17) ?_
                  refine rg_put (d := 66) (v := .d (.fl undef)) rfl (on rfl rfl rfl h17) ?_
                  refine rg_put (d := 67) (v := .d (.fl undef)) rfl (on rfl rfl rfl h17) ?_
                  refine rg_put (d := 68) (v := .d (.fl undef)) rfl (on rfl rfl rfl h17) ?_
                  refine rg_put (d := 69) (v := .d (.fl undef)) rfl (on rfl rfl rfl h17) ?_
                  refine rg_put (d := 70) (v := .d (.fl undef)) rfl (on rfl rfl rfl h17) ?_
                  refine rg_put (d := 71) (v := .d (.fl (.bool true))) rfl (og rfl (op_pick rfl rfl (by rw [h17]; rfl) rfl)) ?_
                  refine rg_put (d := 72) (v := .d (.fl (.bool true))) rfl (og rfl (op_move rfl rfl rfl)) ?_
                  refine rg_put (d := 73) (v := .d (.fl undef)) rfl (on rfl rfl rfl rfl) ?_
                  refine rg_put (d := 74) (v := .d (.fl undef)) rfl (on rfl rfl rfl rfl) ?_
                  refine rg_put (d := 75) (v := .d (.fl undef)) rfl (on rfl rfl rfl rfl) ?_
                  refine rg_put (d := 76) (v := .d (.fl undef)) rfl (on rfl rfl rfl rfl) ?_
                  refine rg_put (d := 77) (v := .d (.fl undef)) rfl (on rfl rfl rfl rfl) ?_
                  refine rg_put (d := 78) (v := .d (.fl undef)) rfl (on rfl rfl rfl rfl) ?_
                  refine rg_put (d := 79) (v := .d (.fl undef)) rfl (on rfl rfl rfl rfl) ?_
                  refine rg_put (d := 80) (v := .d (.fl (.bool true))) rfl (og rfl (op_pick rfl rfl rfl rfl)) ?_
                  refine rg_done rfl ?_
                  refine a_condK rfl rfl ?_
                  refine a_rseq ?_
                  refine rg_put (d := 4) (v := .d (.fl (.int .i64 1))) rfl (og rfl (op_assign rfl rfl rfl)) ?_
                  refine rg_done rfl ?_
                  refine a_ret ?_
                  show ∃ ds, ResL _ _ _ ds ∧ RV.of ds = _
                  refine ⟨[.fl (.int .i64 1)], (.cons (.tmp rfl (.d _)) .nil), ?_⟩
                  have hb : of1 d.offs k = 1 := by unfold of1; simp only [h1, h3, h13, h15, h17, h25, Bool.true_and, Bool.false_and, Bool.and_true, Bool.and_false, Bool.true_or, Bool.false_or, Bool.or_true, Bool.or_false] <;> rfl
                  rw [one_of hp hkd (fe_yes (by omega) hc hb (by decide)) (by decide)]; rfl
              · skip
                have h26 := t_dec h15
                refine dr_put (d := 40) (v := .pt 101 4) rfl (oy rfl rfl rfl h15 (of_eff (s_field_pt rfl Try.underlying36 rfl ti33 rfl rfl rfl) rfl)) ?_
                refine dr_put (d := 41) (v := .d (.sl 2 (List.map eOf d.offs))) rfl (oy rfl rfl rfl h15 (op_load_pt rfl Try.underlying33 rfl rfl rfl rfl rfl)) ?_
                refine dr_put (d := 42) (v := .d (.fl (.int .i64 (k : Int)))) rfl (oy rfl rfl rfl h15 (op_move rfl rfl rfl)) ?_
                refine dr_put (d := 43) (v := .el ((eOf (ix d.offs k)))) rfl (oy rfl rfl rfl h15 (s_index rfl Try.underlying33 ti46 rfl rfl (by omega) (row_at (by omega)) rfl)) ?_
                refine dr_put (d := 44) (v := .el ((List.drop 0 ((eOf (ix d.offs k)))))) rfl (oy rfl rfl rfl h15 (of_eff (s_field_el rfl Try.underlying46 rfl ti3 rfl rfl rfl) rfl)) ?_
                refine dr_put (d := 45) (v := .d (.fl (.int .i64 ((ix d.offs k).fr)))) rfl (oy rfl rfl rfl h15 (op_load_el rfl Try.underlying3 rfl rfl rfl rfl)) ?_
                refine dr_put (d := 46) (v := .pt 101 4) rfl (oy rfl rfl rfl h15 (of_eff (s_field_pt rfl Try.underlying36 rfl ti33 rfl rfl rfl) rfl)) ?_
                refine dr_put (d := 47) (v := .d (.sl 2 (List.map eOf d.offs))) rfl (oy rfl rfl rfl h15 (op_load_pt rfl Try.underlying33 rfl rfl rfl rfl rfl)) ?_
                refine dr_put (d := 48) (v := .d (.fl (.int .i64 (k : Int)))) rfl (oy rfl rfl rfl h15 (op_move rfl rfl rfl)) ?_
                refine dr_put (d := 49) (v := .d (.fl (.int .i64 (((k : Int) - 1))))) rfl (oy rfl rfl rfl h15 (op_bin rfl rfl rfl (fun x y w => b_sub64 _ _ _ x y w (by omega)) rfl)) ?_
                refine dr_put (d := 50) (v := .el ((eOf ((ix d.offs (((k : Int) - 1)).toNat))))) rfl (oy rfl rfl rfl h15 (s_index rfl Try.underlying33 ti46 rfl rfl (by omega) (row_atI (by omega) (by omega)) rfl)) ?_
                refine dr_put (d := 51) (v := .el ((List.drop 0 ((eOf ((ix d.offs (((k : Int) - 1)).toNat))))))) rfl (oy rfl rfl rfl h15 (of_eff (s_field_el rfl Try.underlying46 rfl ti3 rfl rfl rfl) rfl)) ?_
                refine dr_put (d := 52) (v := .d (.fl (.int .i64 (((ix d.offs (((k : Int) - 1)).toNat)).fr)))) rfl (oy rfl rfl rfl h15 (op_load_el rfl Try.underlying3 rfl rfl rfl rfl)) ?_
                refine dr_put (d := 53) (v := .d (.fl (.bool ((decide ((ix d.offs k).fr ≤ ((ix d.offs (((k : Int) - 1)).toNat)).fr)))))) rfl (oy rfl rfl rfl h15 (op_bin rfl rfl rfl (b_leq _ _ _ _) rfl)) ?_
                refine dr_put (d := 54) (v := .d (.fl (.bool ((decide ((ix d.offs k).fr ≤ ((ix d.offs (((k : Int) - 1)).toNat)).fr)))))) rfl (og rfl (op_pick rfl rfl (by rw [h15]; rfl) rfl)) ?_
                refine dr_done rfl (sepB_of [0, 1, 3, 7, 15, 7, 63, 127, 255, 7, 519, 7, 2055, 7687, 15879, 32263, 65535, 131071] (by kernel_rfl)) (by kernel_rfl) ?_
                refine a_cond rfl (fun h27 => ?_) (fun h27 => ?_)
                · skip
                  have h28 := t_dec h27
                  refine a_rseq ?_
                  refine rg_put (d := 4) (v := .d (.fl (.int .i64 15))) rfl (og rfl (op_assign rfl rfl rfl)) ?_
                  refine rg_done rfl ?_
                  refine a_ret ?_
                  show ∃ ds, ResL _ _ _ ds ∧ RV.of ds = _
                  refine ⟨[.fl (.int .i64 15)], (.cons (.tmp rfl (.d _)) .nil), ?_⟩
                  have hb : of1 d.offs k = 15 := by unfold of1; simp only [h1, h3, h13, h15, h27, Bool.true_and, Bool.false_and, Bool.and_true, Bool.and_false, Bool.true_or, Bool.false_or, Bool.or_true, Bool.or_false] <;> rfl
                  rw [one_of hp hkd (fe_yes (by omega) hc hb (by decide)) (by decide)]; rfl
                · skip
                  have h29 := f_dec h27
                  refine a_skip ?_
                  show A _ _ _ _ _ _ _
                  refine a_rseq ?_
                  refine rg_put (d := 55) (v := .pt 101 4) rfl (og rfl (of_eff (s_field_pt rfl Try.underlying36 rfl ti33 rfl rfl rfl) rfl)) ?_
                  refine rg_put (d := 56) (v := .d (.sl 2 (List.map eOf d.offs))) rfl (og rfl (op_load_pt rfl Try.underlying33 rfl rfl rfl rfl rfl)) ?_
                  refine rg_put (d := 57) (v := .d (.fl (.int .i64 (k : Int)))) rfl (og rfl (op_move rfl rfl rfl)) ?_
                  refine rg_put (d := 58) (v := .el ((eOf (ix d.offs k)))) rfl (og rfl (s_index rfl Try.underlying33 ti46 rfl rfl (by omega) (row_at (by omega)) rfl)) ?_
                  refine rg_put (d := 59) (v := .el ((List.drop 0 ((eOf (ix d.offs k)))))) rfl (og rfl (of_eff (s_field_el rfl Try.underlying46 rfl ti3 rfl rfl rfl) rfl)) ?_
                  refine rg_put (d := 60) (v := .d (.fl (.int .i64 ((ix d.offs k).fr)))) rfl (og rfl (op_load_el rfl Try.underlying3 rfl rfl rfl rfl)) ?_
                  refine rg_put (d := 61) (v := .d (.fl (.bool ((isT ((ix d.offs k).fr)))))) rfl (og rfl (op_call rfl Try.func24 nm24 rfl (.cons rfl (.d _) .nil) (isT24 ((ix d.offs k).fr)) rfl)) ?_
                  refine rg_put (d := 62) (v := .d (.fl (.bool ((!((isT ((ix d.offs k).fr)))))))) rfl (og rfl (op_un rfl rfl (u_not _) rfl)) ?_
                  refine rg_put (d := 63) (v := .d (.fl (.bool ((!((isT ((ix d.offs k).fr)))))))) rfl (og rfl (op_move rfl rfl rfl)) ?_
                  rcases fot ((!((isT ((ix d.offs k).fr))))) with h30 | h30
                  · skip
                    have h31 := f_not h30
                    refine rg_put (d := 64) (v := .pt 101 4) rfl (oy rfl rfl rfl h30 (of_eff (s_field_pt rfl Try.underlying36 rfl ti33 rfl rfl rfl) rfl)) ?_
                    refine rg_put (d := 65) (v := .d (.sl 2 (List.map eOf d.offs))) rfl (oy rfl rfl rfl h30 (op_load_pt rfl Try.underlying33 rfl rfl rfl rfl rfl)) ?_
                    refine rg_put (d := 66) (v := .d (.fl (.int .i64 (k : Int)))) rfl (oy rfl rfl rfl h30 (op_move rfl rfl rfl)) ?_
                    refine rg_put (d := 67) (v := .el ((eOf (ix d.offs k)))) rfl (oy rfl rfl rfl h30 (s_index rfl Try.underlying33 ti46 rfl rfl (by omega) (row_at (by omega)) rfl)) ?_
                    refine rg_put (d := 68) (v := .el ((List.drop 1 ((eOf (ix d.offs k)))))) rfl (oy rfl rfl rfl h30 (of_eff (s_field_el rfl Try.underlying46 rfl ti3 rfl rfl rfl) rfl)) ?_
                    refine rg_put (d := 69) (v := .d (.fl (.int .i64 ((ix d.offs k).dl)))) rfl (oy rfl rfl rfl h30 (op_load_el rfl Try.underlying3 rfl rfl rfl rfl)) ?_
                    refine rg_put (d := 70) (v := .d (.fl (.bool ((decide ((ix d.offs k).dl < (-86400))))))) rfl (oy rfl rfl rfl h30 (op_bin rfl rfl rfl (b_lss _ _ _ _) rfl)) ?_
                    refine rg_put (d := 71) (v := .d (.fl (.bool ((decide ((ix d.offs k).dl < (-86400))))))) rfl (og rfl (op_pick rfl rfl (by rw [h30]; rfl) rfl)) ?_
                    refine rg_put (d := 72) (v := .d (.fl (.bool ((decide ((ix d.offs k).dl < (-86400))))))) rfl (og rfl (op_move rfl rfl rfl)) ?_
                    rcases fot ((decide ((ix d.offs k).dl < (-86400)))) with h32 | h32
                    · skip
                      have h33 := f_dec h32
                      refine rg_put (d := 73) (v := .pt 101 4) rfl (oy rfl rfl rfl h32 (of_eff (s_field_pt rfl Try.underlying36 rfl ti33 rfl rfl rfl) rfl)) ?_
                      refine rg_put (d := 74) (v := .d (.sl 2 (List.map eOf d.offs))) rfl (oy rfl rfl rfl h32 (op_load_pt rfl Try.underlying33 rfl rfl rfl rfl rfl)) ?_
                      refine rg_put (d := 75) (v := .d (.fl (.int .i64 (k : Int)))) rfl (oy rfl rfl rfl h32 (op_move rfl rfl rfl)) ?_
                      refine rg_put (d := 76) (v := .el ((eOf (ix d.offs k)))) rfl (oy rfl rfl rfl h32 (s_index rfl Try.underlying33 ti46 rfl rfl (by omega) (row_at (by omega)) rfl)) ?_
                      refine rg_put (d := 77) (v := .el ((List.drop 1 ((eOf (ix d.offs k)))))) rfl (oy rfl rfl rfl h32 (of_eff (s_field_el rfl Try.underlying46 rfl ti3 rfl rfl rfl) rfl)) ?_
                      refine rg_put (d := 78) (v := .d (.fl (.int .i64 ((ix d.offs k).dl)))) rfl (oy rfl rfl rfl h32 (op_load_el rfl Try.underlying3 rfl rfl rfl rfl)) ?_
                      refine rg_put (d := 79) (v := .d (.fl (.bool ((decide (86400 < (ix d.offs k).dl)))))) rfl (oy rfl rfl rfl h32 (op_bin rfl rfl rfl (b_gtr _ _ _ _) rfl)) ?_
                      refine rg_put (d := 80) (v := .d (.fl (.bool ((decide (86400 < (ix d.offs k).dl)))))) rfl (og rfl (op_pick rfl rfl (by rw [h32]; rfl) rfl)) ?_
                      refine rg_done rfl ?_
                      refine a_cond rfl (fun h34 => ?_) (fun h34 => ?_)
                      · skip
                        have h35 := t_dec h34
                        refine a_rseq ?_
                        refine rg_put (d := 4) (v := .d (.fl (.int .i64 1))) rfl (og rfl (op_assign rfl rfl rfl)) ?_
                        refine rg_done rfl ?_
                        refine a_ret ?_
                        show ∃ ds, ResL _ _ _ ds ∧ RV.of ds = _
                        refine ⟨[.fl (.int .i64 1)], (.cons (.tmp rfl (.d _)) .nil), ?_⟩
                        have hb : of1 d.offs k = 1 := by unfold of1; simp only [h1, h3, h13, h15, h27, h30, h31, h32, h34, Bool.true_and, Bool.false_and, Bool.and_true, Bool.and_false, Bool.true_or, Bool.false_or, Bool.or_true, Bool.or_false] <;> rfl
                        rw [one_of hp hkd (fe_yes (by omega) hc hb (by decide)) (by decide)]; rfl
                      · skip
                        have h36 := f_dec h34
                        refine a_skip ?_
                        show A _ _ _ _ _ _ _
                        refine a_region ?_
                        refine rg_put (d := 35) (v := .d (.fl (.int .i64 (k : Int)))) rfl (og rfl (op_move rfl rfl rfl)) ?_
                        refine rg_put (d := 36) (v := .d (.fl (.int .i64 (((k : Int) + 1))))) rfl (og rfl (op_bin rfl rfl rfl (fun x y w => b_add64 _ _ _ x y w (by omega)) rfl)) ?_
                        refine rg_put (d := 5) (v := .d (.fl (.int .i64 (((k : Int) + 1))))) rfl (og rfl (op_assign rfl rfl rfl)) ?_
                        refine rg_done rfl ?_
                        have hb : of1 d.offs k = 0 := by unfold of1; simp only [h1, h3, h13, h15, h27, h30, h31, h32, h34, Bool.true_and, Bool.false_and, Bool.and_true, Bool.and_false, Bool.true_or, Bool.false_or, Bool.or_true, Bool.or_false] <;> rfl
                        show ∃ i, _ ∧ _ ∧ Imp _ _ _ _ _
                        refine ⟨k + 1, ⟨by omega, fe_no (by omega) hc hb⟩, by omega, imp_forget rfl ⟨rfl, rfl, rfl, rfl, rfl, rfl, (by first | rfl | exact ci (by omega) | exact ci (by simp) | exact cd (by simp) | simp), trivial⟩ ⟨rfl, rfl, trivial⟩⟩
                    · skip
                      have h37 := t_dec h32
                      refine rg_put (d := 73) (v := .d (.fl undef)) rfl (on rfl rfl rfl h32) ?_
                      refine rg_put (d := 74) (v := .d (.fl undef)) rfl (on rfl rfl rfl h32) ?_
                      refine rg_put (d := 75) (v := .d (.fl undef)) rfl (on rfl rfl rfl h32) ?_
                      refine rg_put (d := 76) (v := .d (.fl undef)) rfl (on rfl rfl rfl h32) ?_
                      refine rg_put (d := 77) (v := .d (.fl undef)) rfl (on rfl rfl rfl h32) ?_
                      refine rg_put (d := 78) (v := .d (.fl undef)) rfl (on rfl rfl rfl h32) ?_
                      refine rg_put (d := 79) (v := .d (.fl undef)) rfl (on rfl rfl rfl h32) ?_
                      refine rg_put (d := 80) (v := .d (.fl (.bool true))) rfl (og rfl (op_pick rfl rfl (by rw [h32]; rfl) rfl)) ?_
                      refine rg_done rfl ?_
                      refine a_condK rfl rfl ?_
                      refine a_rseq ?_
                      refine rg_put (d := 4) (v := .d (.fl (.int .i64 1))) rfl (og rfl (op_assign rfl rfl rfl)) ?_
                      refine rg_done rfl ?_
                      refine a_ret ?_
                      show ∃ ds, ResL _ _ _ ds ∧ RV.of ds = _
                      refine ⟨[.fl (.int .i64 1)], (.cons (.tmp rfl (.d _)) .nil), ?_⟩
                      have hb : of1 d.offs k = 1 := by unfold of1; simp only [h1, h3, h13, h15, h27, h30, h31, h32, Bool.true_and, Bool.false_and, Bool.and_true, Bool.and_false, Bool.true_or, Bool.false_or, Bool.or_true, Bool.or_false] <;> rfl
                      rw [one_of hp hkd (fe_yes (by omega) hc hb (by decide)) (by decide)]; rfl
                  · skip
                    have h38 := t_not h30
                    refine rg_put (d := 64) (v := .d (.fl undef)) rfl (on rfl rfl rfl h30) ?_
                    refine rg_put (d := 65) (v := .d (.fl undef)) rfl (on rfl rfl rfl h30) ?_
                    refine rg_put (d := 66) (v := .d (.fl undef)) rfl (on rfl rfl rfl h30) ?_
                    refine rg_put (d := 67) (v := .d (.fl undef)) rfl (on rfl rfl rfl h30) ?_
                    refine rg_put (d := 68) (v := .d (.fl undef)) rfl (on rfl rfl rfl h30) ?_
                    refine rg_put (d := 69) (v := .d (.fl undef)) rfl (on rfl rfl rfl h30) ?_
                    refine rg_put (d := 70) (v := .d (.fl undef)) rfl (on rfl rfl rfl h30) ?_
                    refine rg_put (d := 71) (v := .d (.fl (.bool true))) rfl (og rfl (op_pick rfl rfl (by rw [h30]; rfl) rfl)) ?_
                    refine rg_put (d := 72) (v := .d (.fl (.bool true))) rfl (og rfl (op_move rfl rfl rfl)) ?_
                    refine rg_put (d := 73) (v := .d (.fl undef)) rfl (on rfl rfl rfl rfl) ?_
                    refine rg_put (d := 74) (v := .d (.fl undef)) rfl (on rfl rfl rfl rfl) ?_
                    refine rg_put (d := 75) (v := .d (.fl undef)) rfl (on rfl rfl rfl rfl) ?_
                    refine rg_put (d := 76) (v := .d (.fl undef)) rfl (on rfl rfl rfl rfl) ?_
                    refine rg_put (d := 77) (v := .d (.fl undef)) rfl (on rfl rfl rfl rfl) ?_
                    refine rg_put (d := 78) (v := .d (.fl undef)) rfl (on rfl rfl rfl rfl) ?_
                    refine rg_put (d := 79) (v := .d (.fl undef)) rfl (on rfl rfl rfl rfl) ?_
                    refine rg_put (d := 80) (v := .d (.fl (.bool true))) rfl (og rfl (op_pick rfl rfl rfl rfl)) ?_
                    refine rg_done rfl ?_
                    refine a_condK rfl rfl ?_
                    refine a_rseq ?_
                    refine rg_put (d := 4) (v := .d (.fl (.int .i64 1))) rfl (og rfl (op_assign rfl rfl rfl)) ?_
                    refine rg_done rfl ?_
                    refine a_ret ?_
                    show ∃ ds, ResL _ _ _ ds ∧ RV.of ds = _
                    refine ⟨[.fl (.int .i64 1)], (.cons (.tmp rfl (.d _)) .nil), ?_⟩
                    have hb : of1 d.offs k = 1 := by unfold of1; simp only [h1, h3, h13, h15, h27, h30, h38, Bool.true_and, Bool.false_and, Bool.and_true, Bool.and_false, Bool.true_or, Bool.false_or, Bool.or_true, Bool.or_false] <;> rfl
                    rw [one_of hp hkd (fe_yes (by omega) hc hb (by decide)) (by decide)]; rfl
            · skip
              have h39 := f_dec h13
              refine a_exit ?_
              show A _ _ _ _ _ _ _
              refine a_seq ?_
              refine a_rseq ?_
              refine rg_put (d := 6) (v := .d (.fl (.int .i64 0))) rfl (og rfl (op_assign rfl rfl rfl)) ?_
              refine rg_done rfl ?_
              refine a_block ?_
              have ho : ofE d.offs = 0 := by rw [fe_end (by omega)] at hc; exact hc
              refine a_loop (ι := Nat) (fun j => SS [(0, .d (.ag (eDc d))), (1, .d (.ag (eNw n))), (2, .pt 101 0), (3, .pt 102 0), (5, .d (.fl (.int .i64 (k : Int)))), (11, .d (.fl (.bool ((!(hasP n d.point)))))), (29, .d (.fl (.bool ((decide (15 < d.lane)))))), (34, .d (.fl (.bool ((decide ((k : Int) < (d.offs.length : Int))))))), (6, .d (.fl (.int .i64 (j : Int))))] [(101, .bx 36 (eDc d)), (102, .bx 26 (eNw n))]) (fun j => j ≤ d.down.length ∧ ivE d.down = fe (iv1 d.down) j (d.down.length - j)) (fun j => d.down.length - j) 0 (⟨by omega, ivE_go d.down⟩) (imp_forget rfl ⟨rfl, rfl, rfl, rfl, rfl, rfl, rfl, rfl, (by first | rfl | exact ci (by omega) | exact ci (by simp) | exact cd (by simp) | simp), trivial⟩ ⟨rfl, rfl, trivial⟩) (fun j hok => ?_)
              obtain ⟨hj, hc2⟩ := hok
              refine a_seq ?_
              refine a_rseq ?_
              refine rg_put (d := 81) (v := .d (.fl (.int .i64 (j : Int)))) rfl (og rfl (op_move rfl rfl rfl)) ?_
              refine rg_put (d := 82) (v := .pt 101 5) rfl (og rfl (of_eff (s_field_pt rfl Try.underlying36 rfl ti34 rfl rfl rfl) rfl)) ?_
              refine rg_put (d := 83) (v := .d (.sl 2 (List.map eIv d.down))) rfl (og rfl (op_load_pt rfl Try.underlying34 rfl rfl rfl rfl rfl)) ?_
              refine rg_put (d := 84) (v := .d (.fl (.int .i64 (d.down.length : Int)))) rfl (og rfl (s_len rfl Try.underlying34 rfl rfl)) ?_
              refine rg_put (d := 85) (v := .d (.fl (.bool ((decide ((j : Int) < (d.down.length : Int))))))) rfl (og rfl (op_bin rfl rfl rfl (b_lss _ _ _ _) rfl)) ?_
              refine rg_done rfl ?_
              refine a_cond rfl (fun h40 => ?_) (fun h40 => ?_)
              · skip
                have h41 := t_dec h40
                refine a_skip ?_
                show A _ _ _ _ _ _ _
                refine a_seq ?_
                refine a_block ?_
                refine a_seq ?_
                refine a_rseq ?_
                refine rg_put (d := 88) (v := .pt 101 5) rfl (og rfl (of_eff (s_field_pt rfl Try.underlying36 rfl ti34 rfl rfl rfl) rfl)) ?_
                refine rg_put (d := 89) (v := .d (.sl 2 (List.map eIv d.down))) rfl (og rfl (op_load_pt rfl Try.underlying34 rfl rfl rfl rfl rfl)) ?_
                refine rg_put (d := 90) (v := .d (.fl (.int .i64 (j : Int)))) rfl (og rfl (op_move rfl rfl rfl)) ?_
                refine rg_put (d := 91) (v := .el ((eIv (ix d.down j)))) rfl (og rfl (s_index rfl Try.underlying34 ti48 rfl rfl (by omega) (row_at (by omega)) rfl)) ?_
                refine rg_put (d := 92) (v := .d (.ag (eIv (ix d.down j)))) rfl (og rfl (of_eff (s_load_els rfl Try.underlying48 rfl ti48 rfl rfl rfl) rfl)) ?_
                refine rg_put (d := 93) (v := .d (.fl (.bool ((vI (ix d.down j)))))) rfl (og rfl (op_call rfl Try.func26 nm26 rfl (.cons rfl (.d _) .nil) (vI26 (ix d.down j)) rfl)) ?_
                refine rg_put (d := 94) (v := .d (.fl (.bool ((!((vI (ix d.down j)))))))) rfl (og rfl (op_un rfl rfl (u_not _) rfl)) ?_
                refine rg_done rfl ?_
                refine a_cond rfl (fun h42 => ?_) (fun h42 => ?_)
                · skip
                  have h43 := t_not h42
                  refine a_rseq ?_
                  refine rg_put (d := 4) (v := .d (.fl (.int .i64 12))) rfl (og rfl (op_assign rfl rfl rfl)) ?_
                  refine rg_done rfl ?_
                  refine a_ret ?_
                  show ∃ ds, ResL _ _ _ ds ∧ RV.of ds = _
                  refine ⟨[.fl (.int .i64 12)], (.cons (.tmp rfl (.d _)) .nil), ?_⟩
                  have hb : iv1 d.down j = 12 := by unfold iv1; simp only [h1, h3, h40, h42, h43, Bool.true_and, Bool.false_and, Bool.and_true, Bool.and_false, Bool.true_or, Bool.false_or, Bool.or_true, Bool.or_false] <;> rfl
                  rw [one_iv hp hkd ho, fe_yes (by omega) hc2 hb (by decide)]; rfl
                · skip
                  have h44 := f_not h42
                  refine a_skip ?_
                  show A _ _ _ _ _ _ _
                  refine a_dseq (by kernel_rfl) ?_
                  refine dr_put (d := 95) (v := .d (.fl (.int .i64 (j : Int)))) rfl (og rfl (op_move rfl rfl rfl)) ?_
                  refine dr_put (d := 96) (v := .d (.fl (.bool ((decide (0 < (j : Int))))))) rfl (og rfl (op_bin rfl rfl rfl (b_gtr _ _ _ _) rfl)) ?_
                  refine dr_put (d := 97) (v := .d (.fl (.bool ((decide (0 < (j : Int))))))) rfl (og rfl (op_move rfl rfl rfl)) ?_
                  rcases fot ((decide (0 < (j : Int)))) with h45 | h45
                  · skip
                    have h46 := f_dec h45
                    refine dr_put (d := 98) (v := .d (.fl undef)) rfl (on rfl rfl rfl h45) ?_
                    refine dr_put (d := 99) (v := .d (.fl undef)) rfl (on rfl rfl rfl h45) ?_
                    refine dr_put (d := 100) (v := .d (.fl undef)) rfl (on rfl rfl rfl h45) ?_
                    refine dr_put (d := 101) (v := .d (.fl undef)) rfl (on rfl rfl rfl h45) ?_
                    refine dr_put (d := 102) (v := .d (.fl undef)) rfl (on rfl rfl rfl h45) ?_
                    refine dr_put (d := 103) (v := .d (.fl undef)) rfl (on rfl rfl rfl h45) ?_
                    refine dr_put (d := 104) (v := .d (.fl undef)) rfl (on rfl rfl rfl h45) ?_
                    refine dr_put (d := 105) (v := .d (.fl undef)) rfl (on rfl rfl rfl h45) ?_
                    refine dr_put (d := 106) (v := .d (.fl undef)) rfl (on rfl rfl rfl h45) ?_
                    refine dr_put (d := 107) (v := .d (.fl undef)) rfl (on rfl rfl rfl h45) ?_
                    refine dr_put (d := 108) (v := .d (.fl undef)) rfl (on rfl rfl rfl h45) ?_
                    refine dr_put (d := 109) (v := .d (.fl undef)) rfl (on rfl rfl rfl h45) ?_
                    refine dr_put (d := 110) (v := .d (.fl undef)) rfl (on rfl rfl rfl h45) ?_
                    refine dr_put (d := 111) (v := .d (.fl undef)) rfl (on rfl rfl rfl h45) ?_
                    refine dr_put (d := 112) (v := .d (.fl (.bool false))) rfl (og rfl (op_pick rfl rfl (by rw [h45]; rfl) rfl)) ?_
                    refine dr_done rfl (sepB_of [0, 1, 3, 7, 15, 7, 63, 127, 255, 7, 519, 7, 2055, 7687, 15879, 32263, 65535, 131071] (by kernel_rfl)) (by kernel_rfl) ?_
                    refine a_condF rfl rfl ?_
                    refine a_skip ?_
                    show A _ _ _ _ _ _ _
                    refine a_region ?_
                    refine rg_put (d := 86) (v := .d (.fl (.int .i64 (j : Int)))) rfl (og rfl (op_move rfl rfl rfl)) ?_
                    refine rg_put (d := 87) (v := .d (.fl (.int .i64 (((j : Int) + 1))))) rfl (og rfl (op_bin rfl rfl rfl (fun x y w => b_add64 _ _ _ x y w (by omega)) rfl)) ?_
                    refine rg_put (d := 6) (v := .d (.fl (.int .i64 (((j : Int) + 1))))) rfl (og rfl (op_assign rfl rfl rfl)) ?_
                    refine rg_done rfl ?_
                    have hb : iv1 d.down j = 0 := by unfold iv1; simp only [h1, h3, h40, h42, h44, h45, Bool.true_and, Bool.false_and, Bool.and_true, Bool.and_false, Bool.true_or, Bool.false_or, Bool.or_true, Bool.or_false] <;> rfl
                    show ∃ i, _ ∧ _ ∧ Imp _ _ _ _ _
                    refine ⟨j + 1, ⟨by omega, fe_no (by omega) hc2 hb⟩, by omega, imp_forget rfl ⟨rfl, rfl, rfl, rfl, rfl, rfl, rfl, rfl, (by first | rfl | exact ci (by omega) | exact ci (by simp) | exact cd (by simp) | simp), trivial⟩ ⟨rfl, rfl, trivial⟩⟩
                  · skip
                    have h47 := t_dec h45
                    refine dr_put (d := 98) (v := .pt 101 5) rfl (oy rfl rfl rfl h45 (of_eff (s_field_pt rfl Try.underlying36 rfl ti34 rfl rfl rfl) rfl)) ?_
                    refine dr_put (d := 99) (v := .d (.sl 2 (List.map eIv d.down))) rfl (oy rfl rfl rfl h45 (op_load_pt rfl Try.underlying34 rfl rfl rfl rfl rfl)) ?_
                    refine dr_put (d := 100) (v := .d (.fl (.int .i64 (j : Int)))) rfl (oy rfl rfl rfl h45 (op_move rfl rfl rfl)) ?_
                    refine dr_put (d := 101) (v := .el ((eIv (ix d.down j)))) rfl (oy rfl rfl rfl h45 (s_index rfl Try.underlying34 ti48 rfl rfl (by omega) (row_at (by omega)) rfl)) ?_
                    refine dr_put (d := 102) (v := .el ((List.drop 0 ((eIv (ix d.down j)))))) rfl (oy rfl rfl rfl h45 (of_eff (s_field_el rfl Try.underlying48 rfl ti3 rfl rfl rfl) rfl)) ?_
                    refine dr_put (d := 103) (v := .d (.fl (.int .i64 ((ix d.down j).fr)))) rfl (oy rfl rfl rfl h45 (op_load_el rfl Try.underlying3 rfl rfl rfl rfl)) ?_
                    refine dr_put (d := 104) (v := .pt 101 5) rfl (oy rfl rfl rfl h45 (of_eff (s_field_pt rfl Try.underlying36 rfl ti34 rfl rfl rfl) rfl)) ?_
                    refine dr_put (d := 105) (v := .d (.sl 2 (List.map eIv d.down))) rfl (oy rfl rfl rfl h45 (op_load_pt rfl Try.underlying34 rfl rfl rfl rfl rfl)) ?_
                    refine dr_put (d := 106) (v := .d (.fl (.int .i64 (j : Int)))) rfl (oy rfl rfl rfl h45 (op_move rfl rfl rfl)) ?_
                    refine dr_put (d := 107) (v := .d (.fl (.int .i64 (((j : Int) - 1))))) rfl (oy rfl rfl rfl h45 (op_bin rfl rfl rfl (fun x y w => b_sub64 _ _ _ x y w (by omega)) rfl)) ?_
                    refine dr_put (d := 108) (v := .el ((eIv ((ix d.down (((j : Int) - 1)).toNat))))) rfl (oy rfl rfl rfl h45 (s_index rfl Try.underlying34 ti48 rfl rfl (by omega) (row_atI (by omega) (by omega)) rfl)) ?_
                    refine dr_put (d := 109) (v := .el ((List.drop 1 ((eIv ((ix d.down (((j : Int) - 1)).toNat))))))) rfl (oy rfl rfl rfl h45 (of_eff (s_field_el rfl Try.underlying48 rfl ti3 rfl rfl rfl) rfl)) ?_
                    refine dr_put (d := 110) (v := .d (.fl (.int .i64 (((ix d.down (((j : Int) - 1)).toNat)).to)))) rfl (oy rfl rfl rfl h45 (op_load_el rfl Try.underlying3 rfl rfl rfl rfl)) ?_
                    refine dr_put (d := 111) (v := .d (.fl (.bool ((decide ((ix d.down j).fr ≤ ((ix d.down (((j : Int) - 1)).toNat)).to)))))) rfl (oy rfl rfl rfl h45 (op_bin rfl rfl rfl (b_leq _ _ _ _) rfl)) ?_
                    refine dr_put (d := 112) (v := .d (.fl (.bool ((decide ((ix d.down j).fr ≤ ((ix d.down (((j : Int) - 1)).toNat)).to)))))) rfl (og rfl (op_pick rfl rfl (by rw [h45]; rfl) rfl)) ?_
                    refine dr_done rfl (sepB_of [0, 1, 3, 7, 15, 7, 63, 127, 255, 7, 519, 7, 2055, 7687, 15879, 32263, 65535, 131071] (by kernel_rfl)) (by kernel_rfl) ?_
                    refine a_cond rfl (fun h48 => ?_) (fun h48 => ?_)
                    · skip
                      have h49 := t_dec h48
                      refine a_rseq ?_
                      refine rg_put (d := 4) (v := .d (.fl (.int .i64 15))) rfl (og rfl (op_assign rfl rfl rfl)) ?_
                      refine rg_done rfl ?_
                      refine a_ret ?_
                      show ∃ ds, ResL _ _ _ ds ∧ RV.of ds = _
                      refine ⟨[.fl (.int .i64 15)], (.cons (.tmp rfl (.d _)) .nil), ?_⟩
                      have hb : iv1 d.down j = 15 := by unfold iv1; simp only [h1, h3, h40, h42, h44, h45, h48, Bool.true_and, Bool.false_and, Bool.and_true, Bool.and_false, Bool.true_or, Bool.false_or, Bool.or_true, Bool.or_false] <;> rfl
                      rw [one_iv hp hkd ho, fe_yes (by omega) hc2 hb (by decide)]; rfl
                    · skip
                      have h50 := f_dec h48
                      refine a_skip ?_
                      show A _ _ _ _ _ _ _
                      refine a_region ?_
                      refine rg_put (d := 86) (v := .d (.fl (.int .i64 (j : Int)))) rfl (og rfl (op_move rfl rfl rfl)) ?_
                      refine rg_put (d := 87) (v := .d (.fl (.int .i64 (((j : Int) + 1))))) rfl (og rfl (op_bin rfl rfl rfl (fun x y w => b_add64 _ _ _ x y w (by omega)) rfl)) ?_
                      refine rg_put (d := 6) (v := .d (.fl (.int .i64 (((j : Int) + 1))))) rfl (og rfl (op_assign rfl rfl rfl)) ?_
                      refine rg_done rfl ?_
                      have hb : iv1 d.down j = 0 := by unfold iv1; simp only [h1, h3, h40, h42, h44, h45, h48, Bool.true_and, Bool.false_and, Bool.and_true, Bool.and_false, Bool.true_or, Bool.false_or, Bool.or_true, Bool.or_false] <;> rfl
                      show ∃ i, _ ∧ _ ∧ Imp _ _ _ _ _
                      refine ⟨j + 1, ⟨by omega, fe_no (by omega) hc2 hb⟩, by omega, imp_forget rfl ⟨rfl, rfl, rfl, rfl, rfl, rfl, rfl, rfl, (by first | rfl | exact ci (by omega) | exact ci (by simp) | exact cd (by simp) | simp), trivial⟩ ⟨rfl, rfl, trivial⟩⟩
              · skip
                have h51 := f_dec h40
                refine a_exit ?_
                show A _ _ _ _ _ _ _
                refine a_rseq ?_
                refine rg_put (d := 4) (v := .d (.fl (.int .i64 0))) rfl (og rfl (op_assign rfl rfl rfl)) ?_
                refine rg_done rfl ?_
                refine a_ret ?_
                show ∃ ds, ResL _ _ _ ds ∧ RV.of ds = _
                refine ⟨[.fl (.int .i64 0)], (.cons (.tmp rfl (.d _)) .nil), ?_⟩
                rw [fe_end (by omega)] at hc2
                rw [one_iv hp hkd ho, hc2]; rfl
        · skip
          have h52 := t_dec h8
          refine rg_put (d := 26) (v := .d (.fl undef)) rfl (on rfl rfl rfl h8) ?_
          refine rg_put (d := 27) (v := .d (.fl undef)) rfl (on rfl rfl rfl h8) ?_
          refine rg_put (d := 28) (v := .d (.fl undef)) rfl (on rfl rfl rfl h8) ?_
          refine rg_put (d := 29) (v := .d (.fl (.bool true))) rfl (og rfl (op_pick rfl rfl (by rw [h8]; rfl) rfl)) ?_
          refine rg_done rfl ?_
          refine a_condK rfl rfl ?_
          refine a_rseq ?_
          refine rg_put (d := 4) (v := .d (.fl (.int .i64 1))) rfl (og rfl (op_assign rfl rfl rfl)) ?_
          refine rg_done rfl ?_
          refine a_ret ?_
          show ∃ ds, ResL _ _ _ ds ∧ RV.of ds = _
          refine ⟨[.fl (.int .i64 1)], (.cons (.tmp rfl (.d _)) .nil), ?_⟩
          have hkd : kdB d = true := by unfold kdB; simp only [h1, h3, h4, h6, h8, Bool.true_and, Bool.false_and, Bool.and_true, Bool.and_false, Bool.true_or, Bool.false_or, Bool.or_true, Bool.or_false] <;> rfl
          rw [one_kd h3 hkd]; rfl
      · skip
        have h53 := t_dec h6
        refine rg_put (d := 21) (v := .d (.fl undef)) rfl (on rfl rfl rfl h6) ?_
        refine rg_put (d := 22) (v := .d (.fl undef)) rfl (on rfl rfl rfl h6) ?_
        refine rg_put (d := 23) (v := .d (.fl undef)) rfl (on rfl rfl rfl h6) ?_
        refine rg_put (d := 24) (v := .d (.fl (.bool true))) rfl (og rfl (op_pick rfl rfl (by rw [h6]; rfl) rfl)) ?_
        refine rg_put (d := 25) (v := .d (.fl (.bool true))) rfl (og rfl (op_move rfl rfl rfl)) ?_
        refine rg_put (d := 26) (v := .d (.fl undef)) rfl (on rfl rfl rfl rfl) ?_
        refine rg_put (d := 27) (v := .d (.fl undef)) rfl (on rfl rfl rfl rfl) ?_
        refine rg_put (d := 28) (v := .d (.fl undef)) rfl (on rfl rfl rfl rfl) ?_
        refine rg_put (d := 29) (v := .d (.fl (.bool true))) rfl (og rfl (op_pick rfl rfl rfl rfl)) ?_
        refine rg_done rfl ?_
        refine a_condK rfl rfl ?_
        refine a_rseq ?_
        refine rg_put (d := 4) (v := .d (.fl (.int .i64 1))) rfl (og rfl (op_assign rfl rfl rfl)) ?_
        refine rg_done rfl ?_
        refine a_ret ?_
        show ∃ ds, ResL _ _ _ ds ∧ RV.of ds = _
        refine ⟨[.fl (.int .i64 1)], (.cons (.tmp rfl (.d _)) .nil), ?_⟩
        have hkd : kdB d = true := by unfold kdB; simp only [h1, h3, h4, h6, Bool.true_and, Bool.false_and, Bool.and_true, Bool.and_false, Bool.true_or, Bool.false_or, Bool.or_true, Bool.or_false] <;> rfl
        rw [one_kd h3 hkd]; rfl
    · skip
      have h54 := t_dec h4
      refine rg_put (d := 16) (v := .d (.fl undef)) rfl (on rfl rfl rfl h4) ?_
      refine rg_put (d := 17) (v := .d (.fl undef)) rfl (on rfl rfl rfl h4) ?_
      refine rg_put (d := 18) (v := .d (.fl undef)) rfl (on rfl rfl rfl h4) ?_
      refine rg_put (d := 19) (v := .d (.fl (.bool true))) rfl (og rfl (op_pick rfl rfl (by rw [h4]; rfl) rfl)) ?_
      refine rg_put (d := 20) (v := .d (.fl (.bool true))) rfl (og rfl (op_move rfl rfl rfl)) ?_
      refine rg_put (d := 21) (v := .d (.fl undef)) rfl (on rfl rfl rfl rfl) ?_
      refine rg_put (d := 22) (v := .d (.fl undef)) rfl (on rfl rfl rfl rfl) ?_
      refine rg_put (d := 23) (v := .d (.fl undef)) rfl (on rfl rfl rfl rfl) ?_
      refine rg_put (d := 24) (v := .d (.fl (.bool true))) rfl (og rfl (op_pick rfl rfl rfl rfl)) ?_
      refine rg_put (d := 25) (v := .d (.fl (.bool true))) rfl (og rfl (op_move rfl rfl rfl)) ?_
      refine rg_put (d := 26) (v := .d (.fl undef)) rfl (on rfl rfl rfl rfl) ?_
      refine rg_put (d := 27) (v := .d (.fl undef)) rfl (on rfl rfl rfl rfl) ?_
      refine rg_put (d := 28) (v := .d (.fl undef)) rfl (on rfl rfl rfl rfl) ?_
      refine rg_put (d := 29) (v := .d (.fl (.bool true))) rfl (og rfl (op_pick rfl rfl rfl rfl)) ?_
      refine rg_done rfl ?_
      refine a_condK rfl rfl ?_
      refine a_rseq ?_
      refine rg_put (d := 4) (v := .d (.fl (.int .i64 1))) rfl (og rfl (op_assign rfl rfl rfl)) ?_
      refine rg_done rfl ?_
      refine a_ret ?_
      show ∃ ds, ResL _ _ _ ds ∧ RV.of ds = _
      refine ⟨[.fl (.int .i64 1)], (.cons (.tmp rfl (.d _)) .nil), ?_⟩
      have hkd : kdB d = true := by unfold kdB; simp only [h1, h3, h4, Bool.true_and, Bool.false_and, Bool.and_true, Bool.and_false, Bool.true_or, Bool.false_or, Bool.or_true, Bool.or_false] <;> rfl
      rw [one_kd h3 hkd]; rfl
end Go.Proofs.Ytajhpdmbmipboaa.Wk
