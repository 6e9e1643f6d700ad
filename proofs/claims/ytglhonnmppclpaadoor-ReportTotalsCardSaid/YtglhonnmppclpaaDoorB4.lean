/- Sums of charges; the report of a day. Conditions: at most 40 charges, each fits. -/
import Derived.Test.YtglhonnmppclpaaDoorB3
set_option linter.unusedSimpArgs false
set_option linter.unusedVariables false
namespace Go.Proofs.YtglhonnmppclpaaDoor.Wk
open Go Go.RowKit Go.Proofs.YtglhonnmppclpaaDoor.Av
def cat {α β : Type} [Inhabited α] (g : α → List β) (l : List α) : Nat → List β
  | 0 => []
  | k + 1 => cat g l k ++ g (ix l k)
theorem cat_len {α β : Type} [Inhabited α] {g : α → List β} {l : List α} {c : Nat} (h : ∀ x ∈ l, (g x).length ≤ c) : ∀ k, k ≤ l.length → (cat g l k).length ≤ c * k
  | 0, _ => by simp [cat]
  | k + 1, hk => by
    rw [cat, List.length_append, Nat.mul_succ]
    have := cat_len h k (by omega)
    have := h _ (ix_mem (show k < l.length by omega))
    omega
def gC (day : Int) (x : Cg) : List Cg := if (dayN x.time == day) = true then [x] else []
def fl (l : List Cg) (day : Int) (k : Nat) : List Cg := cat (gC day) l k
theorem fl_yes {l : List Cg} {day : Int} {k : Nat} (h : (dayN (ix l k).time == day) = true) : fl l day k ++ [ix l k] = fl l day (k + 1) := by
  show _ = cat (gC day) l k ++ gC day (ix l k)
  unfold gC; rw [if_pos h]; rfl
theorem fl_no {l : List Cg} {day : Int} {k : Nat} (h : (dayN (ix l k).time == day) = false) : fl l day k = fl l day (k + 1) := by
  show _ = cat (gC day) l k ++ gC day (ix l k)
  unfold gC; rw [if_neg (by rw [h]; decide), List.append_nil]; rfl
theorem fl_len (l : List Cg) (day : Int) (k : Nat) (hk : k ≤ l.length) : (fl l day k).length ≤ k := by
  have := cat_len (g := gC day) (l := l) (c := 1) (fun x _ => by unfold gC; split <;> simp) k hk
  unfold fl; omega
theorem fl_mem {l : List Cg} {day : Int} : ∀ {k : Nat}, k ≤ l.length → ∀ x ∈ fl l day k, x ∈ l
  | 0, _, x, h => by cases h
  | k + 1, hk, x, h => by
    have h' : x ∈ fl l day k ++ gC day (ix l k) := h
    rcases List.mem_append.1 h' with h1 | h1
    · exact fl_mem (by omega) x h1
    · unfold gC at h1
      split at h1
      · rw [List.mem_singleton.1 h1]; exact ix_mem (by omega)
      · cases h1
def tot (l : List Cg) : Nat → Int
  | 0 => 0
  | k + 1 => tot l k + (ix l k).cents
theorem tot_bd {l : List Cg} (h : ∀ x ∈ l, -1125899906842624 ≤ x.cents ∧ x.cents ≤ 1125899906842624) : ∀ k, k ≤ l.length → -(1125899906842624 * (k : Int)) ≤ tot l k ∧ tot l k ≤ 1125899906842624 * (k : Int)
  | 0, _ => by show -(1125899906842624 * 0) ≤ (0 : Int) ∧ (0 : Int) ≤ 1125899906842624 * 0; omega
  | k + 1, hk => by
    have h1 := tot_bd h k (by omega)
    have h2 := h _ (ix_mem (show k < l.length by omega))
    rw [tot]; omega
theorem tot_app (l : List Cg) (x : Cg) : ∀ k, k ≤ l.length → tot (l ++ [x]) k = tot l k
  | 0, _ => rfl
  | k + 1, hk => by
    rw [tot, tot, tot_app l x k (by omega)]
    have e : ix (l ++ [x]) k = ix l k := by
      have h1 := ix_get (l := l) (i := k) (by omega)
      have h2 := ix_get (l := l ++ [x]) (i := k) (by rw [List.length_append]; omega)
      rw [List.getElem?_append_left (by omega), h1] at h2
      exact (Option.some.inj h2).symm
    rw [e]
theorem tot_snoc (l : List Cg) (x : Cg) : tot (l ++ [x]) (l ++ [x]).length = tot l l.length + x.cents := by
  rw [List.length_append]
  show tot (l ++ [x]) l.length + (ix (l ++ [x]) l.length).cents = _
  have e : ix (l ++ [x]) l.length = x := by
    have h2 := ix_get (l := l ++ [x]) (i := l.length) (by rw [List.length_append]; simp)
    rw [List.getElem?_append_right (Nat.le_refl _)] at h2
    simp at h2
    exact h2.symm
  rw [tot_app _ _ _ (Nat.le_refl _), e]
def OkL (l : List Cg) : Prop := l.length ≤ 40 ∧ ∀ q, q < l.length → OkC (ix l q)
theorem okL_fit {l : List Cg} (h : OkL l) : ∀ x ∈ l, -1125899906842624 ≤ x.cents ∧ x.cents ≤ 1125899906842624 := fun x hx => by
  obtain ⟨q, hq, rfl⟩ := List.mem_iff_getElem.1 hx
  have h1 := (h.2 q hq).fit
  have e : ix l q = l[q] := by
    have h2 := ix_get (l := l) (i := q) hq
    rw [List.getElem?_eq_getElem hq] at h2
    exact (Option.some.inj h2).symm
  rw [e] at h1; exact h1
theorem okL_fl {l : List Cg} (h : OkL l) (day : Int) {k : Nat} (hk : k ≤ l.length) : (fl l day k).length ≤ 40 ∧ ∀ x ∈ fl l day k, -1125899906842624 ≤ x.cents ∧ x.cents ≤ 1125899906842624 :=
  ⟨by have := fl_len l day k hk; have := h.1; omega, fun x hx => okL_fit h x (fl_mem hk x hx)⟩
def dP (l : List Cg) (day : Int) : Nat → ByteArray
  | 0 => ln [⟨#[100, 97, 121]⟩, dtS day]
  | k + 1 => if (dayN (ix l k).time == day) = true then dP l day k ++ chg (ix l k) else dP l day k
theorem dP_zero (l : List Cg) (day : Int) : (⟨#[]⟩ : ByteArray) ++ ln [⟨#[100, 97, 121]⟩, dtS day] = dP l day 0 := ByteArray.empty_append
theorem dP_zr (l : List Cg) (day : Int) : ln [⟨#[100, 97, 121]⟩, dtS day] = dP l day 0 := rfl
theorem dP_yes {l : List Cg} {day : Int} {k : Nat} (h : (dayN (ix l k).time == day) = true) : dP l day k ++ chg (ix l k) = dP l day (k + 1) := by rw [dP, if_pos h]
theorem dP_no {l : List Cg} {day : Int} {k : Nat} (h : (dayN (ix l k).time == day) = false) : dP l day k = dP l day (k + 1) := by rw [dP, if_neg (by rw [h]; decide)]
theorem dyF_jn (day : Int) : (jn [⟨#[100, 97, 121]⟩, dtS day]).size ≤ 142 := jn_bound (c := 70) (List.forall_mem_cons.2 ⟨(by decide), (List.forall_mem_cons.2 ⟨(dtS_size day), (fun _ h => by cases h)⟩)⟩)
theorem dP_size {l : List Cg} {day : Int} (h : OkL l) : ∀ k, k ≤ l.length → (dP l day k).size ≤ 143 + 76495 * k
  | 0, _ => by
    have h1 := dyF_jn day
    have h2 := ln_size [⟨#[100, 97, 121]⟩, dtS day]
    show (ln [⟨#[100, 97, 121]⟩, dtS day]).size ≤ _
    omega
  | k + 1, hk => by
    have h1 := dP_size (day := day) h k (by omega)
    have h2 := chg_size (h.2 k (by omega))
    rw [dP]
    split
    · rw [ByteArray.size_append]; omega
    · omega
def sF (n t : Int) : List ByteArray := [⟨#[115, 117, 109]⟩, fm n, sh t]
theorem sF_jn {n t : Int} (h1 : in64 n) (h2 : in64 t) : (jn [⟨#[115, 117, 109]⟩, fm n, sh t]).size ≤ 78 := jn_bound (c := 25) (List.forall_mem_cons.2 ⟨(by decide), (List.forall_mem_cons.2 ⟨(Nat.le_trans (fm_size h1) (by decide)), (List.forall_mem_cons.2 ⟨(sh_size h2), (fun _ h => by cases h)⟩)⟩)⟩)
theorem sF_ln {n t : Int} (h1 : in64 n) (h2 : in64 t) : (ln [⟨#[115, 117, 109]⟩, fm n, sh t]).size ≤ 79 := by
  have := sF_jn h1 h2
  have := ln_size [⟨#[115, 117, 109]⟩, fm n, sh t]
  omega
def dyS (l : List Cg) (day : Int) : ByteArray × Int := if isD day = true then (dP l day l.length ++ ln [⟨#[115, 117, 109]⟩, fm ((fl l day l.length).length : Int), sh (tot (fl l day l.length) (fl l day l.length).length)], 0) else (⟨#[]⟩, 12)
theorem dyS_yes {l : List Cg} {day : Int} (h : isD day = true) : dyS l day = (dP l day l.length ++ ln [⟨#[115, 117, 109]⟩, fm ((fl l day l.length).length : Int), sh (tot (fl l day l.length) (fl l day l.length).length)], 0) := if_pos h
theorem dyS_no {l : List Cg} {day : Int} (h : isD day = false) : dyS l day = (⟨#[]⟩, 12) := if_neg (by rw [h]; decide)
theorem wkD_y {d : Int} (h : decide (wkd d < 0) = false) : isD d = true := by rw [wkd_lt] at h; cases h2 : isD d with
  | true => rfl
  | false => rw [h2] at h; cases h
theorem wkD_n {d : Int} (h : decide (wkd d < 0) = true) : isD d = false := by rw [wkd_lt] at h; cases h2 : isD d with
  | false => rfl
  | true => rw [h2] at h; cases h

set_option maxHeartbeats 4000000 in
set_option maxRecDepth 100000 in
theorem tot38 (l : List Cg) (hl : l.length ≤ 40) (hf : ∀ x ∈ l, -1125899906842624 ≤ x.cents ∧ x.cents ≤ 1125899906842624) : CtrK Tryd.prog KK 35 [.sl 7 (List.map eCg l)] (.tu [.fl (.string (fm (l.length : Int))), .fl (.string (sh (tot l l.length)))]) := by
  refine ctrK (n := 23) (rs := #[.tmp 2, .tmp 3]) (L := [(0, .d (.sl 7 (List.map eCg l)))]) Tryd.func35 rfl rfl rfl rfl rfl (fun w0 U0 hG => ?_)
  refine a_rseq ?_
  refine rg_put (d := 2) (v := .d (.fl (.string (⟨#[]⟩)))) rfl (og rfl (op_assign rfl rfl rfl)) ?_
  refine rg_put (d := 3) (v := .d (.fl (.string (⟨#[]⟩)))) rfl (og rfl (op_assign rfl rfl rfl)) ?_
  refine rg_done rfl ?_
  refine a_rseq ?_
  refine rg_put (d := 4) (v := .d (.fl (.int .i64 0))) rfl (og rfl (op_assign rfl rfl rfl)) ?_
  refine rg_done rfl ?_
  refine a_seq ?_
  refine a_rseq ?_
  refine rg_put (d := 7) (v := .d (.sl 7 (List.map eCg l))) rfl (og rfl (op_move rfl rfl rfl)) ?_
  refine rg_put (d := 8) (v := .d (.fl (.int .i64 (l.length : Int)))) rfl (og rfl (s_len rfl Tryd.underlying59 rfl rfl)) ?_
  refine rg_put (d := 9) (v := .d (.fl (.int .i64 0))) rfl (og rfl (op_move rfl rfl rfl)) ?_
  refine rg_done rfl ?_
  refine a_block ?_
  refine a_loop (ι := Nat) (fun k => SS [(0, .d (.sl 7 (List.map eCg l))), (2, .d (.fl (.string (⟨#[]⟩)))), (3, .d (.fl (.string (⟨#[]⟩)))), (7, .d (.sl 7 (List.map eCg l))), (8, .d (.fl (.int .i64 (l.length : Int)))), (9, .d (.fl (.int .i64 (k : Int)))), (4, .d (.fl (.int .i64 (tot l k))))] []) (fun k => k ≤ l.length) (fun k => l.length - k) 0 (by omega) (imp_forget rfl ⟨rfl, rfl, rfl, rfl, rfl, (by first | rfl | exact ci (by omega) | exact ci (by simp) | exact cd (by simp) | simp), rfl, trivial⟩ trivial) (fun k hok => ?_)
  have hk := hok
  have htb := tot_bd hf k hk
  refine a_rseq ?_
  refine rg_put (d := 10) (v := .d (.fl (.bool ((decide ((k : Int) < (l.length : Int))))))) rfl (og rfl (op_bin rfl rfl rfl (b_lss _ _ _ _) rfl)) ?_
  refine rg_done rfl ?_
  refine a_seq ?_
  refine a_cond rfl (fun h1 => ?_) (fun h1 => ?_)
  · skip
    have h2 := t_dec h1
    refine a_skip ?_
    show A _ _ _ _ _ _ _
    refine a_seq ?_
    refine a_block ?_
    refine a_rseq ?_
    refine rg_put (d := 11) (v := .el ((eCg (ix l k)))) rfl (og rfl (s_index rfl Tryd.underlying59 ti24 rfl rfl (by omega) (row_at (by omega)) rfl)) ?_
    refine rg_put (d := 12) (v := .d (.ag (eCg (ix l k)))) rfl (og rfl (of_eff (s_load_els rfl Tryd.underlying24 rfl ti24 rfl rfl rfl) rfl)) ?_
    refine rg_nam (d := 6) (v := .pt 101 0) (m := 101) (nw := [(101, .bx 24 ([.fl (.string (⟨#[]⟩)), .fl (.string (⟨#[]⟩)), .fl (.string (⟨#[]⟩)), .fl (.int .i64 0), .fl (.int .i64 0), .fl (.slice none 0 0), .fl (.int .i64 0)]))]) rfl (og rfl (of_eff (s_alloc 101 rfl ti24 (by kernel_rfl) rfl) rfl)) rfl ?_
    refine rg_sto (nw := [(101, .bx 24 ((eCg (ix l k))))]) rfl (og rfl (of_eff (s_store rfl rfl ti24 rfl rfl rfl rfl rfl rfl) rfl)) ?_
    refine rg_done rfl ?_
    refine a_region ?_
    have hxf := hf _ (ix_mem (show k < l.length by omega))
    refine rg_put (d := 13) (v := .d (.fl (.int .i64 (tot l k)))) rfl (og rfl (op_move rfl rfl rfl)) ?_
    refine rg_put (d := 14) (v := .pt 101 6) rfl (og rfl (of_eff (s_field_pt rfl Tryd.underlying24 rfl ti3 rfl rfl rfl) rfl)) ?_
    refine rg_put (d := 15) (v := .d (.fl (.int .i64 ((ix l k).cents)))) rfl (og rfl (op_load_pt rfl Tryd.underlying3 rfl rfl rfl rfl rfl)) ?_
    refine rg_put (d := 16) (v := .d (.fl (.int .i64 (((tot l k) + (ix l k).cents))))) rfl (og rfl (op_bin rfl rfl rfl (fun x y w => b_add64 _ _ _ x y w (by omega)) rfl)) ?_
    refine rg_put (d := 4) (v := .d (.fl (.int .i64 (((tot l k) + (ix l k).cents))))) rfl (og rfl (op_assign rfl rfl rfl)) ?_
    refine rg_done rfl ?_
    show A _ _ _ _ _ _ _
    refine a_region ?_
    refine rg_put (d := 17) (v := .d (.fl (.int .i64 (((k : Int) + 1))))) rfl (og rfl (op_bin rfl rfl rfl (fun x y w => b_add64 _ _ _ x y w (by omega)) rfl)) ?_
    refine rg_put (d := 9) (v := .d (.fl (.int .i64 (((k : Int) + 1))))) rfl (og rfl (op_move rfl rfl rfl)) ?_
    refine rg_done rfl ?_
    show ∃ i, _ ∧ _ ∧ Imp _ _ _ _ _
    refine ⟨k + 1, (by omega), by omega, imp_forget rfl ⟨rfl, rfl, rfl, rfl, rfl, (by first | rfl | exact ci (by omega) | exact ci (by simp) | exact cd (by simp) | simp), rfl, trivial⟩ trivial⟩
  · skip
    have h3 := f_dec h1
    refine a_exit ?_
    show A _ _ _ _ _ _ _
    refine a_rseq ?_
    refine rg_put (d := 18) (v := .d (.sl 7 (List.map eCg l))) rfl (og rfl (op_move rfl rfl rfl)) ?_
    refine rg_put (d := 19) (v := .d (.fl (.int .i64 (l.length : Int)))) rfl (og rfl (s_len rfl Tryd.underlying59 rfl rfl)) ?_
    refine rg_put (d := 20) (v := .d (.fl (.string ((fm (l.length : Int)))))) rfl (og rfl (op_callK kkst hG rfl Tryd.func25 nm25 rfl (.cons rfl (.d _) .nil) (fm28 (l.length : Int) (by unfold in64; omega)) rfl)) ?_
    refine rg_put (d := 21) (v := .d (.fl (.int .i64 (tot l k)))) rfl (og rfl (op_move rfl rfl rfl)) ?_
    refine rg_put (d := 22) (v := .d (.fl (.string ((sh (tot l k)))))) rfl (og rfl (op_callK kkst hG rfl Tryd.func26 nm26 rfl (.cons rfl (.d _) .nil) (sh29 (tot l k) (by unfold in64; omega)) rfl)) ?_
    refine rg_put (d := 2) (v := .d (.fl (.string ((fm (l.length : Int)))))) rfl (og rfl (op_assign rfl rfl rfl)) ?_
    refine rg_put (d := 3) (v := .d (.fl (.string ((sh (tot l k)))))) rfl (og rfl (op_assign rfl rfl rfl)) ?_
    refine rg_done rfl ?_
    refine a_ret ?_
    show ∃ ds, ResL _ _ _ ds ∧ RV.of ds = _
    refine ⟨[.fl (.string ((fm (l.length : Int)))), .fl (.string ((sh (tot l k))))], (.cons (.tmp rfl (.d _)) (.cons (.tmp rfl (.d _)) .nil)), ?_⟩
    have hkl : k = l.length := by omega
    subst hkl
    rfl
set_option maxHeartbeats 4000000 in
set_option maxRecDepth 100000 in
theorem day15 (s : Sa) (day : Int) (hs : OkL s.res.chg) : CtrK Tryd.prog KK 13 [.ag (eSa s), .fl (.int .i64 day)] (.tu [.fl (.string (dyS s.res.chg day).1), .fl (.int .i64 (dyS s.res.chg day).2)]) := by
  have hl0 := hs.1
  refine ctrK (n := 52) (rs := #[.tmp 4, .tmp 5]) (L := [(0, .d (.ag (eSa s))), (1, .d (.fl (.int .i64 day)))]) Tryd.func13 rfl rfl rfl rfl rfl (fun w0 U0 hG => ?_)
  refine a_rseq ?_
  refine rg_nam (d := 2) (v := .pt 101 0) (m := 101) (nw := [(101, .bx 70 (eSa s))]) rfl (og rfl (of_eff (op_box 101 rfl rfl rfl rfl) rfl)) rfl ?_
  refine rg_put (d := 4) (v := .d (.fl (.string (⟨#[]⟩)))) rfl (og rfl (op_assign rfl rfl rfl)) ?_
  refine rg_put (d := 5) (v := .d (.fl (.int .i64 0))) rfl (og rfl (op_assign rfl rfl rfl)) ?_
  refine rg_done rfl ?_
  refine a_seq ?_
  refine a_rseq ?_
  refine rg_put (d := 12) (v := .d (.fl (.int .i64 day))) rfl (og rfl (op_move rfl rfl rfl)) ?_
  refine rg_put (d := 13) (v := .d (.fl (.int .i64 (wkd day)))) rfl (og rfl (op_call rfl Tryd.func32 nm32 rfl (.cons rfl (.d _) .nil) (wk35 day) rfl)) ?_
  refine rg_put (d := 14) (v := .d (.fl (.bool ((decide ((wkd day) < 0)))))) rfl (og rfl (op_bin rfl rfl rfl (b_lss _ _ _ _) rfl)) ?_
  refine rg_done rfl ?_
  refine a_cond rfl (fun h1 => ?_) (fun h1 => ?_)
  · skip
    have h2 := t_dec h1
    refine a_rseq ?_
    refine rg_put (d := 4) (v := .d (.fl (.string (⟨#[]⟩)))) rfl (og rfl (op_assign rfl rfl rfl)) ?_
    refine rg_put (d := 5) (v := .d (.fl (.int .i64 12))) rfl (og rfl (op_assign rfl rfl rfl)) ?_
    refine rg_done rfl ?_
    refine a_ret ?_
    show ∃ ds, ResL _ _ _ ds ∧ RV.of ds = _
    refine ⟨[.fl (.string (⟨#[]⟩)), .fl (.int .i64 12)], (.cons (.tmp rfl (.d _)) (.cons (.tmp rfl (.d _)) .nil)), ?_⟩
    rw [dyS_no (wkD_n h1)]; rfl
  · skip
    have h3 := f_dec h1
    refine a_skip ?_
    show A _ _ _ _ _ _ _
    refine a_rseq ?_
    refine rg_nam (d := 6) (v := .pt 102 0) (m := 102) (nw := [(102, .bx 88 [.fl (.pointer none), .fl (.slice none 0 0)])]) rfl (og rfl (of_eff (s_alloc 102 rfl ti88 (by kernel_rfl) rfl) rfl)) rfl ?_
    refine rg_imp (imp_bt 102 rfl) ?_
    refine rg_imp (imp_btnil 102 1 5 1 rfl rfl) ?_
    refine rg_name 6 102 rfl (fun v hv => ?_)
    refine rg_done rfl ?_
    refine a_rseq ?_
    refine rg_put (d := 15) (v := .d (.fl (.int .i64 day))) rfl (og rfl (op_move rfl rfl rfl)) ?_
    refine rg_put (d := 16) (v := .d (.fl (.string (dtS day)))) rfl (og rfl (op_callK kkst hG rfl Tryd.func33 nm33 rfl (.cons rfl (.d _) .nil) (date36 day) rfl)) ?_
    refine rg_put (d := 17) (v := .d (.sl 1 (List.map rS ([⟨#[100, 97, 121]⟩, (dtS day)])))) rfl (og rfl (of_eff (op_slices rfl Tryd.underlying98 ti9 rfl rfl rfl (by kernel_rfl) (xs := [.fl (.string (⟨#[100, 97, 121]⟩)), .fl (.string (dtS day))]) rfl rfl (.cons rfl rfl (.d _) rfl rfl rfl (.cons rfl rfl (.d _) rfl rfl rfl .nil)) rfl) rfl)) ?_
    refine rg_put (d := 18) (v := .d (.fl (.string ((ln ([⟨#[100, 97, 121]⟩, (dtS day)])))))) rfl (og rfl (op_call rfl Tryd.func23 nm23 rfl (.cons rfl (.d _) .nil) (ln26 ([⟨#[100, 97, 121]⟩, (dtS day)]) (Nat.le_trans (dyF_jn day) (by decide))) rfl)) ?_
    refine rg_upd (d := 19) (v := .tu [.fl (.int .i64 ((((ln ([⟨#[100, 97, 121]⟩, (dtS day)]))).size : Int))), .fl .nilIface]) (nw := [(102, .bt 88 [.dv (.fl v), .ow 5 1 (List.map (rI .u8) ((bys ((⟨#[]⟩ : ByteArray) ++ ((ln ([⟨#[100, 97, 121]⟩, (dtS day)])))))))])]) rfl (og rfl (of_eff (op_callX [102] (obs := [.bt 88 [.dv (.fl (.pointer none)), .ow 5 1 (List.map (rI .u8) ((bys (⟨#[]⟩ : ByteArray))))]]) (obs' := [.bt 88 [.dv (.fl v), .ow 5 1 (List.map (rI .u8) ((bys ((⟨#[]⟩ : ByteArray) ++ ((ln ([⟨#[100, 97, 121]⟩, (dtS day)])))))))]]) (r := .tu [.fl (.int .i64 ((((ln ([⟨#[100, 97, 121]⟩, (dtS day)]))).size : Int))), .fl .nilIface]) rfl Tryd.func22 nm22 rfl (.q 0 rfl rfl (.d rfl (.d _) .nil)) rfl (And.intro rfl trivial) rfl rfl rfl (ws_fresh (⟨#[]⟩ : ByteArray) ((ln ([⟨#[100, 97, 121]⟩, (dtS day)]))) v (by have h1 := dyF_jn day; have h2 := ln_size [⟨#[100, 97, 121]⟩, dtS day]; have h3 : (⟨#[]⟩ : ByteArray).size = 0 := rfl; omega)) rfl) rfl)) ?_
    refine rg_done rfl ?_
    refine a_rseq ?_
    refine rg_put (d := 7) (v := .d (.fl (.slice none 0 0))) rfl (og rfl (op_assign rfl rfl rfl)) ?_
    refine rg_done rfl ?_
    refine a_seq ?_
    refine a_rseq ?_
    refine rg_put (d := 20) (v := .pt 101 29) rfl (og rfl (of_eff (s_field_pt rfl Tryd.underlying70 rfl ti62 rfl rfl rfl) rfl)) ?_
    refine rg_put (d := 21) (v := .pt 101 33) rfl (og rfl (of_eff (s_field_pt rfl Tryd.underlying62 rfl ti59 rfl rfl rfl) rfl)) ?_
    refine rg_put (d := 22) (v := .d (.sl 7 (List.map eCg s.res.chg))) rfl (og rfl (op_load_pt rfl Tryd.underlying59 rfl rfl rfl rfl rfl)) ?_
    refine rg_put (d := 23) (v := .d (.fl (.int .i64 (s.res.chg.length : Int)))) rfl (og rfl (s_len rfl Tryd.underlying59 rfl rfl)) ?_
    refine rg_put (d := 24) (v := .d (.fl (.int .i64 0))) rfl (og rfl (op_move rfl rfl rfl)) ?_
    refine rg_done rfl ?_
    refine a_block ?_
    refine a_loop (ι := Nat) (fun k => SS [(0, .d (.ag (eSa s))), (1, .d (.fl (.int .i64 day))), (2, .pt 101 0), (4, .d (.fl (.string (⟨#[]⟩)))), (5, .d (.fl (.int .i64 0))), (6, .pv 102 v), (14, .d (.fl (.bool ((decide ((wkd day) < 0)))))), (22, .d (.sl 7 (List.map eCg s.res.chg))), (23, .d (.fl (.int .i64 (s.res.chg.length : Int)))), (24, .d (.fl (.int .i64 (k : Int)))), (7, .ow 201)] [(101, .bx 70 (eSa s)), (201, .tr 24 7 (tD eCg (fl s.res.chg day k))), (102, .bt 88 [.dv (.fl v), .ow 5 1 (List.map (rI .u8) ((bys (dP s.res.chg day k))))])]) (fun k => k ≤ s.res.chg.length) (fun k => s.res.chg.length - k) 0 (by omega) (Imp.trans (imp_nilT 7 201 24 7 rfl rfl) (imp_forget rfl ⟨rfl, rfl, rfl, rfl, rfl, rfl, rfl, rfl, rfl, (by first | rfl | exact ci (by omega) | exact ci (by simp) | exact cd (by simp) | simp), (by first | rfl | exact ci (by omega) | exact ci (by simp) | exact cd (by simp) | simp), trivial⟩ ⟨rfl, rfl, (congrArg (fun z => Ob.bt 88 [.dv (.fl v), .ow 5 1 (List.map (rI .u8) (bys z))]) (dP_zero s.res.chg day)), trivial⟩)) (fun k hok => ?_)
    have hk := hok
    have hps := dP_size (day := day) hs k hk
    have hfk := okL_fl hs day hk
    have htb := tot_bd hfk.2 _ (Nat.le_refl _)
    refine a_rseq ?_
    refine rg_put (d := 25) (v := .d (.fl (.bool ((decide ((k : Int) < (s.res.chg.length : Int))))))) rfl (og rfl (op_bin rfl rfl rfl (b_lss _ _ _ _) rfl)) ?_
    refine rg_done rfl ?_
    refine a_seq ?_
    refine a_cond rfl (fun h4 => ?_) (fun h4 => ?_)
    · skip
      have h5 := t_dec h4
      refine a_skip ?_
      show A _ _ _ _ _ _ _
      refine a_seq ?_
      refine a_block ?_
      refine a_rseq ?_
      refine rg_put (d := 26) (v := .el ((eCg (ix s.res.chg k)))) rfl (og rfl (s_index rfl Tryd.underlying59 ti24 rfl rfl (by omega) (row_at (by omega)) rfl)) ?_
      refine rg_put (d := 27) (v := .d (.ag (eCg (ix s.res.chg k)))) rfl (og rfl (of_eff (s_load_els rfl Tryd.underlying24 rfl ti24 rfl rfl rfl) rfl)) ?_
      refine rg_nam (d := 9) (v := .pt 103 0) (m := 103) (nw := [(103, .bx 24 ([.fl (.string (⟨#[]⟩)), .fl (.string (⟨#[]⟩)), .fl (.string (⟨#[]⟩)), .fl (.int .i64 0), .fl (.int .i64 0), .fl (.slice none 0 0), .fl (.int .i64 0)]))]) rfl (og rfl (of_eff (s_alloc 103 rfl ti24 (by kernel_rfl) rfl) rfl)) rfl ?_
      refine rg_sto (nw := [(103, .bx 24 ((eCg (ix s.res.chg k))))]) rfl (og rfl (of_eff (s_store rfl rfl ti24 rfl rfl rfl rfl rfl rfl) rfl)) ?_
      refine rg_done rfl ?_
      refine a_rseq ?_
      have hxk := hs.2 k (by omega)
      have hcs := chg_size hxk
      refine rg_put (d := 28) (v := .pt 103 4) rfl (og rfl (of_eff (s_field_pt rfl Tryd.underlying24 rfl ti3 rfl rfl rfl) rfl)) ?_
      refine rg_put (d := 29) (v := .d (.fl (.int .i64 ((ix s.res.chg k).time)))) rfl (og rfl (op_load_pt rfl Tryd.underlying3 rfl rfl rfl rfl rfl)) ?_
      refine rg_put (d := 30) (v := .d (.fl (.int .i64 ((dayN ((ix s.res.chg k).time)))))) rfl (og rfl (op_call rfl Tryd.func34 nm34 rfl (.cons rfl (.d _) .nil) (day37 ((ix s.res.chg k).time)) rfl)) ?_
      refine rg_put (d := 31) (v := .d (.fl (.int .i64 day))) rfl (og rfl (op_move rfl rfl rfl)) ?_
      refine rg_put (d := 32) (v := .d (.fl (.bool (((dayN ((ix s.res.chg k).time)) == day))))) rfl (og rfl (op_bin rfl rfl rfl (b_eql _ _ _ _) rfl)) ?_
      refine rg_done rfl ?_
      refine a_cond rfl (fun h6 => ?_) (fun h6 => ?_)
      · skip
        have h7 := t_beq h6
        refine a_rseq ?_
        refine rg_put (d := 33) (v := .ow 201) rfl (og rfl (op_move rfl rfl rfl)) ?_
        refine rg_put (d := 34) (v := .d (.ag (eCg (ix s.res.chg k)))) rfl (og rfl (of_eff (s_load_pts rfl Tryd.underlying24 rfl ti24 rfl rfl rfl rfl) rfl)) ?_
        refine rg_put (d := 35) (v := .d (.sl 7 (List.map eCg [(ix s.res.chg k)]))) rfl (og rfl (of_eff (op_slices rfl Tryd.underlying59 ti24 rfl rfl rfl (by kernel_rfl) (xs := [.ag (eCg (ix s.res.chg k))]) rfl rfl (.cons rfl rfl (.d _) rfl rfl rfl .nil) rfl) rfl)) ?_
        refine rg_nam (d := 36) (v := .ow 104) (m := 104) (nw := [(104, .tr 24 7 (tD eCg (((fl s.res.chg day k) ++ [(ix s.res.chg k)])))), (201, .no)]) rfl (og rfl (of_eff (s_append_td 104 rfl Tryd.underlying59 ti24 rfl rfl rfl rfl rfl (.d _) (by simp only [List.length_append, List.length_cons, List.length_nil]; omega) rfl) rfl)) rfl ?_
        refine rg_put (d := 7) (v := .ow 104) rfl (og rfl (op_assign rfl rfl rfl)) ?_
        refine rg_done rfl ?_
        refine a_region ?_
        refine rg_put (d := 37) (v := .d (.ag (eCg (ix s.res.chg k)))) rfl (og rfl (of_eff (s_load_pts rfl Tryd.underlying24 rfl ti24 rfl rfl rfl rfl) rfl)) ?_
        refine rg_put (d := 38) (v := .d (.fl (.string ((chg (ix s.res.chg k)))))) rfl (og rfl (op_callK kkst hG rfl Tryd.func9 nm9 rfl (.cons rfl (.d _) .nil) (chg11 (ix s.res.chg k) hxk) rfl)) ?_
        refine rg_upd (d := 39) (v := .tu [.fl (.int .i64 ((((chg (ix s.res.chg k))).size : Int))), .fl .nilIface]) (nw := [(102, .bt 88 [.dv (.fl v), .ow 5 1 (List.map (rI .u8) ((bys ((dP s.res.chg day k) ++ ((chg (ix s.res.chg k)))))))])]) rfl (og rfl (of_eff (op_callX [102] (obs := [.bt 88 [.dv (.fl v), .ow 5 1 (List.map (rI .u8) ((bys (dP s.res.chg day k))))]]) (obs' := [.bt 88 [.dv (.fl v), .ow 5 1 (List.map (rI .u8) ((bys ((dP s.res.chg day k) ++ ((chg (ix s.res.chg k)))))))]]) (r := .tu [.fl (.int .i64 ((((chg (ix s.res.chg k))).size : Int))), .fl .nilIface]) rfl Tryd.func22 nm22 rfl (.q 0 rfl rfl (.d rfl (.d _) .nil)) rfl (And.intro rfl trivial) rfl rfl rfl (ws_used (dP s.res.chg day k) ((chg (ix s.res.chg k))) v (by omega)) rfl) rfl)) ?_
        refine rg_done rfl ?_
        show A _ _ _ _ _ _ _
        refine a_region ?_
        refine rg_put (d := 40) (v := .d (.fl (.int .i64 (((k : Int) + 1))))) rfl (og rfl (op_bin rfl rfl rfl (fun x y w => b_add64 _ _ _ x y w (by omega)) rfl)) ?_
        refine rg_put (d := 24) (v := .d (.fl (.int .i64 (((k : Int) + 1))))) rfl (og rfl (op_move rfl rfl rfl)) ?_
        refine rg_done rfl ?_
        show ∃ i, _ ∧ _ ∧ Imp _ _ _ _ _
        refine ⟨k + 1, (by omega), by omega, imp_ren (fun m => bif Nat.beq m 201 then 104 else m) rfl ⟨rfl, rfl, rfl, rfl, rfl, rfl, rfl, rfl, rfl, (by first | rfl | exact ci (by omega) | exact ci (by simp) | exact cd (by simp) | simp), rfl, trivial⟩ ⟨rfl, (congrArg (fun z => Ob.tr 24 7 (tD eCg z)) (fl_yes h6)), (congrArg (fun z => Ob.bt 88 [.dv (.fl v), .ow 5 1 (List.map (rI .u8) (bys z))]) (dP_yes h6)), trivial⟩⟩
      · skip
        have h8 := f_beq h6
        refine a_skip ?_
        show A _ _ _ _ _ _ _
        refine a_region ?_
        refine rg_put (d := 40) (v := .d (.fl (.int .i64 (((k : Int) + 1))))) rfl (og rfl (op_bin rfl rfl rfl (fun x y w => b_add64 _ _ _ x y w (by omega)) rfl)) ?_
        refine rg_put (d := 24) (v := .d (.fl (.int .i64 (((k : Int) + 1))))) rfl (og rfl (op_move rfl rfl rfl)) ?_
        refine rg_done rfl ?_
        show ∃ i, _ ∧ _ ∧ Imp _ _ _ _ _
        refine ⟨k + 1, (by omega), by omega, imp_forget rfl ⟨rfl, rfl, rfl, rfl, rfl, rfl, rfl, rfl, rfl, (by first | rfl | exact ci (by omega) | exact ci (by simp) | exact cd (by simp) | simp), rfl, trivial⟩ ⟨rfl, (congrArg (fun z => Ob.tr 24 7 (tD eCg z)) (fl_no h6)), (congrArg (fun z => Ob.bt 88 [.dv (.fl v), .ow 5 1 (List.map (rI .u8) (bys z))]) (dP_no h6)), trivial⟩⟩
    · skip
      have h9 := f_dec h4
      refine a_exit ?_
      show A _ _ _ _ _ _ _
      refine a_rseq ?_
      have hkl : k = s.res.chg.length := by omega
      rw [show (fl s.res.chg day k) = (fl s.res.chg day s.res.chg.length) from by rw [hkl]]
      rw [show (dP s.res.chg day k) = (dP s.res.chg day s.res.chg.length) from by rw [hkl]]
      rw [hkl] at hps hfk htb
      refine rg_put (d := 42) (v := .ow 201) rfl (og rfl (op_move rfl rfl rfl)) ?_
      refine rg_imp (imp_leakT 42 201 rfl rfl) ?_
      refine rg_put (d := 43) (v := .tu [.fl (.string ((fm ((fl s.res.chg day s.res.chg.length).length : Int)))), .fl (.string ((sh (tot (fl s.res.chg day s.res.chg.length) (fl s.res.chg day s.res.chg.length).length))))]) rfl (og rfl (op_callK kkst hG rfl Tryd.func35 nm35 rfl (.cons rfl (.d _) .nil) (tot38 (fl s.res.chg day s.res.chg.length) hfk.1 hfk.2) rfl)) ?_
      refine rg_put (d := 41) (v := .tu [.fl (.string ((fm ((fl s.res.chg day s.res.chg.length).length : Int)))), .fl (.string ((sh (tot (fl s.res.chg day s.res.chg.length) (fl s.res.chg day s.res.chg.length).length))))]) rfl (og rfl (op_move rfl rfl rfl)) ?_
      refine rg_put (d := 44) (v := .d (.fl (.string ((fm ((fl s.res.chg day s.res.chg.length).length : Int)))))) rfl (og rfl (op_extract rfl rfl rfl rfl)) ?_
      refine rg_put (d := 45) (v := .d (.fl (.string ((sh (tot (fl s.res.chg day s.res.chg.length) (fl s.res.chg day s.res.chg.length).length)))))) rfl (og rfl (op_extract rfl rfl rfl rfl)) ?_
      refine rg_put (d := 10) (v := .d (.fl (.string ((fm ((fl s.res.chg day s.res.chg.length).length : Int)))))) rfl (og rfl (op_assign rfl rfl rfl)) ?_
      refine rg_put (d := 11) (v := .d (.fl (.string ((sh (tot (fl s.res.chg day s.res.chg.length) (fl s.res.chg day s.res.chg.length).length)))))) rfl (og rfl (op_assign rfl rfl rfl)) ?_
      refine rg_done rfl ?_
      refine a_rseq ?_
      refine rg_put (d := 46) (v := .d (.fl (.string ((fm ((fl s.res.chg day s.res.chg.length).length : Int)))))) rfl (og rfl (op_move rfl rfl rfl)) ?_
      refine rg_put (d := 47) (v := .d (.fl (.string ((sh (tot (fl s.res.chg day s.res.chg.length) (fl s.res.chg day s.res.chg.length).length)))))) rfl (og rfl (op_move rfl rfl rfl)) ?_
      refine rg_put (d := 48) (v := .d (.sl 1 (List.map rS ([⟨#[115, 117, 109]⟩, (fm ((fl s.res.chg day s.res.chg.length).length : Int)), (sh (tot (fl s.res.chg day s.res.chg.length) (fl s.res.chg day s.res.chg.length).length))])))) rfl (og rfl (of_eff (op_slices rfl Tryd.underlying98 ti9 rfl rfl rfl (by kernel_rfl) (xs := [.fl (.string (⟨#[115, 117, 109]⟩)), .fl (.string ((fm ((fl s.res.chg day s.res.chg.length).length : Int)))), .fl (.string ((sh (tot (fl s.res.chg day s.res.chg.length) (fl s.res.chg day s.res.chg.length).length))))]) rfl rfl (.cons rfl rfl (.d _) rfl rfl rfl (.cons rfl rfl (.d _) rfl rfl rfl (.cons rfl rfl (.d _) rfl rfl rfl .nil))) rfl) rfl)) ?_
      refine rg_put (d := 49) (v := .d (.fl (.string ((ln ([⟨#[115, 117, 109]⟩, (fm ((fl s.res.chg day s.res.chg.length).length : Int)), (sh (tot (fl s.res.chg day s.res.chg.length) (fl s.res.chg day s.res.chg.length).length))])))))) rfl (og rfl (op_call rfl Tryd.func23 nm23 rfl (.cons rfl (.d _) .nil) (ln26 ([⟨#[115, 117, 109]⟩, (fm ((fl s.res.chg day s.res.chg.length).length : Int)), (sh (tot (fl s.res.chg day s.res.chg.length) (fl s.res.chg day s.res.chg.length).length))]) (Nat.le_trans (sF_jn (by unfold in64; omega) (by unfold in64; omega)) (by decide))) rfl)) ?_
      refine rg_upd (d := 50) (v := .tu [.fl (.int .i64 ((((ln ([⟨#[115, 117, 109]⟩, (fm ((fl s.res.chg day s.res.chg.length).length : Int)), (sh (tot (fl s.res.chg day s.res.chg.length) (fl s.res.chg day s.res.chg.length).length))]))).size : Int))), .fl .nilIface]) (nw := [(102, .bt 88 [.dv (.fl v), .ow 5 1 (List.map (rI .u8) ((bys ((dP s.res.chg day s.res.chg.length) ++ ((ln ([⟨#[115, 117, 109]⟩, (fm ((fl s.res.chg day s.res.chg.length).length : Int)), (sh (tot (fl s.res.chg day s.res.chg.length) (fl s.res.chg day s.res.chg.length).length))])))))))])]) rfl (og rfl (of_eff (op_callX [102] (obs := [.bt 88 [.dv (.fl v), .ow 5 1 (List.map (rI .u8) ((bys (dP s.res.chg day s.res.chg.length))))]]) (obs' := [.bt 88 [.dv (.fl v), .ow 5 1 (List.map (rI .u8) ((bys ((dP s.res.chg day s.res.chg.length) ++ ((ln ([⟨#[115, 117, 109]⟩, (fm ((fl s.res.chg day s.res.chg.length).length : Int)), (sh (tot (fl s.res.chg day s.res.chg.length) (fl s.res.chg day s.res.chg.length).length))])))))))]]) (r := .tu [.fl (.int .i64 ((((ln ([⟨#[115, 117, 109]⟩, (fm ((fl s.res.chg day s.res.chg.length).length : Int)), (sh (tot (fl s.res.chg day s.res.chg.length) (fl s.res.chg day s.res.chg.length).length))]))).size : Int))), .fl .nilIface]) rfl Tryd.func22 nm22 rfl (.q 0 rfl rfl (.d rfl (.d _) .nil)) rfl (And.intro rfl trivial) rfl rfl rfl (ws_used (dP s.res.chg day s.res.chg.length) ((ln ([⟨#[115, 117, 109]⟩, (fm ((fl s.res.chg day s.res.chg.length).length : Int)), (sh (tot (fl s.res.chg day s.res.chg.length) (fl s.res.chg day s.res.chg.length).length))]))) v (by have h1 := sF_ln (n := ((fl s.res.chg day s.res.chg.length).length : Int)) (t := tot (fl s.res.chg day s.res.chg.length) (fl s.res.chg day s.res.chg.length).length) (by unfold in64; omega) (by unfold in64; omega); omega)) rfl) rfl)) ?_
      refine rg_done rfl ?_
      refine a_rseq ?_
      refine rg_bstr (s := (((dP s.res.chg day s.res.chg.length) ++ ((ln ([⟨#[115, 117, 109]⟩, (fm ((fl s.res.chg day s.res.chg.length).length : Int)), (sh (tot (fl s.res.chg day s.res.chg.length) (fl s.res.chg day s.res.chg.length).length))])))))) (u := v) bstr30 rfl rfl rfl rfl rfl Tryd.func27 nm27 rfl rfl rfl (.inl rfl) ?_
      refine rg_put (d := 4) (v := .d (.fl (.string (((dP s.res.chg day s.res.chg.length) ++ ((ln ([⟨#[115, 117, 109]⟩, (fm ((fl s.res.chg day s.res.chg.length).length : Int)), (sh (tot (fl s.res.chg day s.res.chg.length) (fl s.res.chg day s.res.chg.length).length))])))))))) rfl (og rfl (op_assign rfl rfl rfl)) ?_
      refine rg_put (d := 5) (v := .d (.fl (.int .i64 0))) rfl (og rfl (op_assign rfl rfl rfl)) ?_
      refine rg_done rfl ?_
      refine a_ret ?_
      show ∃ ds, ResL _ _ _ ds ∧ RV.of ds = _
      refine ⟨[.fl (.string (((dP s.res.chg day s.res.chg.length) ++ ((ln ([⟨#[115, 117, 109]⟩, (fm ((fl s.res.chg day s.res.chg.length).length : Int)), (sh (tot (fl s.res.chg day s.res.chg.length) (fl s.res.chg day s.res.chg.length).length))])))))), .fl (.int .i64 0)], (.cons (.tmp rfl (.d _)) (.cons (.tmp rfl (.d _)) .nil)), ?_⟩
      rw [dyS_yes (wkD_y h1)]; rfl
theorem n_yes {l : List Cg} {day : Int} {k : Nat} (h : (dayN (ix l k).time == day) = true) : ((fl l day k).length : Int) + 1 = ((fl l day (k + 1)).length : Int) := by rw [← fl_yes h, List.length_append]; rfl
theorem n_no {l : List Cg} {day : Int} {k : Nat} (h : (dayN (ix l k).time == day) = false) : ((fl l day k).length : Int) = ((fl l day (k + 1)).length : Int) := by rw [← fl_no h]
theorem t_yes {l : List Cg} {day : Int} {k : Nat} (h : (dayN (ix l k).time == day) = true) : tot (fl l day k) (fl l day k).length + (ix l k).cents = tot (fl l day (k + 1)) (fl l day (k + 1)).length := by rw [← fl_yes h, tot_snoc]
theorem t_no {l : List Cg} {day : Int} {k : Nat} (h : (dayN (ix l k).time == day) = false) : tot (fl l day k) (fl l day k).length = tot (fl l day (k + 1)) (fl l day (k + 1)).length := by rw [← fl_no h]

set_option maxHeartbeats 4000000 in
set_option maxRecDepth 100000 in
theorem day16 (s : Sa) (day : Int) (hs : OkL s.res.chg) : Ctr Tryd.prog 14 [.ag (eSa s), .fl (.int .i64 day)] (.tu [.fl (.string (dyS s.res.chg day).1), .fl (.int .i64 (dyS s.res.chg day).2)]) := by
  have hl0 := hs.1
  refine ctr (n := 55) (rs := #[.tmp 4, .tmp 5]) (L := [(0, .d (.ag (eSa s))), (1, .d (.fl (.int .i64 day)))]) Tryd.func14 rfl rfl rfl rfl rfl (fun w0 U0 => ?_)
  refine a_rseq ?_
  refine rg_nam (d := 2) (v := .pt 101 0) (m := 101) (nw := [(101, .bx 70 (eSa s))]) rfl (og rfl (of_eff (op_box 101 rfl rfl rfl rfl) rfl)) rfl ?_
  refine rg_put (d := 4) (v := .d (.fl (.string (⟨#[]⟩)))) rfl (og rfl (op_assign rfl rfl rfl)) ?_
  refine rg_put (d := 5) (v := .d (.fl (.int .i64 0))) rfl (og rfl (op_assign rfl rfl rfl)) ?_
  refine rg_done rfl ?_
  refine a_seq ?_
  refine a_rseq ?_
  refine rg_put (d := 11) (v := .d (.fl (.int .i64 day))) rfl (og rfl (op_move rfl rfl rfl)) ?_
  refine rg_put (d := 12) (v := .d (.fl (.bool (isD day)))) rfl (og rfl (op_call rfl Tryd.func36 nm36 rfl (.cons rfl (.d _) .nil) (isD39 day) rfl)) ?_
  refine rg_put (d := 13) (v := .d (.fl (.bool ((!(isD day)))))) rfl (og rfl (op_un rfl rfl (u_not _) rfl)) ?_
  refine rg_done rfl ?_
  refine a_cond rfl (fun h1 => ?_) (fun h1 => ?_)
  · skip
    have h2 := t_not h1
    refine a_rseq ?_
    refine rg_put (d := 4) (v := .d (.fl (.string (⟨#[]⟩)))) rfl (og rfl (op_assign rfl rfl rfl)) ?_
    refine rg_put (d := 5) (v := .d (.fl (.int .i64 12))) rfl (og rfl (op_assign rfl rfl rfl)) ?_
    refine rg_done rfl ?_
    refine a_ret ?_
    show ∃ ds, ResL _ _ _ ds ∧ RV.of ds = _
    refine ⟨[.fl (.string (⟨#[]⟩)), .fl (.int .i64 12)], (.cons (.tmp rfl (.d _)) (.cons (.tmp rfl (.d _)) .nil)), ?_⟩
    rw [dyS_no h2]; rfl
  · skip
    have h3 := f_not h1
    refine a_skip ?_
    show A _ _ _ _ _ _ _
    refine a_rseq ?_
    refine rg_put (d := 14) (v := .d (.fl (.int .i64 day))) rfl (og rfl (op_move rfl rfl rfl)) ?_
    refine rg_put (d := 15) (v := .d (.fl (.string (dtS day)))) rfl (og rfl (op_call rfl Tryd.func37 nm37 rfl (.cons rfl (.d _) .nil) (date40 day) rfl)) ?_
    refine rg_put (d := 16) (v := .d (.sl 1 (List.map rS ([⟨#[100, 97, 121]⟩, (dtS day)])))) rfl (og rfl (of_eff (op_slices rfl Tryd.underlying98 ti9 rfl rfl rfl (by kernel_rfl) (xs := [.fl (.string (⟨#[100, 97, 121]⟩)), .fl (.string (dtS day))]) rfl rfl (.cons rfl rfl (.d _) rfl rfl rfl (.cons rfl rfl (.d _) rfl rfl rfl .nil)) rfl) rfl)) ?_
    refine rg_put (d := 17) (v := .d (.fl (.string ((ln ([⟨#[100, 97, 121]⟩, (dtS day)])))))) rfl (og rfl (op_call rfl Tryd.func28 nm28 rfl (.cons rfl (.d _) .nil) (ln31 ([⟨#[100, 97, 121]⟩, (dtS day)]) (Nat.le_trans (dyF_jn day) (by decide))) rfl)) ?_
    refine rg_put (d := 6) (v := .d (.fl (.string ((ln ([⟨#[100, 97, 121]⟩, (dtS day)])))))) rfl (og rfl (op_assign rfl rfl rfl)) ?_
    refine rg_done rfl ?_
    refine a_rseq ?_
    refine rg_put (d := 7) (v := .d (.fl (.int .i64 0))) rfl (og rfl (op_assign rfl rfl rfl)) ?_
    refine rg_put (d := 8) (v := .d (.fl (.int .i64 0))) rfl (og rfl (op_assign rfl rfl rfl)) ?_
    refine rg_done rfl ?_
    refine a_seq ?_
    refine a_rseq ?_
    refine rg_put (d := 9) (v := .d (.fl (.int .i64 0))) rfl (og rfl (op_assign rfl rfl rfl)) ?_
    refine rg_done rfl ?_
    refine a_block ?_
    refine a_loop (ι := Nat) (fun k => SS [(0, .d (.ag (eSa s))), (1, .d (.fl (.int .i64 day))), (2, .pt 101 0), (4, .d (.fl (.string (⟨#[]⟩)))), (5, .d (.fl (.int .i64 0))), (13, .d (.fl (.bool ((!(isD day)))))), (9, .d (.fl (.int .i64 (k : Int)))), (6, .d (.fl (.string (dP s.res.chg day k)))), (7, .d (.fl (.int .i64 (((fl s.res.chg day k).length : Int))))), (8, .d (.fl (.int .i64 ((tot (fl s.res.chg day k) (fl s.res.chg day k).length)))))] [(101, .bx 70 (eSa s))]) (fun k => k ≤ s.res.chg.length) (fun k => s.res.chg.length - k) 0 (by omega) (imp_forget rfl ⟨rfl, rfl, rfl, rfl, rfl, rfl, (by first | rfl | exact ci (by omega) | exact ci (by simp) | exact cd (by simp) | simp), (congrArg (fun z => AV.d (.fl (.string z))) (dP_zr s.res.chg day)), rfl, rfl, trivial⟩ ⟨rfl, trivial⟩) (fun k hok => ?_)
    have hk := hok
    have hps := dP_size (day := day) hs k hk
    have hfk := okL_fl hs day hk
    have htb := tot_bd hfk.2 _ (Nat.le_refl _)
    refine a_seq ?_
    refine a_rseq ?_
    refine rg_put (d := 18) (v := .d (.fl (.int .i64 (k : Int)))) rfl (og rfl (op_move rfl rfl rfl)) ?_
    refine rg_put (d := 19) (v := .pt 101 29) rfl (og rfl (of_eff (s_field_pt rfl Tryd.underlying70 rfl ti62 rfl rfl rfl) rfl)) ?_
    refine rg_put (d := 20) (v := .pt 101 33) rfl (og rfl (of_eff (s_field_pt rfl Tryd.underlying62 rfl ti59 rfl rfl rfl) rfl)) ?_
    refine rg_put (d := 21) (v := .d (.sl 7 (List.map eCg s.res.chg))) rfl (og rfl (op_load_pt rfl Tryd.underlying59 rfl rfl rfl rfl rfl)) ?_
    refine rg_put (d := 22) (v := .d (.fl (.int .i64 (s.res.chg.length : Int)))) rfl (og rfl (s_len rfl Tryd.underlying59 rfl rfl)) ?_
    refine rg_put (d := 23) (v := .d (.fl (.bool ((decide ((k : Int) < (s.res.chg.length : Int))))))) rfl (og rfl (op_bin rfl rfl rfl (b_lss _ _ _ _) rfl)) ?_
    refine rg_done rfl ?_
    refine a_cond rfl (fun h4 => ?_) (fun h4 => ?_)
    · skip
      have h5 := t_dec h4
      refine a_skip ?_
      show A _ _ _ _ _ _ _
      refine a_seq ?_
      refine a_block ?_
      refine a_rseq ?_
      refine rg_put (d := 26) (v := .pt 101 29) rfl (og rfl (of_eff (s_field_pt rfl Tryd.underlying70 rfl ti62 rfl rfl rfl) rfl)) ?_
      refine rg_put (d := 27) (v := .pt 101 33) rfl (og rfl (of_eff (s_field_pt rfl Tryd.underlying62 rfl ti59 rfl rfl rfl) rfl)) ?_
      refine rg_put (d := 28) (v := .d (.sl 7 (List.map eCg s.res.chg))) rfl (og rfl (op_load_pt rfl Tryd.underlying59 rfl rfl rfl rfl rfl)) ?_
      refine rg_put (d := 29) (v := .d (.fl (.int .i64 (k : Int)))) rfl (og rfl (op_move rfl rfl rfl)) ?_
      refine rg_put (d := 30) (v := .el ((eCg (ix s.res.chg k)))) rfl (og rfl (s_index rfl Tryd.underlying59 ti24 rfl rfl (by omega) (row_at (by omega)) rfl)) ?_
      refine rg_put (d := 31) (v := .d (.ag (eCg (ix s.res.chg k)))) rfl (og rfl (of_eff (s_load_els rfl Tryd.underlying24 rfl ti24 rfl rfl rfl) rfl)) ?_
      refine rg_nam (d := 10) (v := .pt 102 0) (m := 102) (nw := [(102, .bx 24 ([.fl (.string (⟨#[]⟩)), .fl (.string (⟨#[]⟩)), .fl (.string (⟨#[]⟩)), .fl (.int .i64 0), .fl (.int .i64 0), .fl (.slice none 0 0), .fl (.int .i64 0)]))]) rfl (og rfl (of_eff (s_alloc 102 rfl ti24 (by kernel_rfl) rfl) rfl)) rfl ?_
      refine rg_sto (nw := [(102, .bx 24 ((eCg (ix s.res.chg k))))]) rfl (og rfl (of_eff (s_store rfl rfl ti24 rfl rfl rfl rfl rfl rfl) rfl)) ?_
      refine rg_done rfl ?_
      refine a_rseq ?_
      have hxk := hs.2 k (by omega)
      have hcs := chg_size hxk
      have hxf := hxk.fit
      refine rg_put (d := 32) (v := .pt 102 4) rfl (og rfl (of_eff (s_field_pt rfl Tryd.underlying24 rfl ti3 rfl rfl rfl) rfl)) ?_
      refine rg_put (d := 33) (v := .d (.fl (.int .i64 ((ix s.res.chg k).time)))) rfl (og rfl (op_load_pt rfl Tryd.underlying3 rfl rfl rfl rfl rfl)) ?_
      refine rg_put (d := 34) (v := .d (.fl (.int .i64 ((dayN ((ix s.res.chg k).time)))))) rfl (og rfl (op_call rfl Tryd.func38 nm38 rfl (.cons rfl (.d _) .nil) (day41 ((ix s.res.chg k).time)) rfl)) ?_
      refine rg_put (d := 35) (v := .d (.fl (.int .i64 day))) rfl (og rfl (op_move rfl rfl rfl)) ?_
      refine rg_put (d := 36) (v := .d (.fl (.bool (((dayN ((ix s.res.chg k).time)) == day))))) rfl (og rfl (op_bin rfl rfl rfl (b_eql _ _ _ _) rfl)) ?_
      refine rg_done rfl ?_
      refine a_cond rfl (fun h6 => ?_) (fun h6 => ?_)
      · skip
        have h7 := t_beq h6
        refine a_rseq ?_
        refine rg_put (d := 37) (v := .d (.fl (.string (dP s.res.chg day k)))) rfl (og rfl (op_move rfl rfl rfl)) ?_
        refine rg_put (d := 38) (v := .d (.ag (eCg (ix s.res.chg k)))) rfl (og rfl (of_eff (s_load_pts rfl Tryd.underlying24 rfl ti24 rfl rfl rfl rfl) rfl)) ?_
        refine rg_put (d := 39) (v := .d (.fl (.string ((chg (ix s.res.chg k)))))) rfl (og rfl (op_call rfl Tryd.func10 nm10 rfl (.cons rfl (.d _) .nil) (chg12 (ix s.res.chg k) hxk) rfl)) ?_
        refine rg_put (d := 40) (v := .d (.fl (.string (((dP s.res.chg day k) ++ ((chg (ix s.res.chg k)))))))) rfl (og rfl (op_bin rfl rfl rfl (fun ox oy ow => b_sadd _ _ _ ox oy ow (by omega)) rfl)) ?_
        refine rg_put (d := 6) (v := .d (.fl (.string (((dP s.res.chg day k) ++ ((chg (ix s.res.chg k)))))))) rfl (og rfl (op_assign rfl rfl rfl)) ?_
        refine rg_done rfl ?_
        refine a_rseq ?_
        refine rg_put (d := 41) (v := .d (.fl (.int .i64 (((fl s.res.chg day k).length : Int))))) rfl (og rfl (op_move rfl rfl rfl)) ?_
        refine rg_put (d := 42) (v := .d (.fl (.int .i64 ((((fl s.res.chg day k).length : Int) + 1))))) rfl (og rfl (op_bin rfl rfl rfl (fun x y w => b_add64 _ _ _ x y w (by omega)) rfl)) ?_
        refine rg_put (d := 7) (v := .d (.fl (.int .i64 ((((fl s.res.chg day k).length : Int) + 1))))) rfl (og rfl (op_assign rfl rfl rfl)) ?_
        refine rg_done rfl ?_
        refine a_region ?_
        refine rg_put (d := 43) (v := .d (.fl (.int .i64 ((tot (fl s.res.chg day k) (fl s.res.chg day k).length))))) rfl (og rfl (op_move rfl rfl rfl)) ?_
        refine rg_put (d := 44) (v := .pt 102 6) rfl (og rfl (of_eff (s_field_pt rfl Tryd.underlying24 rfl ti3 rfl rfl rfl) rfl)) ?_
        refine rg_put (d := 45) (v := .d (.fl (.int .i64 ((ix s.res.chg k).cents)))) rfl (og rfl (op_load_pt rfl Tryd.underlying3 rfl rfl rfl rfl rfl)) ?_
        refine rg_put (d := 46) (v := .d (.fl (.int .i64 (((tot (fl s.res.chg day k) (fl s.res.chg day k).length) + (ix s.res.chg k).cents))))) rfl (og rfl (op_bin rfl rfl rfl (fun x y w => b_add64 _ _ _ x y w (by omega)) rfl)) ?_
        refine rg_put (d := 8) (v := .d (.fl (.int .i64 (((tot (fl s.res.chg day k) (fl s.res.chg day k).length) + (ix s.res.chg k).cents))))) rfl (og rfl (op_assign rfl rfl rfl)) ?_
        refine rg_done rfl ?_
        show A _ _ _ _ _ _ _
        refine a_region ?_
        refine rg_put (d := 24) (v := .d (.fl (.int .i64 (k : Int)))) rfl (og rfl (op_move rfl rfl rfl)) ?_
        refine rg_put (d := 25) (v := .d (.fl (.int .i64 (((k : Int) + 1))))) rfl (og rfl (op_bin rfl rfl rfl (fun x y w => b_add64 _ _ _ x y w (by omega)) rfl)) ?_
        refine rg_put (d := 9) (v := .d (.fl (.int .i64 (((k : Int) + 1))))) rfl (og rfl (op_assign rfl rfl rfl)) ?_
        refine rg_done rfl ?_
        show ∃ i, _ ∧ _ ∧ Imp _ _ _ _ _
        refine ⟨k + 1, (by omega), by omega, imp_forget rfl ⟨rfl, rfl, rfl, rfl, rfl, rfl, (by first | rfl | exact ci (by omega) | exact ci (by simp) | exact cd (by simp) | simp), (congrArg (fun z => AV.d (.fl (.string z))) (dP_yes h6)), (congrArg (fun z => AV.d (.fl (.int .i64 z))) (n_yes h6)), (congrArg (fun z => AV.d (.fl (.int .i64 z))) (t_yes h6)), trivial⟩ ⟨rfl, trivial⟩⟩
      · skip
        have h8 := f_beq h6
        refine a_skip ?_
        show A _ _ _ _ _ _ _
        refine a_region ?_
        refine rg_put (d := 24) (v := .d (.fl (.int .i64 (k : Int)))) rfl (og rfl (op_move rfl rfl rfl)) ?_
        refine rg_put (d := 25) (v := .d (.fl (.int .i64 (((k : Int) + 1))))) rfl (og rfl (op_bin rfl rfl rfl (fun x y w => b_add64 _ _ _ x y w (by omega)) rfl)) ?_
        refine rg_put (d := 9) (v := .d (.fl (.int .i64 (((k : Int) + 1))))) rfl (og rfl (op_assign rfl rfl rfl)) ?_
        refine rg_done rfl ?_
        show ∃ i, _ ∧ _ ∧ Imp _ _ _ _ _
        refine ⟨k + 1, (by omega), by omega, imp_forget rfl ⟨rfl, rfl, rfl, rfl, rfl, rfl, (by first | rfl | exact ci (by omega) | exact ci (by simp) | exact cd (by simp) | simp), (congrArg (fun z => AV.d (.fl (.string z))) (dP_no h6)), (congrArg (fun z => AV.d (.fl (.int .i64 z))) (n_no h6)), (congrArg (fun z => AV.d (.fl (.int .i64 z))) (t_no h6)), trivial⟩ ⟨rfl, trivial⟩⟩
    · skip
      have h9 := f_dec h4
      refine a_exit ?_
      show A _ _ _ _ _ _ _
      refine a_rseq ?_
      have hkl : k = s.res.chg.length := by omega
      rw [show (fl s.res.chg day k) = (fl s.res.chg day s.res.chg.length) from by rw [hkl]]
      rw [show (dP s.res.chg day k) = (dP s.res.chg day s.res.chg.length) from by rw [hkl]]
      rw [hkl] at hps hfk htb
      refine rg_put (d := 47) (v := .d (.fl (.string (dP s.res.chg day s.res.chg.length)))) rfl (og rfl (op_move rfl rfl rfl)) ?_
      refine rg_put (d := 48) (v := .d (.fl (.int .i64 (((fl s.res.chg day s.res.chg.length).length : Int))))) rfl (og rfl (op_move rfl rfl rfl)) ?_
      refine rg_put (d := 49) (v := .d (.fl (.string ((fm (((fl s.res.chg day s.res.chg.length).length : Int))))))) rfl (og rfl (op_call rfl Tryd.func30 nm30 rfl (.cons rfl (.d _) .nil) (fm33 (((fl s.res.chg day s.res.chg.length).length : Int)) (by unfold in64; omega)) rfl)) ?_
      refine rg_put (d := 50) (v := .d (.fl (.int .i64 ((tot (fl s.res.chg day s.res.chg.length) (fl s.res.chg day s.res.chg.length).length))))) rfl (og rfl (op_move rfl rfl rfl)) ?_
      refine rg_put (d := 51) (v := .d (.fl (.string ((sh ((tot (fl s.res.chg day s.res.chg.length) (fl s.res.chg day s.res.chg.length).length))))))) rfl (og rfl (op_call rfl Tryd.func31 nm31 rfl (.cons rfl (.d _) .nil) (sh34 ((tot (fl s.res.chg day s.res.chg.length) (fl s.res.chg day s.res.chg.length).length)) (by unfold in64; omega)) rfl)) ?_
      refine rg_put (d := 52) (v := .d (.sl 1 (List.map rS ([⟨#[115, 117, 109]⟩, (fm (((fl s.res.chg day s.res.chg.length).length : Int))), (sh ((tot (fl s.res.chg day s.res.chg.length) (fl s.res.chg day s.res.chg.length).length)))])))) rfl (og rfl (of_eff (op_slices rfl Tryd.underlying98 ti9 rfl rfl rfl (by kernel_rfl) (xs := [.fl (.string (⟨#[115, 117, 109]⟩)), .fl (.string ((fm (((fl s.res.chg day s.res.chg.length).length : Int))))), .fl (.string ((sh ((tot (fl s.res.chg day s.res.chg.length) (fl s.res.chg day s.res.chg.length).length)))))]) rfl rfl (.cons rfl rfl (.d _) rfl rfl rfl (.cons rfl rfl (.d _) rfl rfl rfl (.cons rfl rfl (.d _) rfl rfl rfl .nil))) rfl) rfl)) ?_
      refine rg_put (d := 53) (v := .d (.fl (.string ((ln ([⟨#[115, 117, 109]⟩, (fm (((fl s.res.chg day s.res.chg.length).length : Int))), (sh ((tot (fl s.res.chg day s.res.chg.length) (fl s.res.chg day s.res.chg.length).length)))])))))) rfl (og rfl (op_call rfl Tryd.func28 nm28 rfl (.cons rfl (.d _) .nil) (ln31 ([⟨#[115, 117, 109]⟩, (fm (((fl s.res.chg day s.res.chg.length).length : Int))), (sh ((tot (fl s.res.chg day s.res.chg.length) (fl s.res.chg day s.res.chg.length).length)))]) (Nat.le_trans (sF_jn (by unfold in64; omega) (by unfold in64; omega)) (by decide))) rfl)) ?_
      refine rg_put (d := 54) (v := .d (.fl (.string (((dP s.res.chg day s.res.chg.length) ++ ((ln ([⟨#[115, 117, 109]⟩, (fm (((fl s.res.chg day s.res.chg.length).length : Int))), (sh ((tot (fl s.res.chg day s.res.chg.length) (fl s.res.chg day s.res.chg.length).length)))])))))))) rfl (og rfl (op_bin rfl rfl rfl (fun ox oy ow => b_sadd _ _ _ ox oy ow (by have h1 := sF_ln (n := ((fl s.res.chg day s.res.chg.length).length : Int)) (t := tot (fl s.res.chg day s.res.chg.length) (fl s.res.chg day s.res.chg.length).length) (by unfold in64; omega) (by unfold in64; omega); omega)) rfl)) ?_
      refine rg_put (d := 4) (v := .d (.fl (.string (((dP s.res.chg day s.res.chg.length) ++ ((ln ([⟨#[115, 117, 109]⟩, (fm (((fl s.res.chg day s.res.chg.length).length : Int))), (sh ((tot (fl s.res.chg day s.res.chg.length) (fl s.res.chg day s.res.chg.length).length)))])))))))) rfl (og rfl (op_assign rfl rfl rfl)) ?_
      refine rg_put (d := 5) (v := .d (.fl (.int .i64 0))) rfl (og rfl (op_assign rfl rfl rfl)) ?_
      refine rg_done rfl ?_
      refine a_ret ?_
      show ∃ ds, ResL _ _ _ ds ∧ RV.of ds = _
      refine ⟨[.fl (.string (((dP s.res.chg day s.res.chg.length) ++ ((ln ([⟨#[115, 117, 109]⟩, (fm (((fl s.res.chg day s.res.chg.length).length : Int))), (sh ((tot (fl s.res.chg day s.res.chg.length) (fl s.res.chg day s.res.chg.length).length)))])))))), .fl (.int .i64 0)], (.cons (.tmp rfl (.d _)) (.cons (.tmp rfl (.d _)) .nil)), ?_⟩
      rw [dyS_yes h3]; rfl
end Go.Proofs.YtglhonnmppclpaaDoor.Wk
