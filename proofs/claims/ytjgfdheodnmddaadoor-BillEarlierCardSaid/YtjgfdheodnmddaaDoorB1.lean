/- Months, both sides. Condition: the table of months reads as it is laid. -/
import Derived.Test.YtjgfdheodnmddaaDoorKk
set_option linter.unusedSimpArgs false
set_option linter.unusedVariables false
namespace Go.Proofs.YtjgfdheodnmddaaDoor.Wk
open Go Go.RowKit Go.Proofs.YtjgfdheodnmddaaDoor.Av
theorem ne_self_b (a : Int) : (a != a) = false := by simp
theorem sEq_eq {a b : ByteArray} (h : sEq a b = true) : a = b := of_decide_eq_true h
theorem sEq_of {a b : ByteArray} (h : a = b) : sEq a b = true := decide_eq_true h
theorem nb {b : Bool} (h : ¬ b = true) : b = false := by cases b <;> simp at h ⊢
theorem nnb {b : Bool} (h : ¬ (!b) = true) : b = true := by cases b <;> simp at h ⊢

theorem ix_eq {α : Type} [Inhabited α] {l : List α} {i : Nat} (h : i < l.length) : l[i] = ix l i := by
  have := ix_get h
  rw [List.getElem?_eq_getElem h] at this
  injection this
theorem ix_mem {α : Type} [Inhabited α] {l : List α} {k : Nat} (h : k < l.length) : ix l k ∈ l := by rw [← ix_eq h]; exact List.getElem_mem h
theorem mem_ix {α : Type} [Inhabited α] {l : List α} {x : α} (h : x ∈ l) : ∃ k, k < l.length ∧ ix l k = x := by
  obtain ⟨j, hj, he⟩ := List.mem_iff_getElem.1 h
  exact ⟨j, hj, by rw [← ix_eq hj]; exact he⟩
theorem fnd_no {α : Type} [Inhabited α] {p : α → Bool} {l : List α} (h : ∀ q, q < l.length → p (ix l q) = false) : l.find? p = none := by
  rw [List.find?_eq_none]
  intro x hx
  obtain ⟨k, hk, he⟩ := mem_ix hx
  rw [← he, h k hk]; simp
theorem fnd_at {α : Type} [Inhabited α] {p : α → Bool} {l : List α} {k : Nat} (hk : k < l.length) (h : ∀ q, q < k → p (ix l q) = false) (hp : p (ix l k) = true) : l.find? p = some (ix l k) := by
  rw [List.find?_eq_some_iff_getElem]
  refine ⟨hp, k, hk, ix_eq hk, fun j hj => ?_⟩
  rw [ix_eq (by omega), h j hj]; rfl
theorem any_at {α : Type} [Inhabited α] {p : α → Bool} {l : List α} {k : Nat} (hk : k < l.length) (hp : p (ix l k) = true) : l.any p = true := by
  rw [List.any_eq_true]; exact ⟨_, ix_mem hk, hp⟩
theorem any_no {α : Type} [Inhabited α] {p : α → Bool} {l : List α} (h : ∀ q, q < l.length → p (ix l q) = false) : l.any p = false := by
  rw [List.any_eq_false]
  intro x hx
  obtain ⟨k, hk, he⟩ := mem_ix hx
  rw [← he, h k hk]; simp
theorem all_no {α : Type} [Inhabited α] {p : α → Bool} {l : List α} {k : Nat} (hk : k < l.length) (h : p (ix l k) = false) : l.all p = false := by
  rw [List.all_eq_false]; exact ⟨_, ix_mem hk, by rw [h]; simp⟩
theorem all_yes {α : Type} [Inhabited α] {p : α → Bool} {l : List α} (h : ∀ q, q < l.length → p (ix l q) = true) : l.all p = true := by
  rw [List.all_eq_true]
  intro x hx
  obtain ⟨k, hk, he⟩ := mem_ix hx
  rw [← he]; exact h k hk

theorem ctrK_flat3 {P : Program} {K : World → (Nat → Nat) → Prop} {f : FuncId} (xs : List Value) {a b c : Value} (h : ∀ w U, K w U → Calls P f xs.toArray w fun e w' => e = .returned (.tuple #[a, b, c]) ∧ w = w') : CtrK P K f (xs.map DV.fl) (.tu [.fl a, .fl b, .fl c]) := by
  intro vals U w hK hR
  rw [rds_flat hR]
  refine Calls.mono (h w U hK) ?_
  rintro e w' ⟨rfl, rfl⟩
  exact ⟨_, U, rfl, Below.refl _ _, fun _ _ => rfl, _, rfl, Rds.cons (.fl _) (Rds.cons (.fl _) (Rds.cons (.fl _) Rds.nil))⟩
theorem ctr_flat3 {P : Program} {f : FuncId} (xs : List Value) {a b c : Value} (h : ∀ w, Calls P f xs.toArray w fun e w' => e = .returned (.tuple #[a, b, c]) ∧ w = w') : Ctr P f (xs.map DV.fl) (.tu [.fl a, .fl b, .fl c]) := by
  intro vals U w hR
  rw [rds_flat hR]
  refine Calls.mono (h w) ?_
  rintro e w' ⟨rfl, rfl⟩
  exact ⟨_, U, rfl, Below.refl _ _, fun _ _ => rfl, _, rfl, Rds.cons (.fl _) (Rds.cons (.fl _) (Rds.cons (.fl _) Rds.nil))⟩
theorem same_b {P : Program} {f : FuncId} {xs : Array Value} {w : World} {v : Value} (h : Calls P f xs w fun e w' => e = .returned v ∧ w = w') : Calls P f xs w fun e w' => e = .returned v ∧ Below w.heap.size w w' := Calls.mono h (by rintro e w' ⟨rfl, rfl⟩; exact ⟨rfl, Below.refl _ _⟩)
theorem same_c {P : Program} {f : FuncId} {xs : Array Value} {w : World} {v : Value} (h : Calls P f xs w fun e w' => e = .returned v ∧ w' = w) : Calls P f xs w fun e w' => e = .returned v ∧ Below w.heap.size w w' := Calls.mono h (by rintro e w' ⟨rfl, rfl⟩; exact ⟨rfl, Below.refl _ _⟩)
theorem less_at : ∀ (x y : List UInt8) (k : Nat), k < x.length → k < y.length → (∀ q, q < k → x.getD q 0 = y.getD q 0) → x.getD k 0 ≠ y.getD k 0 → Op.bytesLess x y = decide (x.getD k 0 < y.getD k 0)
  | [], _, _, h, _, _, _ => by simp at h
  | _ :: _, [], _, _, h, _, _ => by simp at h
  | a :: x, b :: y, 0, _, _, _, h => by
    have h' : a ≠ b := by simpa using h
    simp [Op.bytesLess, h']
  | a :: x, b :: y, k + 1, h1, h2, h3, h4 => by
    have e : a = b := by simpa using h3 0 (by omega)
    subst e
    have ih := less_at x y k (by simpa using h1) (by simpa using h2) (fun q hq => by simpa using h3 (q + 1) (by omega)) (by simpa using h4)
    simp [Op.bytesLess, ih, UInt8.lt_irrefl]
theorem less_end : ∀ (x y : List UInt8), (∀ q, q < x.length → q < y.length → x.getD q 0 = y.getD q 0) → Op.bytesLess x y = decide (x.length < y.length)
  | [], [], _ => by simp [Op.bytesLess]
  | [], _ :: _, _ => by simp [Op.bytesLess]
  | _ :: _, [], _ => by simp [Op.bytesLess]
  | a :: x, b :: y, h => by
    have e : a = b := by simpa using h 0 (by simp) (by simp)
    subst e
    have ih := less_end x y (fun q h1 h2 => by simpa using h (q + 1) (by simpa using h1) (by simpa using h2))
    simp [Op.bytesLess, ih, UInt8.lt_irrefl]
theorem dlen (s : ByteArray) : s.data.toList.length = s.size := by simp
theorem bef_at {a b : ByteArray} {k : Nat} (h1 : k < a.size) (h2 : k < b.size) (hq : ∀ q, q < k → bt a q = bt b q) (h : bt a k ≠ bt b k) : sLt a b = decide (((bt a k).toNat : Int) < ((bt b k).toNat : Int)) := by
  unfold sLt
  rw [ByteArray.toList_eq, ByteArray.toList_eq, less_at a.data.toList b.data.toList k (by rw [dlen]; exact h1) (by rw [dlen]; exact h2) hq h]
  show decide (bt a k < bt b k) = _
  rw [decide_eq_decide, UInt8.lt_iff_toNat_lt]
  omega
theorem bef_end {a b : ByteArray} {k : Nat} (h : ¬ (k < a.size ∧ k < b.size)) (hq : ∀ q, q < k → bt a q = bt b q) : sLt a b = decide ((a.size : Int) < (b.size : Int)) := by
  unfold sLt
  rw [ByteArray.toList_eq, ByteArray.toList_eq, less_end a.data.toList b.data.toList (fun q h1 h2 => hq q (by rw [dlen] at h1 h2; omega)), dlen, dlen, decide_eq_decide]
  omega
def dayN (t : Int) : Int := Cm.dayS t
def dy (d : Int) : Int := (Cm.dateS d).1
def dm (d : Int) : Int := (Cm.dateS d).2.1
def dd (d : Int) : Int := (Cm.dateS d).2.2
theorem dayP (t : Int) : Ctr Tryd.prog 29 [.fl (.int .i64 t)] (.d (.fl (.int .i64 (dayN t)))) := ctr_flat [.int .i64 t] (fun w => same_b (Cw.day_any t w))
theorem dayR (t : Int) : Ctr Tryd.prog 22 [.fl (.int .i64 t)] (.d (.fl (.int .i64 (dayN t)))) := ctr_flat [.int .i64 t] (fun w => same_b (Cw.Day_any t w))
theorem dtP (d : Int) : CtrK Tryd.prog KK 51 [.fl (.int .i64 d)] (.tu [.fl (.int .i64 (dy d)), .fl (.int .i64 (dm d)), .fl (.int .i64 (dd d))]) := ctrK_flat3 [.int .i64 d] (fun w U hK => Cw.date_any d w hK)
theorem dtR (d : Int) : Ctr Tryd.prog 21 [.fl (.int .i64 d)] (.tu [.fl (.int .i64 (dy d)), .fl (.int .i64 (dm d)), .fl (.int .i64 (dd d))]) := ctr_flat3 [.int .i64 d] (fun w => Cw.Date_any d w)
theorem dat_any (d : Int) : dy d = 0 ∨ ((2001 ≤ dy d ∧ dy d ≤ 4178) ∧ (1 ≤ dm d ∧ dm d ≤ 12)) := by
  cases h : Cm.isD d with
  | false => left; unfold dy Cm.dateS; rw [if_neg (by rw [h]; decide)]
  | true =>
    right
    obtain ⟨y, m, e, h1, h2, h3, h4, h5, h6, h7⟩ := Cm.date_back (d := d) h
    unfold dy dm
    rw [e]
    exact ⟨⟨h1, h2⟩, by show 1 ≤ (m : Int) ∧ (m : Int) ≤ 12; omega⟩
def mon (t : Int) : Int := bif (dy (dayN t) == 0) then -1 else (dy (dayN t) - 2001) * 12 + dm (dayN t) - 1
def per (c : Ca) (t : Int) : Int := bif (c.days == 1) then dayN t else bif (c.days == 0) then mon t else -1
theorem mon_ge (t : Int) : -1 ≤ mon t := by
  have h := dat_any (dayN t)
  unfold mon
  cases h0 : (dy (dayN t) == 0) with
  | true => simp
  | false =>
    have : dy (dayN t) ≠ 0 := by simpa using h0
    rw [cond_false]; omega
def nz (x : Tp) : Bool := !((x.stops.length : Int) == 0)
def bg (x : Tp) : Int := bif ((x.stops.length : Int) == 0) then 0 else (ix x.stops 0).time
theorem bg_f {x : Tp} (h : ((x.stops.length : Int) == 0) = false) : bg x = (ix x.stops 0).time := by unfold bg; rw [h]; rfl
def okc (l : List Tp) (x : Tp) (k : Nat) : Bool := ((nz (ix l k) && sEq (ix l k).veh x.veh) && (decide (bg (ix l k) < bg x) || ((bg (ix l k) == bg x) && sLt (ix l k).id x.id))) && (mon (bg (ix l k)) == mon (bg x))
def cn (l : List Tp) (x : Tp) : Nat → Int
  | 0 => 0
  | k + 1 => bif okc l x k then cn l x k + 1 else cn l x k
theorem cn_y {l : List Tp} {x : Tp} {k : Nat} (h : okc l x k = true) : cn l x k + 1 = cn l x (k + 1) := by simp only [cn, h, cond_true]
theorem cn_n {l : List Tp} {x : Tp} {k : Nat} (h : okc l x k = false) : cn l x k = cn l x (k + 1) := by simp only [cn, h, cond_false]
theorem cn_in (l : List Tp) (x : Tp) : ∀ k, 0 ≤ cn l x k ∧ cn l x k ≤ (k : Int)
  | 0 => by simp [cn]
  | k + 1 => by
    have := cn_in l x k
    simp only [cn]
    cases okc l x k <;> simp only [cond_true, cond_false] <;> omega
def ear (l : List Tp) (x : Tp) : Int := bif (nz x && !(mon (bg x) == -1)) then cn l x l.length else 0

set_option maxHeartbeats 4000000 in
set_option maxRecDepth 100000 in
theorem monC (t : Int) : CtrK Tryd.prog KK 34 [.fl (.int .i64 t)] (.d (.fl (.int .i64 (mon t)))) := by
  refine ctrK (n := 21) (rs := #[.tmp 2]) (L := [(0, .d (.fl (.int .i64 t)))]) Tryd.func34 rfl rfl rfl rfl rfl (fun w0 U0 hG => ?_)
  refine a_rseq ?_
  refine rg_put (d := 2) (v := .d (.fl (.int .i64 0))) rfl (og rfl (op_assign rfl rfl rfl)) ?_
  refine rg_done rfl ?_
  refine a_rseq ?_
  refine rg_put (d := 7) (v := .d (.fl (.int .i64 t))) rfl (og rfl (op_move rfl rfl rfl)) ?_
  refine rg_put (d := 8) (v := .d (.fl (.int .i64 (dayN t)))) rfl (og rfl (op_call rfl Tryd.func29 nm29 rfl (.cons rfl (.d _) .nil) (dayP t) rfl)) ?_
  refine rg_put (d := 9) (v := .tu [.fl (.int .i64 ((dy (dayN t)))), .fl (.int .i64 ((dm (dayN t)))), .fl (.int .i64 ((dd (dayN t))))]) rfl (og rfl (op_callK kkst hG rfl Tryd.func51 nm51 rfl (.cons rfl (.d _) .nil) (dtP (dayN t)) rfl)) ?_
  refine rg_put (d := 6) (v := .tu [.fl (.int .i64 ((dy (dayN t)))), .fl (.int .i64 ((dm (dayN t)))), .fl (.int .i64 ((dd (dayN t))))]) rfl (og rfl (op_move rfl rfl rfl)) ?_
  refine rg_put (d := 10) (v := .d (.fl (.int .i64 ((dy (dayN t)))))) rfl (og rfl (op_extract rfl rfl rfl rfl)) ?_
  refine rg_put (d := 11) (v := .d (.fl (.int .i64 ((dm (dayN t)))))) rfl (og rfl (op_extract rfl rfl rfl rfl)) ?_
  refine rg_put (d := 12) (v := .d (.fl (.int .i64 ((dd (dayN t)))))) rfl (og rfl (op_extract rfl rfl rfl rfl)) ?_
  refine rg_put (d := 3) (v := .d (.fl (.int .i64 ((dy (dayN t)))))) rfl (og rfl (op_assign rfl rfl rfl)) ?_
  refine rg_put (d := 4) (v := .d (.fl (.int .i64 ((dm (dayN t)))))) rfl (og rfl (op_assign rfl rfl rfl)) ?_
  refine rg_put (d := 5) (v := .d (.fl (.int .i64 ((dd (dayN t)))))) rfl (og rfl (op_assign rfl rfl rfl)) ?_
  refine rg_done rfl ?_
  refine a_seq ?_
  refine a_rseq ?_
  have hda := dat_any (dayN t)
  refine rg_put (d := 13) (v := .d (.fl (.int .i64 ((dy (dayN t)))))) rfl (og rfl (op_move rfl rfl rfl)) ?_
  refine rg_put (d := 14) (v := .d (.fl (.bool (((dy (dayN t)) == 0))))) rfl (og rfl (op_bin rfl rfl rfl (b_eql _ _ _ _) rfl)) ?_
  refine rg_done rfl ?_
  refine a_cond rfl (fun h1 => ?_) (fun h1 => ?_)
  · skip
    have h2 := t_beq h1
    refine a_rseq ?_
    refine rg_put (d := 2) (v := .d (.fl (.int .i64 (-1)))) rfl (og rfl (op_assign rfl rfl rfl)) ?_
    refine rg_done rfl ?_
    refine a_ret ?_
    show ∃ ds, ResL _ _ _ ds ∧ RV.of ds = _
    refine ⟨[.fl (.int .i64 (-1))], (.cons (.tmp rfl (.d _)) .nil), ?_⟩
    first
      | (have hu : mon t = (-1) := by
          unfold mon; simp only [h1, Bool.true_or, Bool.false_or, Bool.or_true, Bool.or_false, Bool.not_true, Bool.not_false, cond_true, cond_false, Bool.true_and, Bool.false_and, Bool.and_true, Bool.and_false] <;> first | rfl | omega
         rw [hu]; rfl)
      | (exfalso; omega)
  · skip
    have h3 := f_beq h1
    refine a_skip ?_
    show A _ _ _ _ _ _ _
    refine a_rseq ?_
    refine rg_put (d := 15) (v := .d (.fl (.int .i64 ((dy (dayN t)))))) rfl (og rfl (op_move rfl rfl rfl)) ?_
    refine rg_put (d := 16) (v := .d (.fl (.int .i64 (((dy (dayN t)) - 2001))))) rfl (og rfl (op_bin rfl rfl rfl (fun x y w => b_sub64 _ _ _ x y w (by omega)) rfl)) ?_
    refine rg_put (d := 17) (v := .d (.fl (.int .i64 ((((dy (dayN t)) - 2001) * 12))))) rfl (og rfl (op_bin rfl rfl rfl (fun x y w => b_mul64 _ _ _ x y w (by omega)) rfl)) ?_
    refine rg_put (d := 18) (v := .d (.fl (.int .i64 ((dm (dayN t)))))) rfl (og rfl (op_move rfl rfl rfl)) ?_
    refine rg_put (d := 19) (v := .d (.fl (.int .i64 (((((dy (dayN t)) - 2001) * 12) + (dm (dayN t))))))) rfl (og rfl (op_bin rfl rfl rfl (fun x y w => b_add64 _ _ _ x y w (by omega)) rfl)) ?_
    refine rg_put (d := 20) (v := .d (.fl (.int .i64 ((((((dy (dayN t)) - 2001) * 12) + (dm (dayN t))) - 1))))) rfl (og rfl (op_bin rfl rfl rfl (fun x y w => b_sub64 _ _ _ x y w (by omega)) rfl)) ?_
    refine rg_put (d := 2) (v := .d (.fl (.int .i64 ((((((dy (dayN t)) - 2001) * 12) + (dm (dayN t))) - 1))))) rfl (og rfl (op_assign rfl rfl rfl)) ?_
    refine rg_done rfl ?_
    refine a_ret ?_
    show ∃ ds, ResL _ _ _ ds ∧ RV.of ds = _
    refine ⟨[.fl (.int .i64 ((((((dy (dayN t)) - 2001) * 12) + (dm (dayN t))) - 1)))], (.cons (.tmp rfl (.d _)) .nil), ?_⟩
    first
      | (have hu : mon t = (((((dy (dayN t)) - 2001) * 12) + (dm (dayN t))) - 1) := by
          unfold mon; simp only [h1, Bool.true_or, Bool.false_or, Bool.or_true, Bool.or_false, Bool.not_true, Bool.not_false, cond_true, cond_false, Bool.true_and, Bool.false_and, Bool.and_true, Bool.and_false] <;> first | rfl | omega
         rw [hu]; rfl)
      | (exfalso; omega)
set_option maxHeartbeats 4000000 in
set_option maxRecDepth 100000 in
theorem perC (c : Ca) (t : Int) : CtrK Tryd.prog KK 20 [.ag (eCa c), .fl (.int .i64 t)] (.d (.fl (.int .i64 (per c t)))) := by
  refine ctrK (n := 15) (rs := #[.tmp 4]) (L := [(0, .d (.ag (eCa c))), (1, .d (.fl (.int .i64 t)))]) Tryd.func20 rfl rfl rfl rfl rfl (fun w0 U0 hG => ?_)
  refine a_rseq ?_
  refine rg_nam (d := 2) (v := .pt 101 0) (m := 101) (nw := [(101, .bx 78 (eCa c))]) rfl (og rfl (of_eff (op_box 101 rfl rfl rfl rfl) rfl)) rfl ?_
  refine rg_put (d := 4) (v := .d (.fl (.int .i64 0))) rfl (og rfl (op_assign rfl rfl rfl)) ?_
  refine rg_done rfl ?_
  refine a_seq ?_
  refine a_rseq ?_
  refine rg_put (d := 5) (v := .pt 101 2) rfl (og rfl (of_eff (s_field_pt rfl Tryd.underlying78 rfl ti3 rfl rfl rfl) rfl)) ?_
  refine rg_put (d := 6) (v := .d (.fl (.int .i64 c.days))) rfl (og rfl (op_load_pt rfl Tryd.underlying3 rfl rfl rfl rfl rfl)) ?_
  refine rg_done rfl ?_
  refine a_block ?_
  refine a_rseq ?_
  refine rg_put (d := 8) (v := .d (.fl (.bool (c.days == 1)))) rfl (og rfl (op_bin rfl rfl rfl (b_eql _ _ _ _) rfl)) ?_
  refine rg_put (d := 7) (v := .d (.fl (.bool (c.days == 1)))) rfl (og rfl (op_assign rfl rfl rfl)) ?_
  refine rg_done rfl ?_
  refine a_cond rfl (fun h1 => ?_) (fun h1 => ?_)
  · skip
    have h2 := t_beq h1
    refine a_rseq ?_
    refine rg_put (d := 9) (v := .d (.fl (.int .i64 t))) rfl (og rfl (op_move rfl rfl rfl)) ?_
    refine rg_put (d := 10) (v := .d (.fl (.int .i64 (dayN t)))) rfl (og rfl (op_call rfl Tryd.func29 nm29 rfl (.cons rfl (.d _) .nil) (dayP t) rfl)) ?_
    refine rg_put (d := 4) (v := .d (.fl (.int .i64 (dayN t)))) rfl (og rfl (op_assign rfl rfl rfl)) ?_
    refine rg_done rfl ?_
    refine a_ret ?_
    show ∃ ds, ResL _ _ _ ds ∧ RV.of ds = _
    refine ⟨[.fl (.int .i64 (dayN t))], (.cons (.tmp rfl (.d _)) .nil), ?_⟩
    first
      | (have hu : per c t = (dayN t) := by
          unfold per; simp only [h1, Bool.true_or, Bool.false_or, Bool.or_true, Bool.or_false, Bool.not_true, Bool.not_false, cond_true, cond_false, Bool.true_and, Bool.false_and, Bool.and_true, Bool.and_false] <;> rfl
         rw [hu]; rfl)
      | (exfalso; omega)
  · skip
    have h3 := f_beq h1
    refine a_rseq ?_
    refine rg_put (d := 12) (v := .d (.fl (.bool (c.days == 0)))) rfl (og rfl (op_bin rfl rfl rfl (b_eql _ _ _ _) rfl)) ?_
    refine rg_put (d := 11) (v := .d (.fl (.bool (c.days == 0)))) rfl (og rfl (op_assign rfl rfl rfl)) ?_
    refine rg_done rfl ?_
    refine a_cond rfl (fun h4 => ?_) (fun h4 => ?_)
    · skip
      have h5 := t_beq h4
      refine a_rseq ?_
      refine rg_put (d := 13) (v := .d (.fl (.int .i64 t))) rfl (og rfl (op_move rfl rfl rfl)) ?_
      refine rg_put (d := 14) (v := .d (.fl (.int .i64 (mon t)))) rfl (og rfl (op_callK kkst hG rfl Tryd.func34 nm34 rfl (.cons rfl (.d _) .nil) (monC t) rfl)) ?_
      refine rg_put (d := 4) (v := .d (.fl (.int .i64 (mon t)))) rfl (og rfl (op_assign rfl rfl rfl)) ?_
      refine rg_done rfl ?_
      refine a_ret ?_
      show ∃ ds, ResL _ _ _ ds ∧ RV.of ds = _
      refine ⟨[.fl (.int .i64 (mon t))], (.cons (.tmp rfl (.d _)) .nil), ?_⟩
      first
        | (have hu : per c t = (mon t) := by
            unfold per; simp only [h1, h4, Bool.true_or, Bool.false_or, Bool.or_true, Bool.or_false, Bool.not_true, Bool.not_false, cond_true, cond_false, Bool.true_and, Bool.false_and, Bool.and_true, Bool.and_false] <;> rfl
           rw [hu]; rfl)
        | (exfalso; omega)
    · skip
      have h6 := f_beq h4
      refine a_skip ?_
      show A _ _ _ _ _ _ _
      refine a_rseq ?_
      refine rg_put (d := 4) (v := .d (.fl (.int .i64 (-1)))) rfl (og rfl (op_assign rfl rfl rfl)) ?_
      refine rg_done rfl ?_
      refine a_ret ?_
      show ∃ ds, ResL _ _ _ ds ∧ RV.of ds = _
      refine ⟨[.fl (.int .i64 (-1))], (.cons (.tmp rfl (.d _)) .nil), ?_⟩
      first
        | (have hu : per c t = (-1) := by
            unfold per; simp only [h1, h4, Bool.true_or, Bool.false_or, Bool.or_true, Bool.or_false, Bool.not_true, Bool.not_false, cond_true, cond_false, Bool.true_and, Bool.false_and, Bool.and_true, Bool.and_false] <;> rfl
           rw [hu]; rfl)
        | (exfalso; omega)
set_option maxHeartbeats 4000000 in
set_option maxRecDepth 100000 in
theorem monP (t : Int) : CtrK Tryd.prog KK 8 [.fl (.int .i64 t)] (.d (.fl (.int .i64 (mon t)))) := by
  refine ctrK (n := 6) (rs := #[.tmp 2]) (L := [(0, .d (.fl (.int .i64 t)))]) Tryd.func8 rfl rfl rfl rfl rfl (fun w0 U0 hG => ?_)
  refine a_rseq ?_
  refine rg_put (d := 2) (v := .d (.fl (.int .i64 0))) rfl (og rfl (op_assign rfl rfl rfl)) ?_
  refine rg_done rfl ?_
  refine a_rseq ?_
  refine rg_put (d := 3) (v := .d (.ag (eCa ((Ca.mk (⟨#[]⟩) (⟨#[]⟩) 0 0))))) rfl (og rfl (of_eff (op_build rfl Tryd.underlying78 ti78 rfl (by kernel_rfl) (by kernel_rfl) (pl := #[(0, 1), (1, 1), (2, 1), (3, 1)]) (by kernel_rfl) (.cons rfl rfl (.d _) rfl rfl rfl .nil) rfl) rfl)) ?_
  refine rg_put (d := 4) (v := .d (.fl (.int .i64 t))) rfl (og rfl (op_move rfl rfl rfl)) ?_
  refine rg_put (d := 5) (v := .d (.fl (.int .i64 ((per ((Ca.mk (⟨#[]⟩) (⟨#[]⟩) 0 0)) t))))) rfl (og rfl (op_callK kkst hG rfl Tryd.func20 nm20 rfl (.cons rfl (.d _) (.cons rfl (.d _) .nil)) (perC ((Ca.mk (⟨#[]⟩) (⟨#[]⟩) 0 0)) t) rfl)) ?_
  refine rg_put (d := 2) (v := .d (.fl (.int .i64 ((per ((Ca.mk (⟨#[]⟩) (⟨#[]⟩) 0 0)) t))))) rfl (og rfl (op_assign rfl rfl rfl)) ?_
  refine rg_done rfl ?_
  refine a_ret ?_
  show ∃ ds, ResL _ _ _ ds ∧ RV.of ds = _
  refine ⟨[.fl (.int .i64 ((per ((Ca.mk (⟨#[]⟩) (⟨#[]⟩) 0 0)) t)))], (.cons (.tmp rfl (.d _)) .nil), ?_⟩
  rfl
set_option maxHeartbeats 4000000 in
set_option maxRecDepth 100000 in
theorem monR (t : Int) : Ctr Tryd.prog 9 [.fl (.int .i64 t)] (.d (.fl (.int .i64 (mon t)))) := by
  refine ctr (n := 21) (rs := #[.tmp 2]) (L := [(0, .d (.fl (.int .i64 t)))]) Tryd.func9 rfl rfl rfl rfl rfl (fun w0 U0 => ?_)
  refine a_rseq ?_
  refine rg_put (d := 2) (v := .d (.fl (.int .i64 0))) rfl (og rfl (op_assign rfl rfl rfl)) ?_
  refine rg_done rfl ?_
  refine a_rseq ?_
  refine rg_put (d := 7) (v := .d (.fl (.int .i64 t))) rfl (og rfl (op_move rfl rfl rfl)) ?_
  refine rg_put (d := 8) (v := .d (.fl (.int .i64 (dayN t)))) rfl (og rfl (op_call rfl Tryd.func22 nm22 rfl (.cons rfl (.d _) .nil) (dayR t) rfl)) ?_
  refine rg_put (d := 9) (v := .tu [.fl (.int .i64 ((dy (dayN t)))), .fl (.int .i64 ((dm (dayN t)))), .fl (.int .i64 ((dd (dayN t))))]) rfl (og rfl (op_call rfl Tryd.func21 nm21 rfl (.cons rfl (.d _) .nil) (dtR (dayN t)) rfl)) ?_
  refine rg_put (d := 6) (v := .tu [.fl (.int .i64 ((dy (dayN t)))), .fl (.int .i64 ((dm (dayN t)))), .fl (.int .i64 ((dd (dayN t))))]) rfl (og rfl (op_move rfl rfl rfl)) ?_
  refine rg_put (d := 10) (v := .d (.fl (.int .i64 ((dy (dayN t)))))) rfl (og rfl (op_extract rfl rfl rfl rfl)) ?_
  refine rg_put (d := 11) (v := .d (.fl (.int .i64 ((dm (dayN t)))))) rfl (og rfl (op_extract rfl rfl rfl rfl)) ?_
  refine rg_put (d := 12) (v := .d (.fl (.int .i64 ((dd (dayN t)))))) rfl (og rfl (op_extract rfl rfl rfl rfl)) ?_
  refine rg_put (d := 3) (v := .d (.fl (.int .i64 ((dy (dayN t)))))) rfl (og rfl (op_assign rfl rfl rfl)) ?_
  refine rg_put (d := 4) (v := .d (.fl (.int .i64 ((dm (dayN t)))))) rfl (og rfl (op_assign rfl rfl rfl)) ?_
  refine rg_put (d := 5) (v := .d (.fl (.int .i64 ((dd (dayN t)))))) rfl (og rfl (op_assign rfl rfl rfl)) ?_
  refine rg_done rfl ?_
  refine a_seq ?_
  refine a_rseq ?_
  have hda := dat_any (dayN t)
  refine rg_put (d := 13) (v := .d (.fl (.int .i64 ((dy (dayN t)))))) rfl (og rfl (op_move rfl rfl rfl)) ?_
  refine rg_put (d := 14) (v := .d (.fl (.bool (((dy (dayN t)) == 0))))) rfl (og rfl (op_bin rfl rfl rfl (b_eql _ _ _ _) rfl)) ?_
  refine rg_done rfl ?_
  refine a_cond rfl (fun h1 => ?_) (fun h1 => ?_)
  · skip
    have h2 := t_beq h1
    refine a_rseq ?_
    refine rg_put (d := 2) (v := .d (.fl (.int .i64 (-1)))) rfl (og rfl (op_assign rfl rfl rfl)) ?_
    refine rg_done rfl ?_
    refine a_ret ?_
    show ∃ ds, ResL _ _ _ ds ∧ RV.of ds = _
    refine ⟨[.fl (.int .i64 (-1))], (.cons (.tmp rfl (.d _)) .nil), ?_⟩
    first
      | (have hu : mon t = (-1) := by
          unfold mon; simp only [h1, Bool.true_or, Bool.false_or, Bool.or_true, Bool.or_false, Bool.not_true, Bool.not_false, cond_true, cond_false, Bool.true_and, Bool.false_and, Bool.and_true, Bool.and_false] <;> first | rfl | omega
         rw [hu]; rfl)
      | (exfalso; omega)
  · skip
    have h3 := f_beq h1
    refine a_skip ?_
    show A _ _ _ _ _ _ _
    refine a_rseq ?_
    refine rg_put (d := 15) (v := .d (.fl (.int .i64 ((dy (dayN t)))))) rfl (og rfl (op_move rfl rfl rfl)) ?_
    refine rg_put (d := 16) (v := .d (.fl (.int .i64 (((dy (dayN t)) - 2001))))) rfl (og rfl (op_bin rfl rfl rfl (fun x y w => b_sub64 _ _ _ x y w (by omega)) rfl)) ?_
    refine rg_put (d := 17) (v := .d (.fl (.int .i64 ((((dy (dayN t)) - 2001) * 12))))) rfl (og rfl (op_bin rfl rfl rfl (fun x y w => b_mul64 _ _ _ x y w (by omega)) rfl)) ?_
    refine rg_put (d := 18) (v := .d (.fl (.int .i64 ((dm (dayN t)))))) rfl (og rfl (op_move rfl rfl rfl)) ?_
    refine rg_put (d := 19) (v := .d (.fl (.int .i64 (((((dy (dayN t)) - 2001) * 12) + (dm (dayN t))))))) rfl (og rfl (op_bin rfl rfl rfl (fun x y w => b_add64 _ _ _ x y w (by omega)) rfl)) ?_
    refine rg_put (d := 20) (v := .d (.fl (.int .i64 ((((((dy (dayN t)) - 2001) * 12) + (dm (dayN t))) - 1))))) rfl (og rfl (op_bin rfl rfl rfl (fun x y w => b_sub64 _ _ _ x y w (by omega)) rfl)) ?_
    refine rg_put (d := 2) (v := .d (.fl (.int .i64 ((((((dy (dayN t)) - 2001) * 12) + (dm (dayN t))) - 1))))) rfl (og rfl (op_assign rfl rfl rfl)) ?_
    refine rg_done rfl ?_
    refine a_ret ?_
    show ∃ ds, ResL _ _ _ ds ∧ RV.of ds = _
    refine ⟨[.fl (.int .i64 ((((((dy (dayN t)) - 2001) * 12) + (dm (dayN t))) - 1)))], (.cons (.tmp rfl (.d _)) .nil), ?_⟩
    first
      | (have hu : mon t = (((((dy (dayN t)) - 2001) * 12) + (dm (dayN t))) - 1) := by
          unfold mon; simp only [h1, Bool.true_or, Bool.false_or, Bool.or_true, Bool.or_false, Bool.not_true, Bool.not_false, cond_true, cond_false, Bool.true_and, Bool.false_and, Bool.and_true, Bool.and_false] <;> first | rfl | omega
         rw [hu]; rfl)
      | (exfalso; omega)
end Go.Proofs.YtjgfdheodnmddaaDoor.Wk
