/- Dates, both sides. Conditions: machine integers. -/
import Derived.Test.YtglhonnmppclpaaDoorB1
set_option linter.unusedSimpArgs false
set_option linter.unusedVariables false
namespace Go.Proofs.YtglhonnmppclpaaDoor.Wk
open Go Go.RowKit Go.Proofs.YtglhonnmppclpaaDoor.Av
theorem ctrK_flat3 {P : Program} {K : World → (Nat → Nat) → Prop} {f : FuncId} (xs : List Value) {a b c : Value} (h : ∀ w U, K w U → Calls P f xs.toArray w fun e w' => e = .returned (.tuple #[a, b, c]) ∧ w = w') : CtrK P K f (xs.map DV.fl) (.tu [.fl a, .fl b, .fl c]) := by
  intro vals U w hK hR
  rw [rds_flat hR]
  refine Calls.mono (h w U hK) ?_
  rintro e w' ⟨rfl, rfl⟩
  exact ⟨_, U, rfl, Below.refl _ _, fun _ _ => rfl, _, rfl, Rds.cons (.fl _) (Rds.cons (.fl _) (Rds.cons (.fl _) Rds.nil))⟩
theorem ctr_flat3 {P : Program} {f : FuncId} (xs : List Value) {a b c : Value} (h : ∀ w, Calls P f xs.toArray w fun e w' => e = .returned (.tuple #[a, b, c]) ∧ w = w') : Ctr P f (xs.map DV.fl) (.tu [.fl a, .fl b, .fl c]) := by
  intro vals U w hR
  rw [rds_flat hR]
  refine Calls.mono (h w) ?_
  rintro e w' ⟨rfl, rfl⟩
  exact ⟨_, U, rfl, Below.refl _ _, fun _ _ => rfl, _, rfl, Rds.cons (.fl _) (Rds.cons (.fl _) (Rds.cons (.fl _) Rds.nil))⟩
theorem same_b {P : Program} {f : FuncId} {xs : Array Value} {w : World} {v : Value} (h : Calls P f xs w fun e w' => e = .returned v ∧ w = w') : Calls P f xs w fun e w' => e = .returned v ∧ Below w.heap.size w w' := Calls.mono h (by rintro e w' ⟨rfl, rfl⟩; exact ⟨rfl, Below.refl _ _⟩)
theorem same_c {P : Program} {f : FuncId} {xs : Array Value} {w : World} {v : Value} (h : Calls P f xs w fun e w' => e = .returned v ∧ w' = w) : Calls P f xs w fun e w' => e = .returned v ∧ Below w.heap.size w w' := Calls.mono h (by rintro e w' ⟨rfl, rfl⟩; exact ⟨rfl, Below.refl _ _⟩)
def rp (c : Int) : ByteArray := if c = 1 then ⟨#[48]⟩ else ⟨#[]⟩
theorem rp93 (c : Int) (h : c = 0 ∨ c = 1) : Ctr Tryd.prog 89 [.fl (.string ⟨#[48]⟩), .fl (.int .i64 c)] (.d (.fl (.string (rp c)))) := ctr_flat [.string ⟨#[48]⟩, .int .i64 c] (fun w => by
  rcases h with rfl | rfl
  · exact same_c (Any.strings_Repeat_zero Tryd.laysRep ⟨#[48]⟩ w)
  · exact same_c (Any.strings_Repeat_one Tryd.laysRep ⟨#[48]⟩ w))
def isD (d : Int) : Bool := Go.Proofs.YtglhonnmppclpaaDoor.Cm.isD d
def dayN (t : Int) : Int := Go.Proofs.YtglhonnmppclpaaDoor.Cm.dayS t
def wkd (d : Int) : Int := Go.Proofs.YtglhonnmppclpaaDoor.Cm.wdS d
def dy (d : Int) : Int := (Go.Proofs.YtglhonnmppclpaaDoor.Cm.dateS d).1
def dm (d : Int) : Int := (Go.Proofs.YtglhonnmppclpaaDoor.Cm.dateS d).2.1
def dd (d : Int) : Int := (Go.Proofs.YtglhonnmppclpaaDoor.Cm.dateS d).2.2
theorem wk35 (d : Int) : Ctr Tryd.prog 32 [.fl (.int .i64 d)] (.d (.fl (.int .i64 (wkd d)))) := ctr_flat [.int .i64 d] (fun w => same_b (Go.Proofs.YtglhonnmppclpaaDoor.Cw.wd_any d w))
theorem day37 (d : Int) : Ctr Tryd.prog 34 [.fl (.int .i64 d)] (.d (.fl (.int .i64 (dayN d)))) := ctr_flat [.int .i64 d] (fun w => same_b (Go.Proofs.YtglhonnmppclpaaDoor.Cw.day_any d w))
theorem day41 (d : Int) : Ctr Tryd.prog 38 [.fl (.int .i64 d)] (.d (.fl (.int .i64 (dayN d)))) := ctr_flat [.int .i64 d] (fun w => same_b (Go.Proofs.YtglhonnmppclpaaDoor.Cw.Day_any d w))
theorem isD39 (d : Int) : Ctr Tryd.prog 36 [.fl (.int .i64 d)] (.d (.fl (.bool (isD d)))) := ctr_flat [.int .i64 d] (fun w => same_b (Go.Proofs.YtglhonnmppclpaaDoor.Cw.IsDay_any d w))
theorem dt73 (d : Int) : CtrK Tryd.prog KK 69 [.fl (.int .i64 d)] (.tu [.fl (.int .i64 (dy d)), .fl (.int .i64 (dm d)), .fl (.int .i64 (dd d))]) := ctrK_flat3 [.int .i64 d] (fun w U hK => Go.Proofs.YtglhonnmppclpaaDoor.Cw.date_any d w hK.2.2)
theorem dt76 (d : Int) : Ctr Tryd.prog 72 [.fl (.int .i64 d)] (.tu [.fl (.int .i64 (dy d)), .fl (.int .i64 (dm d)), .fl (.int .i64 (dd d))]) := ctr_flat3 [.int .i64 d] (fun w => Go.Proofs.YtglhonnmppclpaaDoor.Cw.Date_any d w)
theorem isD_iff (d : Int) : isD d = true ↔ 0 ≤ d ∧ d < 795364 := Go.Proofs.YtglhonnmppclpaaDoor.Cm.isD_iff d
theorem wkd_lt (d : Int) : decide (wkd d < 0) = !(isD d) := by
  unfold wkd Go.Proofs.YtglhonnmppclpaaDoor.Cm.wdS isD
  cases h : Go.Proofs.YtglhonnmppclpaaDoor.Cm.isD d with
  | true => rw [if_pos rfl]; have := (isD_iff d).1 h; exact decide_eq_false (by omega)
  | false => rfl
theorem dat_no {d : Int} (h : isD d = false) : dy d = 0 := by
  have h' : Go.Proofs.YtglhonnmppclpaaDoor.Cm.isD d = false := h
  unfold dy Go.Proofs.YtglhonnmppclpaaDoor.Cm.dateS; rw [if_neg (by rw [h']; decide)]
theorem dat_in {d : Int} (h : isD d = true) : (2001 ≤ dy d ∧ dy d ≤ 4178) ∧ (1 ≤ dm d ∧ dm d ≤ 12) ∧ (1 ≤ dd d ∧ dd d ≤ 31) := by
  obtain ⟨y, m, e, h1, h2, h3, h4, h5, h6, h7⟩ := Go.Proofs.YtglhonnmppclpaaDoor.Cm.date_back (d := d) h
  rw [Go.Proofs.YtglhonnmppclpaaDoor.Cm.cum_step y h3 h4] at h7
  unfold dy dm dd
  rw [e]
  have h9 := Go.Proofs.YtglhonnmppclpaaDoor.Cm.ml_hi y m
  show (2001 ≤ y ∧ y ≤ 4178) ∧ (1 ≤ (m : Int) ∧ (m : Int) ≤ 12) ∧ (1 ≤ d - Go.Proofs.YtglhonnmppclpaaDoor.Cm.ys y - Go.Proofs.YtglhonnmppclpaaDoor.Cm.cum y m + 1 ∧ d - Go.Proofs.YtglhonnmppclpaaDoor.Cm.ys y - Go.Proofs.YtglhonnmppclpaaDoor.Cm.cum y m + 1 ≤ 31)
  refine ⟨⟨h1, h2⟩, ⟨by omega, by omega⟩, ⟨by omega, by omega⟩⟩
theorem fm_nn {n : Int} (h : 0 ≤ n) : (fm n).size = (Lib.decDigits n.natAbs).length := by
  unfold fm
  rw [Go.Proofs.YtglhonnmppclpaaDoor.Om.fmt_pos (by omega)]
  rfl
theorem dec1 {u : Nat} (h : u < 10) : (Lib.decDigits u).length = 1 := by rw [Lib.decDigits_one h]; rfl
theorem dec2 {u : Nat} (h : 10 ≤ u) (h2 : u < 100) : (Lib.decDigits u).length = 2 := by rw [Lib.decDigits_two (by omega) h2]; rfl
theorem dec4 {u : Nat} (h : 1000 ≤ u) (h2 : u < 10000) : (Lib.decDigits u).length = 4 := by
  rw [Lib.decDigits, dif_neg (by omega), Lib.decDigits, dif_neg (by omega), List.length_append, List.length_append, dec2 (by omega) (by omega)]; rfl
/-- a number with leading zeros -/
def dg (n w : Int) : ByteArray := rp (max (w - ((fm n).size : Int)) 0) ++ fm n
def two (n : Int) : ByteArray := if decide (n < 10) = true then (⟨#[48]⟩ : ByteArray) ++ fm n else fm n
theorem rp_no {c : Int} (h : c ≠ 1) : rp c = ⟨#[]⟩ := if_neg h
theorem dg4 {n : Int} (h : 2001 ≤ n) (h2 : n ≤ 4178) : dg n 4 = fm n := by
  unfold dg
  rw [fm_nn (by omega), dec4 (by omega) (by omega), rp_no (by decide)]
  exact ByteArray.empty_append
theorem dg2 {n : Int} (h : 0 ≤ n) (h2 : n ≤ 31) : dg n 2 = two n := by
  unfold dg two
  by_cases h3 : n < 10
  · rw [fm_nn h, dec1 (by omega), if_pos (decide_eq_true h3)]; rfl
  · rw [fm_nn h, dec2 (by omega) (by omega), if_neg (by rw [decide_eq_false h3]; decide), rp_no (by decide)]
    exact ByteArray.empty_append
theorem two_size {n : Int} (h : in64 n) : (two n).size ≤ 22 := by
  have := fm_size h
  unfold two
  split
  · rw [ByteArray.size_append]; show 1 + _ ≤ _; omega
  · omega
/-- the date of a day -/
def dtS (d : Int) : ByteArray := if isD d = true then (((fm (dy d) ++ (⟨#[45]⟩ : ByteArray)) ++ two (dm d)) ++ (⟨#[45]⟩ : ByteArray)) ++ two (dd d) else ⟨#[45]⟩
theorem dtS_yes {d : Int} (h : isD d = true) : dtS d = (((fm (dy d) ++ (⟨#[45]⟩ : ByteArray)) ++ two (dm d)) ++ (⟨#[45]⟩ : ByteArray)) ++ two (dd d) := if_pos h
theorem dtS_no {d : Int} (h : isD d = false) : dtS d = ⟨#[45]⟩ := if_neg (by rw [h]; decide)
theorem dtS_size (d : Int) : (dtS d).size ≤ 70 := by
  cases h : isD d with
  | false => rw [dtS_no h]; decide
  | true =>
    have h1 := dat_in h
    have h2 := fm_size (n := dy d) (by unfold in64; omega)
    have h3 := two_size (n := dm d) (by unfold in64; omega)
    have h4 := two_size (n := dd d) (by unfold in64; omega)
    rw [dtS_yes h]
    simp only [ByteArray.size_append]
    show _ + 1 + _ + 1 + _ ≤ 70
    omega
theorem isD_of_y {d : Int} (h : (dy d == 0) = false) : isD d = true := by
  cases h2 : isD d with
  | true => rfl
  | false => rw [dat_no h2] at h; cases h
theorem isD_of_n {d : Int} (h : (dy d == 0) = true) : isD d = false := by
  cases h2 : isD d with
  | false => rfl
  | true => have := dat_in h2; have := eq_of_beq h; omega

theorem rp_size (c : Int) : (rp c).size ≤ 1 := by unfold rp; split <;> decide

set_option maxHeartbeats 4000000 in
set_option maxRecDepth 100000 in
theorem dg74 (n w : Int) (hn : in64 n) (h0 : 0 ≤ w) (h1 : w ≤ 4) (h2 : w - ((fm n).size : Int) ≤ 1) : CtrK Tryd.prog KK 70 [.fl (.int .i64 n), .fl (.int .i64 w)] (.d (.fl (.string (dg n w)))) := by
  have hfs := fm_size hn
  refine ctrK (n := 16) (rs := #[.tmp 4]) (L := [(0, .d (.fl (.int .i64 n))), (1, .d (.fl (.int .i64 w)))]) Tryd.func70 rfl rfl rfl rfl rfl (fun w0 U0 hG => ?_)
  refine a_rseq ?_
  refine rg_put (d := 4) (v := .d (.fl (.string (⟨#[]⟩)))) rfl (og rfl (op_assign rfl rfl rfl)) ?_
  refine rg_done rfl ?_
  refine a_rseq ?_
  refine rg_put (d := 6) (v := .d (.fl (.int .i64 n))) rfl (og rfl (op_move rfl rfl rfl)) ?_
  refine rg_put (d := 7) (v := .d (.fl (.string (fm n)))) rfl (og rfl (op_callK kkst hG rfl Tryd.func25 nm25 rfl (.cons rfl (.d _) .nil) (fm28 n hn) rfl)) ?_
  refine rg_put (d := 5) (v := .d (.fl (.string (fm n)))) rfl (og rfl (op_assign rfl rfl rfl)) ?_
  refine rg_done rfl ?_
  refine a_rseq ?_
  refine rg_put (d := 8) (v := .d (.fl (.int .i64 w))) rfl (og rfl (op_move rfl rfl rfl)) ?_
  refine rg_put (d := 9) (v := .d (.fl (.string (fm n)))) rfl (og rfl (op_move rfl rfl rfl)) ?_
  refine rg_put (d := 10) (v := .d (.fl (.int .i64 (((fm n).size : Int))))) rfl (og rfl (op_len_str rfl Tryd.underlying9 rfl rfl)) ?_
  refine rg_put (d := 11) (v := .d (.fl (.int .i64 ((w - ((fm n).size : Int)))))) rfl (og rfl (op_bin rfl rfl rfl (fun x y w => b_sub64 _ _ _ x y w (by omega)) rfl)) ?_
  refine rg_put (d := 12) (v := .d (.fl (.int .i64 ((max ((w - ((fm n).size : Int))) 0))))) rfl (og rfl (op_max rfl rfl rfl rfl)) ?_
  refine rg_put (d := 13) (v := .d (.fl (.string ((rp ((max ((w - ((fm n).size : Int))) 0))))))) rfl (og rfl (op_call rfl Tryd.func89 nm89 rfl (.cons rfl (.d _) (.cons rfl (.d _) .nil)) (rp93 ((max ((w - ((fm n).size : Int))) 0)) (by omega)) rfl)) ?_
  refine rg_put (d := 14) (v := .d (.fl (.string (fm n)))) rfl (og rfl (op_move rfl rfl rfl)) ?_
  refine rg_put (d := 15) (v := .d (.fl (.string ((((rp ((max ((w - ((fm n).size : Int))) 0)))) ++ (fm n)))))) rfl (og rfl (op_bin rfl rfl rfl (fun ox oy ow => b_sadd _ _ _ ox oy ow (by have := rp_size (max (w - ((fm n).size : Int)) 0); omega)) rfl)) ?_
  refine rg_put (d := 4) (v := .d (.fl (.string ((((rp ((max ((w - ((fm n).size : Int))) 0)))) ++ (fm n)))))) rfl (og rfl (op_assign rfl rfl rfl)) ?_
  refine rg_done rfl ?_
  refine a_ret ?_
  show ∃ ds, ResL _ _ _ ds ∧ RV.of ds = _
  refine ⟨[.fl (.string ((((rp ((max ((w - ((fm n).size : Int))) 0)))) ++ (fm n))))], (.cons (.tmp rfl (.d _)) .nil), ?_⟩
  rfl
theorem dec_pos (u : Nat) : 1 ≤ (Lib.decDigits u).length := by
  rw [Lib.decDigits]
  split
  · simp
  · simp

set_option maxHeartbeats 4000000 in
set_option maxRecDepth 100000 in
theorem date36 (d : Int) : CtrK Tryd.prog KK 33 [.fl (.int .i64 d)] (.d (.fl (.string (dtS d)))) := by
  refine ctrK (n := 24) (rs := #[.tmp 2]) (L := [(0, .d (.fl (.int .i64 d)))]) Tryd.func33 rfl rfl rfl rfl rfl (fun w0 U0 hG => ?_)
  refine a_rseq ?_
  refine rg_put (d := 2) (v := .d (.fl (.string (⟨#[]⟩)))) rfl (og rfl (op_assign rfl rfl rfl)) ?_
  refine rg_done rfl ?_
  refine a_rseq ?_
  refine rg_put (d := 7) (v := .d (.fl (.int .i64 d))) rfl (og rfl (op_move rfl rfl rfl)) ?_
  refine rg_put (d := 8) (v := .tu [.fl (.int .i64 (dy d)), .fl (.int .i64 (dm d)), .fl (.int .i64 (dd d))]) rfl (og rfl (op_callK kkst hG rfl Tryd.func69 nm69 rfl (.cons rfl (.d _) .nil) (dt73 d) rfl)) ?_
  refine rg_put (d := 6) (v := .tu [.fl (.int .i64 (dy d)), .fl (.int .i64 (dm d)), .fl (.int .i64 (dd d))]) rfl (og rfl (op_move rfl rfl rfl)) ?_
  refine rg_put (d := 9) (v := .d (.fl (.int .i64 (dy d)))) rfl (og rfl (op_extract rfl rfl rfl rfl)) ?_
  refine rg_put (d := 10) (v := .d (.fl (.int .i64 (dm d)))) rfl (og rfl (op_extract rfl rfl rfl rfl)) ?_
  refine rg_put (d := 11) (v := .d (.fl (.int .i64 (dd d)))) rfl (og rfl (op_extract rfl rfl rfl rfl)) ?_
  refine rg_put (d := 3) (v := .d (.fl (.int .i64 (dy d)))) rfl (og rfl (op_assign rfl rfl rfl)) ?_
  refine rg_put (d := 4) (v := .d (.fl (.int .i64 (dm d)))) rfl (og rfl (op_assign rfl rfl rfl)) ?_
  refine rg_put (d := 5) (v := .d (.fl (.int .i64 (dd d)))) rfl (og rfl (op_assign rfl rfl rfl)) ?_
  refine rg_done rfl ?_
  refine a_seq ?_
  refine a_rseq ?_
  refine rg_put (d := 12) (v := .d (.fl (.int .i64 (dy d)))) rfl (og rfl (op_move rfl rfl rfl)) ?_
  refine rg_put (d := 13) (v := .d (.fl (.bool (((dy d) == 0))))) rfl (og rfl (op_bin rfl rfl rfl (b_eql _ _ _ _) rfl)) ?_
  refine rg_done rfl ?_
  refine a_cond rfl (fun h1 => ?_) (fun h1 => ?_)
  · skip
    have h2 := t_beq h1
    refine a_rseq ?_
    refine rg_put (d := 2) (v := .d (.fl (.string (⟨#[45]⟩)))) rfl (og rfl (op_assign rfl rfl rfl)) ?_
    refine rg_done rfl ?_
    refine a_ret ?_
    show ∃ ds, ResL _ _ _ ds ∧ RV.of ds = _
    refine ⟨[.fl (.string (⟨#[45]⟩))], (.cons (.tmp rfl (.d _)) .nil), ?_⟩
    rw [dtS_no (isD_of_n h1)]; rfl
  · skip
    have hdi := dat_in (isD_of_y h1)
    have z1 := fm_size (n := dy d) (by unfold in64; omega)
    have h3 := f_beq h1
    refine a_skip ?_
    show A _ _ _ _ _ _ _
    refine a_rseq ?_
    refine rg_put (d := 14) (v := .d (.fl (.int .i64 (dy d)))) rfl (og rfl (op_move rfl rfl rfl)) ?_
    refine rg_put (d := 15) (v := .d (.fl (.string ((dg (dy d) 4))))) rfl (og rfl (op_callK kkst hG rfl Tryd.func70 nm70 rfl (.cons rfl (.d _) (.cons rfl (.d _) .nil)) (dg74 (dy d) 4 (by unfold in64; omega) (by decide) (by decide) (by rw [fm_nn (by omega)]; have := dec4 (u := (dy d).natAbs) (by omega) (by omega); omega)) rfl)) ?_
    refine rg_put (d := 16) (v := .d (.fl (.string ((((dg (dy d) 4)) ++ (⟨#[45]⟩ : ByteArray)))))) rfl (og rfl (op_bin rfl rfl rfl (fun ox oy ow => b_sadd _ _ _ ox oy ow (by have s45 : (⟨#[45]⟩ : ByteArray).size = 1 := rfl; have z2 := two_size (n := dm d) (by unfold in64; omega); have z3 := two_size (n := dd d) (by unfold in64; omega); first | omega | (simp only [ByteArray.size_append, dg4 (n := dy d) (by omega) (by omega), dg2 (n := dm d) (by omega) (by omega), dg2 (n := dd d) (by omega) (by omega)]; omega))) rfl)) ?_
    refine rg_put (d := 17) (v := .d (.fl (.int .i64 (dm d)))) rfl (og rfl (op_move rfl rfl rfl)) ?_
    refine rg_put (d := 18) (v := .d (.fl (.string ((dg (dm d) 2))))) rfl (og rfl (op_callK kkst hG rfl Tryd.func70 nm70 rfl (.cons rfl (.d _) (.cons rfl (.d _) .nil)) (dg74 (dm d) 2 (by unfold in64; omega) (by decide) (by decide) (by rw [fm_nn (by omega)]; have := dec_pos (dm d).natAbs; omega)) rfl)) ?_
    refine rg_put (d := 19) (v := .d (.fl (.string ((((((dg (dy d) 4)) ++ (⟨#[45]⟩ : ByteArray))) ++ ((dg (dm d) 2))))))) rfl (og rfl (op_bin rfl rfl rfl (fun ox oy ow => b_sadd _ _ _ ox oy ow (by have s45 : (⟨#[45]⟩ : ByteArray).size = 1 := rfl; have z2 := two_size (n := dm d) (by unfold in64; omega); have z3 := two_size (n := dd d) (by unfold in64; omega); first | omega | (simp only [ByteArray.size_append, dg4 (n := dy d) (by omega) (by omega), dg2 (n := dm d) (by omega) (by omega), dg2 (n := dd d) (by omega) (by omega)]; omega))) rfl)) ?_
    refine rg_put (d := 20) (v := .d (.fl (.string ((((((((dg (dy d) 4)) ++ (⟨#[45]⟩ : ByteArray))) ++ ((dg (dm d) 2)))) ++ (⟨#[45]⟩ : ByteArray)))))) rfl (og rfl (op_bin rfl rfl rfl (fun ox oy ow => b_sadd _ _ _ ox oy ow (by have s45 : (⟨#[45]⟩ : ByteArray).size = 1 := rfl; have z2 := two_size (n := dm d) (by unfold in64; omega); have z3 := two_size (n := dd d) (by unfold in64; omega); first | omega | (simp only [ByteArray.size_append, dg4 (n := dy d) (by omega) (by omega), dg2 (n := dm d) (by omega) (by omega), dg2 (n := dd d) (by omega) (by omega)]; omega))) rfl)) ?_
    refine rg_put (d := 21) (v := .d (.fl (.int .i64 (dd d)))) rfl (og rfl (op_move rfl rfl rfl)) ?_
    refine rg_put (d := 22) (v := .d (.fl (.string ((dg (dd d) 2))))) rfl (og rfl (op_callK kkst hG rfl Tryd.func70 nm70 rfl (.cons rfl (.d _) (.cons rfl (.d _) .nil)) (dg74 (dd d) 2 (by unfold in64; omega) (by decide) (by decide) (by rw [fm_nn (by omega)]; have := dec_pos (dd d).natAbs; omega)) rfl)) ?_
    refine rg_put (d := 23) (v := .d (.fl (.string ((((((((((dg (dy d) 4)) ++ (⟨#[45]⟩ : ByteArray))) ++ ((dg (dm d) 2)))) ++ (⟨#[45]⟩ : ByteArray))) ++ ((dg (dd d) 2))))))) rfl (og rfl (op_bin rfl rfl rfl (fun ox oy ow => b_sadd _ _ _ ox oy ow (by have s45 : (⟨#[45]⟩ : ByteArray).size = 1 := rfl; have z2 := two_size (n := dm d) (by unfold in64; omega); have z3 := two_size (n := dd d) (by unfold in64; omega); first | omega | (simp only [ByteArray.size_append, dg4 (n := dy d) (by omega) (by omega), dg2 (n := dm d) (by omega) (by omega), dg2 (n := dd d) (by omega) (by omega)]; omega))) rfl)) ?_
    refine rg_put (d := 2) (v := .d (.fl (.string ((((((((((dg (dy d) 4)) ++ (⟨#[45]⟩ : ByteArray))) ++ ((dg (dm d) 2)))) ++ (⟨#[45]⟩ : ByteArray))) ++ ((dg (dd d) 2))))))) rfl (og rfl (op_assign rfl rfl rfl)) ?_
    refine rg_done rfl ?_
    refine a_ret ?_
    show ∃ ds, ResL _ _ _ ds ∧ RV.of ds = _
    refine ⟨[.fl (.string ((((((((((dg (dy d) 4)) ++ (⟨#[45]⟩ : ByteArray))) ++ ((dg (dm d) 2)))) ++ (⟨#[45]⟩ : ByteArray))) ++ ((dg (dd d) 2)))))], (.cons (.tmp rfl (.d _)) .nil), ?_⟩
    rw [dtS_yes (isD_of_y h1), ← dg4 (n := dy d) (by omega) (by omega), ← dg2 (n := dm d) (by omega) (by omega), ← dg2 (n := dd d) (by omega) (by omega)]; rfl
set_option maxHeartbeats 4000000 in
set_option maxRecDepth 100000 in
theorem two77 (n : Int) (hn : in64 n) : Ctr Tryd.prog 73 [.fl (.int .i64 n)] (.d (.fl (.string (two n)))) := by
  have hfs := fm_size hn
  refine ctr (n := 10) (rs := #[.tmp 2]) (L := [(0, .d (.fl (.int .i64 n)))]) Tryd.func73 rfl rfl rfl rfl rfl (fun w0 U0 => ?_)
  refine a_rseq ?_
  refine rg_put (d := 2) (v := .d (.fl (.string (⟨#[]⟩)))) rfl (og rfl (op_assign rfl rfl rfl)) ?_
  refine rg_done rfl ?_
  refine a_seq ?_
  refine a_rseq ?_
  refine rg_put (d := 3) (v := .d (.fl (.int .i64 n))) rfl (og rfl (op_move rfl rfl rfl)) ?_
  refine rg_put (d := 4) (v := .d (.fl (.bool ((decide (n < 10)))))) rfl (og rfl (op_bin rfl rfl rfl (b_lss _ _ _ _) rfl)) ?_
  refine rg_done rfl ?_
  refine a_cond rfl (fun h1 => ?_) (fun h1 => ?_)
  · skip
    have h2 := t_dec h1
    refine a_rseq ?_
    refine rg_put (d := 5) (v := .d (.fl (.int .i64 n))) rfl (og rfl (op_move rfl rfl rfl)) ?_
    refine rg_put (d := 6) (v := .d (.fl (.string (fm n)))) rfl (og rfl (op_call rfl Tryd.func30 nm30 rfl (.cons rfl (.d _) .nil) (fm33 n hn) rfl)) ?_
    refine rg_put (d := 7) (v := .d (.fl (.string (((⟨#[48]⟩ : ByteArray) ++ (fm n)))))) rfl (og rfl (op_bin rfl rfl rfl (fun ox oy ow => b_sadd _ _ _ ox oy ow (by have s48 : (⟨#[48]⟩ : ByteArray).size = 1 := rfl; omega)) rfl)) ?_
    refine rg_put (d := 2) (v := .d (.fl (.string (((⟨#[48]⟩ : ByteArray) ++ (fm n)))))) rfl (og rfl (op_assign rfl rfl rfl)) ?_
    refine rg_done rfl ?_
    refine a_ret ?_
    show ∃ ds, ResL _ _ _ ds ∧ RV.of ds = _
    refine ⟨[.fl (.string (((⟨#[48]⟩ : ByteArray) ++ (fm n))))], (.cons (.tmp rfl (.d _)) .nil), ?_⟩
    have hu : two n = (⟨#[48]⟩ : ByteArray) ++ fm n := by unfold two; simp only [h1]; rfl
    rw [hu]; rfl
  · skip
    have h3 := f_dec h1
    refine a_skip ?_
    show A _ _ _ _ _ _ _
    refine a_rseq ?_
    refine rg_put (d := 8) (v := .d (.fl (.int .i64 n))) rfl (og rfl (op_move rfl rfl rfl)) ?_
    refine rg_put (d := 9) (v := .d (.fl (.string (fm n)))) rfl (og rfl (op_call rfl Tryd.func30 nm30 rfl (.cons rfl (.d _) .nil) (fm33 n hn) rfl)) ?_
    refine rg_put (d := 2) (v := .d (.fl (.string (fm n)))) rfl (og rfl (op_assign rfl rfl rfl)) ?_
    refine rg_done rfl ?_
    refine a_ret ?_
    show ∃ ds, ResL _ _ _ ds ∧ RV.of ds = _
    refine ⟨[.fl (.string (fm n))], (.cons (.tmp rfl (.d _)) .nil), ?_⟩
    have hu : two n = fm n := by unfold two; simp only [h1]; rfl
    rw [hu]; rfl
set_option maxHeartbeats 4000000 in
set_option maxRecDepth 100000 in
theorem date40 (d : Int) : Ctr Tryd.prog 37 [.fl (.int .i64 d)] (.d (.fl (.string (dtS d)))) := by
  refine ctr (n := 25) (rs := #[.tmp 2]) (L := [(0, .d (.fl (.int .i64 d)))]) Tryd.func37 rfl rfl rfl rfl rfl (fun w0 U0 => ?_)
  refine a_rseq ?_
  refine rg_put (d := 2) (v := .d (.fl (.string (⟨#[]⟩)))) rfl (og rfl (op_assign rfl rfl rfl)) ?_
  refine rg_done rfl ?_
  refine a_seq ?_
  refine a_rseq ?_
  refine rg_put (d := 6) (v := .d (.fl (.int .i64 d))) rfl (og rfl (op_move rfl rfl rfl)) ?_
  refine rg_put (d := 7) (v := .d (.fl (.bool (isD d)))) rfl (og rfl (op_call rfl Tryd.func36 nm36 rfl (.cons rfl (.d _) .nil) (isD39 d) rfl)) ?_
  refine rg_put (d := 8) (v := .d (.fl (.bool ((!(isD d)))))) rfl (og rfl (op_un rfl rfl (u_not _) rfl)) ?_
  refine rg_done rfl ?_
  refine a_cond rfl (fun h1 => ?_) (fun h1 => ?_)
  · skip
    have h2 := t_not h1
    refine a_rseq ?_
    refine rg_put (d := 2) (v := .d (.fl (.string (⟨#[45]⟩)))) rfl (og rfl (op_assign rfl rfl rfl)) ?_
    refine rg_done rfl ?_
    refine a_ret ?_
    show ∃ ds, ResL _ _ _ ds ∧ RV.of ds = _
    refine ⟨[.fl (.string (⟨#[45]⟩))], (.cons (.tmp rfl (.d _)) .nil), ?_⟩
    rw [dtS_no h2]; rfl
  · skip
    have h3 := f_not h1
    have hdi := dat_in h3
    have z1 := fm_size (n := dy d) (by unfold in64; omega)
    refine a_skip ?_
    show A _ _ _ _ _ _ _
    refine a_rseq ?_
    refine rg_put (d := 10) (v := .d (.fl (.int .i64 d))) rfl (og rfl (op_move rfl rfl rfl)) ?_
    refine rg_put (d := 11) (v := .tu [.fl (.int .i64 (dy d)), .fl (.int .i64 (dm d)), .fl (.int .i64 (dd d))]) rfl (og rfl (op_call rfl Tryd.func72 nm72 rfl (.cons rfl (.d _) .nil) (dt76 d) rfl)) ?_
    refine rg_put (d := 9) (v := .tu [.fl (.int .i64 (dy d)), .fl (.int .i64 (dm d)), .fl (.int .i64 (dd d))]) rfl (og rfl (op_move rfl rfl rfl)) ?_
    refine rg_put (d := 12) (v := .d (.fl (.int .i64 (dy d)))) rfl (og rfl (op_extract rfl rfl rfl rfl)) ?_
    refine rg_put (d := 13) (v := .d (.fl (.int .i64 (dm d)))) rfl (og rfl (op_extract rfl rfl rfl rfl)) ?_
    refine rg_put (d := 14) (v := .d (.fl (.int .i64 (dd d)))) rfl (og rfl (op_extract rfl rfl rfl rfl)) ?_
    refine rg_put (d := 3) (v := .d (.fl (.int .i64 (dy d)))) rfl (og rfl (op_assign rfl rfl rfl)) ?_
    refine rg_put (d := 4) (v := .d (.fl (.int .i64 (dm d)))) rfl (og rfl (op_assign rfl rfl rfl)) ?_
    refine rg_put (d := 5) (v := .d (.fl (.int .i64 (dd d)))) rfl (og rfl (op_assign rfl rfl rfl)) ?_
    refine rg_done rfl ?_
    refine a_rseq ?_
    refine rg_put (d := 15) (v := .d (.fl (.int .i64 (dy d)))) rfl (og rfl (op_move rfl rfl rfl)) ?_
    refine rg_put (d := 16) (v := .d (.fl (.string ((fm (dy d)))))) rfl (og rfl (op_call rfl Tryd.func30 nm30 rfl (.cons rfl (.d _) .nil) (fm33 (dy d) (by unfold in64; omega)) rfl)) ?_
    refine rg_put (d := 17) (v := .d (.fl (.string ((((fm (dy d))) ++ (⟨#[45]⟩ : ByteArray)))))) rfl (og rfl (op_bin rfl rfl rfl (fun ox oy ow => b_sadd _ _ _ ox oy ow (by have s45 : (⟨#[45]⟩ : ByteArray).size = 1 := rfl; have z2 := two_size (n := dm d) (by unfold in64; omega); have z3 := two_size (n := dd d) (by unfold in64; omega); first | omega | (simp only [ByteArray.size_append]; omega))) rfl)) ?_
    refine rg_put (d := 18) (v := .d (.fl (.int .i64 (dm d)))) rfl (og rfl (op_move rfl rfl rfl)) ?_
    refine rg_put (d := 19) (v := .d (.fl (.string ((two (dm d)))))) rfl (og rfl (op_call rfl Tryd.func73 nm73 rfl (.cons rfl (.d _) .nil) (two77 (dm d) (by unfold in64; omega)) rfl)) ?_
    refine rg_put (d := 20) (v := .d (.fl (.string ((((((fm (dy d))) ++ (⟨#[45]⟩ : ByteArray))) ++ ((two (dm d)))))))) rfl (og rfl (op_bin rfl rfl rfl (fun ox oy ow => b_sadd _ _ _ ox oy ow (by have s45 : (⟨#[45]⟩ : ByteArray).size = 1 := rfl; have z2 := two_size (n := dm d) (by unfold in64; omega); have z3 := two_size (n := dd d) (by unfold in64; omega); first | omega | (simp only [ByteArray.size_append]; omega))) rfl)) ?_
    refine rg_put (d := 21) (v := .d (.fl (.string ((((((((fm (dy d))) ++ (⟨#[45]⟩ : ByteArray))) ++ ((two (dm d))))) ++ (⟨#[45]⟩ : ByteArray)))))) rfl (og rfl (op_bin rfl rfl rfl (fun ox oy ow => b_sadd _ _ _ ox oy ow (by have s45 : (⟨#[45]⟩ : ByteArray).size = 1 := rfl; have z2 := two_size (n := dm d) (by unfold in64; omega); have z3 := two_size (n := dd d) (by unfold in64; omega); first | omega | (simp only [ByteArray.size_append]; omega))) rfl)) ?_
    refine rg_put (d := 22) (v := .d (.fl (.int .i64 (dd d)))) rfl (og rfl (op_move rfl rfl rfl)) ?_
    refine rg_put (d := 23) (v := .d (.fl (.string ((two (dd d)))))) rfl (og rfl (op_call rfl Tryd.func73 nm73 rfl (.cons rfl (.d _) .nil) (two77 (dd d) (by unfold in64; omega)) rfl)) ?_
    refine rg_put (d := 24) (v := .d (.fl (.string ((((((((((fm (dy d))) ++ (⟨#[45]⟩ : ByteArray))) ++ ((two (dm d))))) ++ (⟨#[45]⟩ : ByteArray))) ++ ((two (dd d)))))))) rfl (og rfl (op_bin rfl rfl rfl (fun ox oy ow => b_sadd _ _ _ ox oy ow (by have s45 : (⟨#[45]⟩ : ByteArray).size = 1 := rfl; have z2 := two_size (n := dm d) (by unfold in64; omega); have z3 := two_size (n := dd d) (by unfold in64; omega); first | omega | (simp only [ByteArray.size_append]; omega))) rfl)) ?_
    refine rg_put (d := 2) (v := .d (.fl (.string ((((((((((fm (dy d))) ++ (⟨#[45]⟩ : ByteArray))) ++ ((two (dm d))))) ++ (⟨#[45]⟩ : ByteArray))) ++ ((two (dd d)))))))) rfl (og rfl (op_assign rfl rfl rfl)) ?_
    refine rg_done rfl ?_
    refine a_ret ?_
    show ∃ ds, ResL _ _ _ ds ∧ RV.of ds = _
    refine ⟨[.fl (.string ((((((((((fm (dy d))) ++ (⟨#[45]⟩ : ByteArray))) ++ ((two (dm d))))) ++ (⟨#[45]⟩ : ByteArray))) ++ ((two (dd d))))))], (.cons (.tmp rfl (.d _)) .nil), ?_⟩
    rw [dtS_yes h3]; rfl
end Go.Proofs.YtglhonnmppclpaaDoor.Wk
