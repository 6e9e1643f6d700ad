/- The prices without the rates of a band. No condition. -/
import Derived.Test.YtgcagigpolnjfaaB5
import Derived.Test.YtgcagigpolnjfaaAv43
set_option linter.unusedSimpArgs false
set_option linter.unusedVariables false
namespace Go.Proofs.Ytgcagigpolnjfaa.Wk
open Go Go.RowKit Go.Proofs.Ytgcagigpolnjfaa.Av
theorem dummy7 : True := trivial

def qB (r : Rt) : Bool := !(sEq r.band ⟨#[]⟩)
def ft (x : Ta) (a : Ask) (r : Rt) : Bool := ((sEq r.fr a.fr && sEq r.to a.to) && (r.cls == a.cls)) && (sEq r.band ⟨#[]⟩ || sEq r.band (bnd x.bands a.time))
def le (x : Ta) (k : Nat) : List Rt := (x.rates.take k).filter qB
def lss (x : Ta) (k : Nat) : Ta := Ta.mk x.val x.bands (le x k)
def sp (x : Ta) (a : Ask) (k : Nat) : Bool := (x.rates.take k).any fun r => qB r && ft x a r
def fo (x : Ta) (a : Ask) (k : Nat) : Bool := ((rte x a.fr a.to a.cls a.time).2 == 22) || (x.rates.take k).any fun r => ft x a r && (r.cents == (rte x a.fr a.to a.cls a.time).1)
theorem le_yes {x : Ta} {k : Nat} (h : k < x.rates.length) (hq : sEq (ix x.rates k).band ⟨#[]⟩ = false) : le x k ++ [ix x.rates k] = le x (k + 1) := by
  unfold le
  rw [take_ix h, List.filter_append]
  simp [qB, hq]
theorem le_no {x : Ta} {k : Nat} (h : k < x.rates.length) (hq : sEq (ix x.rates k).band ⟨#[]⟩ = true) : le x k = le x (k + 1) := by
  unfold le
  rw [take_ix h, List.filter_append]
  simp [qB, hq]
theorem sp_succ {x : Ta} {a : Ask} {k : Nat} (h : k < x.rates.length) : sp x a (k + 1) = (sp x a k || (!(sEq (ix x.rates k).band ⟨#[]⟩) && ft x a (ix x.rates k))) := by
  unfold sp
  rw [take_ix h, List.any_append]
  simp [qB]
theorem fo_succ {x : Ta} {a : Ask} {k : Nat} (h : k < x.rates.length) : fo x a (k + 1) = (fo x a k || (ft x a (ix x.rates k) && ((ix x.rates k).cents == (rte x a.fr a.to a.cls a.time).1))) := by
  unfold fo
  rw [take_ix h, List.any_append]
  simp [Bool.or_assoc]
theorem fit_eq (r : Rt) (fr to : ByteArray) (c : Int) (b : ByteArray) : fit r fr to c b = (((sEq r.fr fr && sEq r.to to) && (r.cls == c)) && sEq r.band b) := by
  show (((((sEq r.fr fr && sEq r.to to) && (r.cls == c)) && sEq r.band b) && ((0 : Int) == 0))) = _
  simp
theorem ft_fit (x : Ta) (a : Ask) (r : Rt) : ft x a r = (fit r a.fr a.to a.cls ⟨#[]⟩ || fit r a.fr a.to a.cls (bnd x.bands a.time)) := by
  unfold ft
  rw [fit_eq, fit_eq]
  cases (sEq r.fr a.fr && sEq r.to a.to) && (r.cls == a.cls) <;> rfl
theorem fit_band {r : Rt} {fr to : ByteArray} {c : Int} {b : ByteArray} (h : fit r fr to c b = true) : r.band = b := by
  rw [fit_eq] at h
  simp only [Bool.and_eq_true] at h
  exact of_decide_eq_true h.2
theorem ft_code {x : Ta} {a : Ask} (r : Rt) (h : ft x a r = true) (hr : r ∈ x.rates) : ((rte x a.fr a.to a.cls a.time).2 == 22) = false := by
  rw [ft_fit] at h
  unfold rte
  cases h1 : x.rates.find? (fun r => fit r a.fr a.to a.cls (bnd x.bands a.time)) with
  | some r0 => rfl
  | none =>
    cases h2 : x.rates.find? (fun r => fit r a.fr a.to a.cls ⟨#[]⟩) with
    | some r0 => rfl
    | none =>
      rw [List.find?_eq_none] at h1 h2
      rcases Bool.or_eq_true_iff.1 h with h | h
      · exact absurd h (h2 r hr)
      · exact absurd h (h1 r hr)
theorem fo_all (x : Ta) (a : Ask) : fo x a x.rates.length = true := by
  unfold fo
  rw [List.take_length]
  have key : ∀ r ∈ x.rates, ft x a r = true → rte x a.fr a.to a.cls a.time = (r.cents, 0) → (((rte x a.fr a.to a.cls a.time).2 == 22) || x.rates.any fun r => ft x a r && (r.cents == (rte x a.fr a.to a.cls a.time).1)) = true := fun r hr h1 h2 => by
    rw [h2, List.any_eq_true.2 ⟨r, hr, by rw [h1]; simp⟩]; simp
  cases h1 : x.rates.find? (fun r => fit r a.fr a.to a.cls (bnd x.bands a.time)) with
  | some r0 =>
    refine key r0 (List.mem_of_find?_eq_some h1) ?_ (by unfold rte; rw [h1])
    have := List.find?_some h1
    rw [ft_fit, this, Bool.or_true]
  | none =>
    cases h2 : x.rates.find? (fun r => fit r a.fr a.to a.cls ⟨#[]⟩) with
    | some r0 =>
      refine key r0 (List.mem_of_find?_eq_some h2) ?_ (by unfold rte; rw [h1, h2])
      have := List.find?_some h2
      rw [ft_fit, this, Bool.true_or]
    | none =>
      rw [show rte x a.fr a.to a.cls a.time = (0, 22) by unfold rte; rw [h1, h2]]; rfl
theorem sp_yes {x : Ta} {a : Ask} {k : Nat} (hk : k = x.rates.length) (h : sp x a k = true) : rte (lss x k) a.fr a.to a.cls a.time = ((rte x a.fr a.to a.cls a.time).1, 0) ∧ (rte x a.fr a.to a.cls a.time).2 = 0 := by
  subst hk
  unfold sp at h
  rw [List.take_length, List.any_eq_true] at h
  obtain ⟨r, hr, h⟩ := h
  simp only [Bool.and_eq_true] at h
  obtain ⟨hq, hf⟩ := h
  rw [ft_fit] at hf
  have hqb : sEq r.band ⟨#[]⟩ = false := by unfold qB at hq; simpa using hq
  have hb : fit r a.fr a.to a.cls (bnd x.bands a.time) = true := by
    rcases Bool.or_eq_true_iff.1 hf with h | h
    · have := fit_band h; rw [this] at hqb; exact absurd hqb (by simp [sEq])
    · exact h
  have hbn := fit_band hb
  rw [hbn] at hqb
  have hfun : (fun r : Rt => decide (qB r = true ∧ fit r a.fr a.to a.cls (bnd x.bands a.time) = true)) = fun r => fit r a.fr a.to a.cls (bnd x.bands a.time) := by
    funext r'
    cases hf' : fit r' a.fr a.to a.cls (bnd x.bands a.time) with
    | false => simp
    | true => have := fit_band hf'; unfold qB; rw [this, hqb]; simp
  have hfl : (lss x x.rates.length).rates.find? (fun r => fit r a.fr a.to a.cls (bnd (lss x x.rates.length).bands a.time)) = x.rates.find? (fun r => fit r a.fr a.to a.cls (bnd x.bands a.time)) := by
    show ((x.rates.take x.rates.length).filter qB).find? (fun r => fit r a.fr a.to a.cls (bnd x.bands a.time)) = _
    rw [List.take_length, List.find?_filter, hfun]
  unfold rte
  rw [hfl]
  cases h1 : x.rates.find? (fun r => fit r a.fr a.to a.cls (bnd x.bands a.time)) with
  | some r0 => exact ⟨rfl, rfl⟩
  | none => rw [List.find?_eq_none] at h1; exact absurd hb (h1 r hr)
theorem sp_no {x : Ta} {a : Ask} {k : Nat} (hk : k = x.rates.length) (h : sp x a k = false) : rte (lss x k) a.fr a.to a.cls a.time = (0, 22) := by
  subst hk
  unfold sp at h
  rw [List.take_length, List.any_eq_false] at h
  have hm : ∀ r ∈ (lss x x.rates.length).rates, r ∈ x.rates ∧ qB r = true := fun r hr => by
    have hr : r ∈ (x.rates.take x.rates.length).filter qB := hr
    rw [List.take_length] at hr
    exact List.mem_filter.1 hr
  have n1 : (lss x x.rates.length).rates.find? (fun r => fit r a.fr a.to a.cls (bnd (lss x x.rates.length).bands a.time)) = none := by
    rw [List.find?_eq_none]
    intro r hr hf
    obtain ⟨m1, m2⟩ := hm r hr
    have hf : fit r a.fr a.to a.cls (bnd x.bands a.time) = true := hf
    exact h r m1 (by rw [m2, ft_fit, hf]; simp)
  have n2 : (lss x x.rates.length).rates.find? (fun r => fit r a.fr a.to a.cls ⟨#[]⟩) = none := by
    rw [List.find?_eq_none]
    intro r hr hf
    obtain ⟨m1, m2⟩ := hm r hr
    have := fit_band hf
    unfold qB at m2
    rw [this] at m2
    exact absurd m2 (by simp [sEq])
  unfold rte
  rw [n1, n2]
theorem le_len (x : Ta) (k : Nat) : (le x k).length ≤ x.rates.length := by
  unfold le
  have := List.length_filter_le qB (x.rates.take k)
  simp only [List.length_take] at this
  omega
theorem rateS {x : Ta} {a : Ask} {k : Nat} (hb : x.bands.length ≤ 1000) (hr : x.rates.length ≤ 1000) (hk : k = x.rates.length) (h : sp x a k = true) : Ctr Try.prog 14 [.ag (eTa (lss x k)), .fl (.string a.fr), .fl (.string a.to), .fl (.int .i64 a.cls), .fl (.int .i64 a.time)] (.tu [.fl (.int .i64 (rte x a.fr a.to a.cls a.time).1), .fl (.int .i64 0)]) := by
  have := rate14 (lss x k) a.fr a.to a.cls a.time hb (by have := le_len x k; show (le x k).length ≤ 1000; omega)
  rw [(sp_yes hk h).1] at this; exact this
theorem rateN {x : Ta} {a : Ask} {k : Nat} (hb : x.bands.length ≤ 1000) (hr : x.rates.length ≤ 1000) (hk : k = x.rates.length) (h : sp x a k = false) : Ctr Try.prog 14 [.ag (eTa (lss x k)), .fl (.string a.fr), .fl (.string a.to), .fl (.int .i64 a.cls), .fl (.int .i64 a.time)] (.tu [.fl (.int .i64 0), .fl (.int .i64 22)]) := by
  have := rate14 (lss x k) a.fr a.to a.cls a.time hb (by have := le_len x k; show (le x k).length ≤ 1000; omega)
  rw [sp_no hk h] at this; exact this

set_option maxHeartbeats 4000000 in
set_option maxRecDepth 100000 in
theorem law5 (x : Ta) (a : Ask) : Ctr Try.prog 5 [.ag (eTa x), .ag (eAsk a)] (.d (.fl (.bool true))) := by
  refine ctr (n := 156) (rs := #[.tmp 4]) (L := [(0, .d (.ag (eTa x))), (1, .d (.ag (eAsk a)))]) Try.func5 rfl rfl rfl rfl rfl (fun w0 U0 => ?_)
  refine a_rseq ?_
  refine rg_nam (d := 2) (v := .pt 101 0) (m := 101) (nw := [(101, .bx 28 (eTa x))]) rfl (og rfl (of_eff (op_box 101 rfl rfl rfl rfl) rfl)) rfl ?_
  refine rg_nam (d := 3) (v := .pt 102 0) (m := 102) (nw := [(102, .bx 42 (eAsk a))]) rfl (og rfl (of_eff (op_box 102 rfl rfl rfl rfl) rfl)) rfl ?_
  refine rg_put (d := 4) (v := .d (.fl (.bool false))) rfl (og rfl (op_assign rfl rfl rfl)) ?_
  refine rg_done rfl ?_
  refine a_seq ?_
  refine a_rseq ?_
  refine rg_put (d := 16) (v := .d (.ag (eTa x))) rfl (og rfl (of_eff (s_load_pts rfl Try.underlying28 rfl ti28 rfl rfl rfl rfl) rfl)) ?_
  refine rg_put (d := 17) (v := .d (.fl (.bool (shortB x)))) rfl (og rfl (op_call rfl Try.func7 nm7 rfl (.cons rfl (.d _) .nil) (short7 x) rfl)) ?_
  refine rg_put (d := 18) (v := .d (.fl (.bool ((!(shortB x)))))) rfl (og rfl (op_un rfl rfl (u_not _) rfl)) ?_
  refine rg_done rfl ?_
  refine a_cond rfl (fun h1 => ?_) (fun h1 => ?_)
  · skip
    have h2 := t_not h1
    refine a_rseq ?_
    refine rg_put (d := 4) (v := .d (.fl (.bool true))) rfl (og rfl (op_assign rfl rfl rfl)) ?_
    refine rg_done rfl ?_
    refine a_ret ?_
    show ∃ ds, ResL _ _ _ ds ∧ RV.of ds = _
    refine ⟨[.fl (.bool true)], (.cons (.tmp rfl (.d _)) .nil), ?_⟩
    rfl
  · skip
    have h3 := f_not h1
    refine a_skip ?_
    show A _ _ _ _ _ _ _
    refine a_rseq ?_
    have hs := short_len h3
    refine rg_put (d := 20) (v := .d (.ag (eTa x))) rfl (og rfl (of_eff (s_load_pts rfl Try.underlying28 rfl ti28 rfl rfl rfl rfl) rfl)) ?_
    refine rg_put (d := 21) (v := .pt 102 0) rfl (og rfl (of_eff (s_field_pt rfl Try.underlying42 rfl ti9 rfl rfl rfl) rfl)) ?_
    refine rg_put (d := 22) (v := .d (.fl (.string a.fr))) rfl (og rfl (op_load_pt rfl Try.underlying9 rfl rfl rfl rfl rfl)) ?_
    refine rg_put (d := 23) (v := .pt 102 1) rfl (og rfl (of_eff (s_field_pt rfl Try.underlying42 rfl ti9 rfl rfl rfl) rfl)) ?_
    refine rg_put (d := 24) (v := .d (.fl (.string a.to))) rfl (og rfl (op_load_pt rfl Try.underlying9 rfl rfl rfl rfl rfl)) ?_
    refine rg_put (d := 25) (v := .pt 102 2) rfl (og rfl (of_eff (s_field_pt rfl Try.underlying42 rfl ti3 rfl rfl rfl) rfl)) ?_
    refine rg_put (d := 26) (v := .d (.fl (.int .i64 a.cls))) rfl (og rfl (op_load_pt rfl Try.underlying3 rfl rfl rfl rfl rfl)) ?_
    refine rg_put (d := 27) (v := .pt 102 3) rfl (og rfl (of_eff (s_field_pt rfl Try.underlying42 rfl ti3 rfl rfl rfl) rfl)) ?_
    refine rg_put (d := 28) (v := .d (.fl (.int .i64 a.time))) rfl (og rfl (op_load_pt rfl Try.underlying3 rfl rfl rfl rfl rfl)) ?_
    refine rg_put (d := 29) (v := .tu [.fl (.int .i64 ((rte x a.fr a.to a.cls a.time).1)), .fl (.int .i64 ((rte x a.fr a.to a.cls a.time).2))]) rfl (og rfl (op_call rfl Try.func14 nm14 rfl (.cons rfl (.d _) (.cons rfl (.d _) (.cons rfl (.d _) (.cons rfl (.d _) (.cons rfl (.d _) .nil))))) (rate14 x a.fr a.to a.cls a.time (by omega) (by omega)) rfl)) ?_
    refine rg_put (d := 19) (v := .tu [.fl (.int .i64 ((rte x a.fr a.to a.cls a.time).1)), .fl (.int .i64 ((rte x a.fr a.to a.cls a.time).2))]) rfl (og rfl (op_move rfl rfl rfl)) ?_
    refine rg_put (d := 30) (v := .d (.fl (.int .i64 ((rte x a.fr a.to a.cls a.time).1)))) rfl (og rfl (op_extract rfl rfl rfl rfl)) ?_
    refine rg_put (d := 31) (v := .d (.fl (.int .i64 ((rte x a.fr a.to a.cls a.time).2)))) rfl (og rfl (op_extract rfl rfl rfl rfl)) ?_
    refine rg_put (d := 5) (v := .d (.fl (.int .i64 ((rte x a.fr a.to a.cls a.time).1)))) rfl (og rfl (op_assign rfl rfl rfl)) ?_
    refine rg_put (d := 6) (v := .d (.fl (.int .i64 ((rte x a.fr a.to a.cls a.time).2)))) rfl (og rfl (op_assign rfl rfl rfl)) ?_
    refine rg_done rfl ?_
    refine a_rseq ?_
    refine rg_put (d := 32) (v := .d (.fl (.int .i64 ((rte x a.fr a.to a.cls a.time).2)))) rfl (og rfl (op_move rfl rfl rfl)) ?_
    refine rg_put (d := 33) (v := .d (.fl (.bool (((rte x a.fr a.to a.cls a.time).2 == 22))))) rfl (og rfl (op_bin rfl rfl rfl (b_eql _ _ _ _) rfl)) ?_
    refine rg_put (d := 7) (v := .d (.fl (.bool (((rte x a.fr a.to a.cls a.time).2 == 22))))) rfl (og rfl (op_assign rfl rfl rfl)) ?_
    refine rg_done rfl ?_
    refine a_rseq ?_
    refine rg_put (d := 34) (v := .d (.ag (eTa x))) rfl (og rfl (of_eff (s_load_pts rfl Try.underlying28 rfl ti28 rfl rfl rfl rfl) rfl)) ?_
    refine rg_put (d := 35) (v := .pt 102 3) rfl (og rfl (of_eff (s_field_pt rfl Try.underlying42 rfl ti3 rfl rfl rfl) rfl)) ?_
    refine rg_put (d := 36) (v := .d (.fl (.int .i64 a.time))) rfl (og rfl (op_load_pt rfl Try.underlying3 rfl rfl rfl rfl rfl)) ?_
    refine rg_put (d := 37) (v := .d (.fl (.string (bnd x.bands a.time)))) rfl (og rfl (op_call rfl Try.func11 nm11 rfl (.cons rfl (.d _) (.cons rfl (.d _) .nil)) (band11 x a.time (by omega)) rfl)) ?_
    refine rg_put (d := 8) (v := .d (.fl (.string (bnd x.bands a.time)))) rfl (og rfl (op_assign rfl rfl rfl)) ?_
    refine rg_done rfl ?_
    refine a_rseq ?_
    refine rg_put (d := 38) (v := .pt 101 0) rfl (og rfl (of_eff (s_field_pt rfl Try.underlying28 rfl ti24 rfl rfl rfl) rfl)) ?_
    refine rg_put (d := 39) (v := .d (.ag (eIv x.val))) rfl (og rfl (of_eff (s_load_pts rfl Try.underlying24 rfl ti24 rfl rfl rfl rfl) rfl)) ?_
    refine rg_put (d := 40) (v := .pt 101 2) rfl (og rfl (of_eff (s_field_pt rfl Try.underlying28 rfl ti25 rfl rfl rfl) rfl)) ?_
    refine rg_put (d := 41) (v := .d (.sl 4 (List.map eBd x.bands))) rfl (og rfl (op_load_pt rfl Try.underlying25 rfl rfl rfl rfl rfl)) ?_
    refine rg_put (d := 42) (v := .d (.ag [.fl (.int .i64 x.val.fr), .fl (.int .i64 x.val.to), .sl 4 (List.map eBd x.bands), .fl (.slice none 0 0)])) rfl (og rfl (of_eff (op_build rfl Try.underlying28 ti28 rfl (by kernel_rfl) (by kernel_rfl) (pl := #[(0, 2), (2, 1), (3, 1)]) (by kernel_rfl) (.cons rfl rfl (.d _) rfl rfl rfl (.cons rfl rfl (.d _) rfl rfl rfl .nil)) rfl) rfl)) ?_
    refine rg_nam (d := 9) (v := .pt 103 0) (m := 103) (nw := [(103, .bx 28 [.fl (.int .i64 0), .fl (.int .i64 0), .fl (.slice none 0 0), .fl (.slice none 0 0)])]) rfl (og rfl (of_eff (s_alloc 103 rfl ti28 (by kernel_rfl) rfl) rfl)) rfl ?_
    refine rg_sto (nw := [(103, .bx 28 [.fl (.int .i64 x.val.fr), .fl (.int .i64 x.val.to), .sl 4 (List.map eBd x.bands), .fl (.slice none 0 0)])]) rfl (og rfl (of_eff (s_store rfl rfl ti28 rfl rfl rfl rfl rfl rfl) rfl)) ?_
    refine rg_done rfl ?_
    refine a_rseq ?_
    refine rg_imp (imp_bt 103 rfl) ?_
    refine rg_imp (imp_btnil 103 3 46 5 rfl rfl) ?_
    refine rg_put (d := 10) (v := .d (.fl (.bool false))) rfl (og rfl (op_assign rfl rfl rfl)) ?_
    refine rg_done rfl ?_
    refine a_seq ?_
    refine a_rseq ?_
    refine rg_put (d := 11) (v := .d (.fl (.int .i64 0))) rfl (og rfl (op_assign rfl rfl rfl)) ?_
    refine rg_done rfl ?_
    refine a_block ?_
    refine a_loop (ι := Nat) (fun k => SS [(0, .d (.ag (eTa x))), (1, .d (.ag (eAsk a))), (2, .pt 101 0), (3, .pt 102 0), (5, .d (.fl (.int .i64 ((rte x a.fr a.to a.cls a.time).1)))), (6, .d (.fl (.int .i64 ((rte x a.fr a.to a.cls a.time).2)))), (8, .d (.fl (.string (bnd x.bands a.time)))), (9, .pt 103 0), (18, .d (.fl (.bool ((!(shortB x)))))), (11, .d (.fl (.int .i64 (k : Int)))), (7, .d (.fl (.bool (fo x a k)))), (10, .d (.fl (.bool (sp x a k))))] [(101, .bx 28 (eTa x)), (102, .bx 42 (eAsk a)), (103, .bt 28 [.dv (.fl (.int .i64 x.val.fr)), .dv (.fl (.int .i64 x.val.to)), .dv (.sl 4 (List.map eBd x.bands)), .ow 46 5 (List.map eRt (le x k))])]) (fun k => k ≤ x.rates.length) (fun k => x.rates.length - k) 0 (by omega) (imp_forget rfl ⟨rfl, rfl, rfl, rfl, rfl, rfl, rfl, rfl, rfl, (by first | rfl | exact ci (by omega) | exact ci (by simp) | exact cd (by simp) | simp), (congrArg (fun z => AV.d (.fl (.bool z))) (by unfold fo; simp)), (congrArg (fun z => AV.d (.fl (.bool z))) (by unfold sp; simp)), trivial⟩ ⟨rfl, rfl, rfl, trivial⟩) (fun k hok => ?_)
    have hk := hok
    refine a_seq ?_
    refine a_rseq ?_
    refine rg_put (d := 43) (v := .d (.fl (.int .i64 (k : Int)))) rfl (og rfl (op_move rfl rfl rfl)) ?_
    refine rg_put (d := 44) (v := .pt 101 3) rfl (og rfl (of_eff (s_field_pt rfl Try.underlying28 rfl ti26 rfl rfl rfl) rfl)) ?_
    refine rg_put (d := 45) (v := .d (.sl 5 (List.map eRt x.rates))) rfl (og rfl (op_load_pt rfl Try.underlying26 rfl rfl rfl rfl rfl)) ?_
    refine rg_put (d := 46) (v := .d (.fl (.int .i64 (x.rates.length : Int)))) rfl (og rfl (s_len rfl Try.underlying26 rfl rfl)) ?_
    refine rg_put (d := 47) (v := .d (.fl (.bool ((decide ((k : Int) < (x.rates.length : Int))))))) rfl (og rfl (op_bin rfl rfl rfl (b_lss _ _ _ _) rfl)) ?_
    refine rg_done rfl ?_
    refine a_cond rfl (fun h4 => ?_) (fun h4 => ?_)
    · skip
      have h5 := t_dec h4
      refine a_skip ?_
      show A _ _ _ _ _ _ _
      refine a_seq ?_
      refine a_block ?_
      refine a_rseq ?_
      refine rg_put (d := 50) (v := .pt 101 3) rfl (og rfl (of_eff (s_field_pt rfl Try.underlying28 rfl ti26 rfl rfl rfl) rfl)) ?_
      refine rg_put (d := 51) (v := .d (.sl 5 (List.map eRt x.rates))) rfl (og rfl (op_load_pt rfl Try.underlying26 rfl rfl rfl rfl rfl)) ?_
      refine rg_put (d := 52) (v := .d (.fl (.int .i64 (k : Int)))) rfl (og rfl (op_move rfl rfl rfl)) ?_
      refine rg_put (d := 53) (v := .el ((eRt (ix x.rates k)))) rfl (og rfl (s_index rfl Try.underlying26 ti46 rfl rfl (by omega) (row_at (by omega)) rfl)) ?_
      refine rg_put (d := 54) (v := .d (.ag (eRt (ix x.rates k)))) rfl (og rfl (of_eff (s_load_els rfl Try.underlying46 rfl ti46 rfl rfl rfl) rfl)) ?_
      refine rg_nam (d := 12) (v := .pt 104 0) (m := 104) (nw := [(104, .bx 46 ([.fl (.string (⟨#[]⟩)), .fl (.string (⟨#[]⟩)), .fl (.int .i64 0), .fl (.string (⟨#[]⟩)), .fl (.int .i64 0)]))]) rfl (og rfl (of_eff (s_alloc 104 rfl ti46 (by kernel_rfl) rfl) rfl)) rfl ?_
      refine rg_sto (nw := [(104, .bx 46 ((eRt (ix x.rates k))))]) rfl (og rfl (of_eff (s_store rfl rfl ti46 rfl rfl rfl rfl rfl rfl) rfl)) ?_
      refine rg_done rfl ?_
      refine a_rseq ?_
      refine rg_put (d := 55) (v := .pt 104 0) rfl (og rfl (of_eff (s_field_pt rfl Try.underlying46 rfl ti9 rfl rfl rfl) rfl)) ?_
      refine rg_put (d := 56) (v := .d (.fl (.string ((ix x.rates k).fr)))) rfl (og rfl (op_load_pt rfl Try.underlying9 rfl rfl rfl rfl rfl)) ?_
      refine rg_put (d := 57) (v := .pt 102 0) rfl (og rfl (of_eff (s_field_pt rfl Try.underlying42 rfl ti9 rfl rfl rfl) rfl)) ?_
      refine rg_put (d := 58) (v := .d (.fl (.string a.fr))) rfl (og rfl (op_load_pt rfl Try.underlying9 rfl rfl rfl rfl rfl)) ?_
      refine rg_put (d := 59) (v := .d (.fl (.bool ((sEq ((ix x.rates k).fr) a.fr))))) rfl (og rfl (op_bin rfl rfl rfl (b_seq _ _ _) rfl)) ?_
      refine rg_put (d := 60) (v := .d (.fl (.bool ((sEq ((ix x.rates k).fr) a.fr))))) rfl (og rfl (op_move rfl rfl rfl)) ?_
      rcases fot ((sEq ((ix x.rates k).fr) a.fr)) with h6 | h6
      · skip
        refine rg_put (d := 61) (v := .d (.fl undef)) rfl (on rfl rfl rfl h6) ?_
        refine rg_put (d := 62) (v := .d (.fl undef)) rfl (on rfl rfl rfl h6) ?_
        refine rg_put (d := 63) (v := .d (.fl undef)) rfl (on rfl rfl rfl h6) ?_
        refine rg_put (d := 64) (v := .d (.fl undef)) rfl (on rfl rfl rfl h6) ?_
        refine rg_put (d := 65) (v := .d (.fl undef)) rfl (on rfl rfl rfl h6) ?_
        refine rg_put (d := 66) (v := .d (.fl (.bool false))) rfl (og rfl (op_pick rfl rfl (by rw [h6]; rfl) rfl)) ?_
        refine rg_put (d := 67) (v := .d (.fl (.bool false))) rfl (og rfl (op_move rfl rfl rfl)) ?_
        refine rg_put (d := 68) (v := .d (.fl undef)) rfl (on rfl rfl rfl rfl) ?_
        refine rg_put (d := 69) (v := .d (.fl undef)) rfl (on rfl rfl rfl rfl) ?_
        refine rg_put (d := 70) (v := .d (.fl undef)) rfl (on rfl rfl rfl rfl) ?_
        refine rg_put (d := 71) (v := .d (.fl undef)) rfl (on rfl rfl rfl rfl) ?_
        refine rg_put (d := 72) (v := .d (.fl undef)) rfl (on rfl rfl rfl rfl) ?_
        refine rg_put (d := 73) (v := .d (.fl (.bool false))) rfl (og rfl (op_pick rfl rfl rfl rfl)) ?_
        refine rg_put (d := 74) (v := .d (.fl (.bool false))) rfl (og rfl (op_move rfl rfl rfl)) ?_
        refine rg_put (d := 75) (v := .d (.fl undef)) rfl (on rfl rfl rfl rfl) ?_
        refine rg_put (d := 76) (v := .d (.fl undef)) rfl (on rfl rfl rfl rfl) ?_
        refine rg_put (d := 77) (v := .d (.fl undef)) rfl (on rfl rfl rfl rfl) ?_
        refine rg_put (d := 78) (v := .d (.fl undef)) rfl (on rfl rfl rfl rfl) ?_
        refine rg_put (d := 79) (v := .d (.fl undef)) rfl (ou rfl rfl rfl) ?_
        refine rg_put (d := 80) (v := .d (.fl undef)) rfl (ou rfl rfl rfl) ?_
        refine rg_put (d := 81) (v := .d (.fl undef)) rfl (ou rfl rfl rfl) ?_
        refine rg_put (d := 82) (v := .d (.fl undef)) rfl (ou rfl rfl rfl) ?_
        refine rg_put (d := 83) (v := .d (.fl undef)) rfl (on rfl rfl rfl rfl) ?_
        refine rg_put (d := 84) (v := .d (.fl (.bool false))) rfl (og rfl (op_pick rfl rfl rfl rfl)) ?_
        refine rg_put (d := 13) (v := .d (.fl (.bool false))) rfl (og rfl (op_assign rfl rfl rfl)) ?_
        refine rg_done rfl ?_
        refine a_rseq ?_
        have hft : ft x a (ix x.rates k) = false := by unfold ft; simp only [h1, h3, h4, h6, Bool.true_and, Bool.false_and, Bool.and_true, Bool.and_false, Bool.true_or, Bool.false_or, Bool.or_true, Bool.or_false] <;> rfl
        refine rg_put (d := 85) (v := .d (.fl (.bool (fo x a k)))) rfl (og rfl (op_move rfl rfl rfl)) ?_
        refine rg_put (d := 86) (v := .d (.fl (.bool (fo x a k)))) rfl (og rfl (op_move rfl rfl rfl)) ?_
        rcases fot (fo x a k) with h7 | h7
        · skip
          refine rg_put (d := 87) (v := .d (.fl (.bool false))) rfl (oy rfl rfl rfl h7 (op_move rfl rfl rfl)) ?_
          refine rg_put (d := 88) (v := .d (.fl (.bool false))) rfl (oy rfl rfl rfl h7 (op_move rfl rfl rfl)) ?_
          refine rg_put (d := 89) (v := .d (.fl undef)) rfl (on rfl rfl rfl rfl) ?_
          refine rg_put (d := 90) (v := .d (.fl undef)) rfl (on rfl rfl rfl rfl) ?_
          refine rg_put (d := 91) (v := .d (.fl undef)) rfl (on rfl rfl rfl rfl) ?_
          refine rg_put (d := 92) (v := .d (.fl undef)) rfl (on rfl rfl rfl rfl) ?_
          refine rg_put (d := 93) (v := .d (.fl (.bool false))) rfl (oy rfl rfl rfl h7 (op_pick rfl rfl rfl rfl)) ?_
          refine rg_put (d := 94) (v := .d (.fl (.bool false))) rfl (og rfl (op_pick rfl rfl (by rw [h7]; rfl) rfl)) ?_
          refine rg_put (d := 7) (v := .d (.fl (.bool false))) rfl (og rfl (op_assign rfl rfl rfl)) ?_
          refine rg_done rfl ?_
          refine a_seq ?_
          refine a_rseq ?_
          refine rg_put (d := 95) (v := .d (.fl (.bool false))) rfl (og rfl (op_move rfl rfl rfl)) ?_
          refine rg_put (d := 96) (v := .d (.fl (.bool false))) rfl (og rfl (op_move rfl rfl rfl)) ?_
          refine rg_put (d := 97) (v := .d (.fl undef)) rfl (on rfl rfl rfl rfl) ?_
          refine rg_put (d := 98) (v := .d (.fl undef)) rfl (on rfl rfl rfl rfl) ?_
          refine rg_put (d := 99) (v := .d (.fl (.bool false))) rfl (og rfl (op_pick rfl rfl rfl rfl)) ?_
          refine rg_done rfl ?_
          refine a_condF rfl rfl ?_
          refine a_skip ?_
          show A _ _ _ _ _ _ _
          refine a_rseq ?_
          refine rg_put (d := 100) (v := .pt 104 3) rfl (og rfl (of_eff (s_field_pt rfl Try.underlying46 rfl ti9 rfl rfl rfl) rfl)) ?_
          refine rg_put (d := 101) (v := .d (.fl (.string ((ix x.rates k).band)))) rfl (og rfl (op_load_pt rfl Try.underlying9 rfl rfl rfl rfl rfl)) ?_
          refine rg_put (d := 102) (v := .d (.fl (.bool ((!(sEq ((ix x.rates k).band) (⟨#[]⟩))))))) rfl (og rfl (op_bin rfl rfl rfl (b_sne _ _ _) rfl)) ?_
          refine rg_done rfl ?_
          refine a_cond rfl (fun h8 => ?_) (fun h8 => ?_)
          · skip
            have h9 := t_not h8
            refine a_rseq ?_
            refine rg_put (d := 103) (v := .pt 103 3) rfl (og rfl (of_eff (s_field_pt rfl Try.underlying28 rfl ti26 rfl rfl rfl) rfl)) ?_
            refine rg_nam (d := 104) (v := .ow 105) (m := 105) (nw := [(105, .tr 46 5 (tD eRt (le x k))), (103, .bt 28 [.dv (.fl (.int .i64 x.val.fr)), .dv (.fl (.int .i64 x.val.to)), .dv (.sl 4 (List.map eBd x.bands)), .un])]) rfl (og rfl (of_eff (op_takeBt 105 rfl Try.underlying26 rfl rfl rfl rfl rfl rfl) rfl)) rfl ?_
            refine rg_put (d := 105) (v := .d (.ag (eRt (ix x.rates k)))) rfl (og rfl (of_eff (s_load_pts rfl Try.underlying46 rfl ti46 rfl rfl rfl rfl) rfl)) ?_
            refine rg_put (d := 106) (v := .d (.sl 5 (List.map eRt [(ix x.rates k)]))) rfl (og rfl (of_eff (op_slices rfl Try.underlying26 ti46 rfl rfl rfl (by kernel_rfl) (xs := [.ag (eRt (ix x.rates k))]) rfl rfl (.cons rfl rfl (.d _) rfl rfl rfl .nil) rfl) rfl)) ?_
            refine rg_nam (d := 107) (v := .ow 106) (m := 106) (nw := [(106, .tr 46 5 (tD eRt (((le x k) ++ [(ix x.rates k)])))), (105, .no)]) rfl (og rfl (of_eff (s_append_td 106 rfl Try.underlying26 ti46 rfl rfl rfl rfl rfl (.d _) (by simp only [List.length_cons, List.length_nil]; have := le_len x k; omega) rfl) rfl)) rfl ?_
            refine rg_put (d := 108) (v := .pt 103 3) rfl (og rfl (of_eff (s_field_pt rfl Try.underlying28 rfl ti26 rfl rfl rfl) rfl)) ?_
            refine rg_sto (nw := [(103, .bt 28 [.dv (.fl (.int .i64 x.val.fr)), .dv (.fl (.int .i64 x.val.to)), .dv (.sl 4 (List.map eBd x.bands)), .ow 46 5 (List.map eRt (((le x k) ++ [(ix x.rates k)])))]), (106, .no)]) rfl (og rfl (of_eff (op_store_bt rfl rfl ti26 rfl rfl rfl (.tr rfl) rfl rfl rfl) rfl)) ?_
            refine rg_done rfl ?_
            refine a_region ?_
            refine rg_put (d := 109) (v := .d (.fl (.bool (sp x a k)))) rfl (og rfl (op_move rfl rfl rfl)) ?_
            refine rg_put (d := 110) (v := .d (.fl (.bool (sp x a k)))) rfl (og rfl (op_move rfl rfl rfl)) ?_
            rcases fot (sp x a k) with h10 | h10
            · skip
              refine rg_put (d := 111) (v := .d (.fl (.bool false))) rfl (oy rfl rfl rfl h10 (op_move rfl rfl rfl)) ?_
              refine rg_put (d := 112) (v := .d (.fl (.bool false))) rfl (og rfl (op_pick rfl rfl (by rw [h10]; rfl) rfl)) ?_
              refine rg_put (d := 10) (v := .d (.fl (.bool false))) rfl (og rfl (op_assign rfl rfl rfl)) ?_
              refine rg_done rfl ?_
              show A _ _ _ _ _ _ _
              refine a_region ?_
              refine rg_put (d := 48) (v := .d (.fl (.int .i64 (k : Int)))) rfl (og rfl (op_move rfl rfl rfl)) ?_
              refine rg_put (d := 49) (v := .d (.fl (.int .i64 (((k : Int) + 1))))) rfl (og rfl (op_bin rfl rfl rfl (fun x y w => b_add64 _ _ _ x y w (by omega)) rfl)) ?_
              refine rg_put (d := 11) (v := .d (.fl (.int .i64 (((k : Int) + 1))))) rfl (og rfl (op_assign rfl rfl rfl)) ?_
              refine rg_done rfl ?_
              show ∃ i, _ ∧ _ ∧ Imp _ _ _ _ _
              refine ⟨k + 1, (by omega), by omega, imp_forget rfl ⟨rfl, rfl, rfl, rfl, rfl, rfl, rfl, rfl, rfl, (by first | rfl | exact ci (by omega) | exact ci (by simp) | exact cd (by simp) | simp), (congrArg (fun z => AV.d (.fl (.bool z))) (by rw [fo_succ (by omega)]; simp only [hft, h1, h3, h4, h6, h7, h8, h9, h10, Bool.true_and, Bool.false_and, Bool.and_true, Bool.and_false, Bool.true_or, Bool.false_or, Bool.or_true, Bool.or_false] <;> rfl)), (congrArg (fun z => AV.d (.fl (.bool z))) (by rw [sp_succ (by omega)]; simp only [hft, h1, h3, h4, h6, h7, h8, h9, h10, Bool.true_and, Bool.false_and, Bool.and_true, Bool.and_false, Bool.true_or, Bool.false_or, Bool.or_true, Bool.or_false, Bool.not_true, Bool.not_false] <;> rfl)), trivial⟩ ⟨rfl, rfl, (congrArg (fun z => Ob.bt 28 [.dv (.fl (.int .i64 x.val.fr)), .dv (.fl (.int .i64 x.val.to)), .dv (.sl 4 (List.map eBd x.bands)), .ow 46 5 (List.map eRt z)]) (le_yes (by omega) h9)), trivial⟩⟩
            · skip
              refine rg_put (d := 111) (v := .d (.fl undef)) rfl (on rfl rfl rfl h10) ?_
              refine rg_put (d := 112) (v := .d (.fl (.bool true))) rfl (og rfl (op_pick rfl rfl (by rw [h10]; rfl) rfl)) ?_
              refine rg_put (d := 10) (v := .d (.fl (.bool true))) rfl (og rfl (op_assign rfl rfl rfl)) ?_
              refine rg_done rfl ?_
              show A _ _ _ _ _ _ _
              refine a_region ?_
              refine rg_put (d := 48) (v := .d (.fl (.int .i64 (k : Int)))) rfl (og rfl (op_move rfl rfl rfl)) ?_
              refine rg_put (d := 49) (v := .d (.fl (.int .i64 (((k : Int) + 1))))) rfl (og rfl (op_bin rfl rfl rfl (fun x y w => b_add64 _ _ _ x y w (by omega)) rfl)) ?_
              refine rg_put (d := 11) (v := .d (.fl (.int .i64 (((k : Int) + 1))))) rfl (og rfl (op_assign rfl rfl rfl)) ?_
              refine rg_done rfl ?_
              show ∃ i, _ ∧ _ ∧ Imp _ _ _ _ _
              refine ⟨k + 1, (by omega), by omega, imp_forget rfl ⟨rfl, rfl, rfl, rfl, rfl, rfl, rfl, rfl, rfl, (by first | rfl | exact ci (by omega) | exact ci (by simp) | exact cd (by simp) | simp), (congrArg (fun z => AV.d (.fl (.bool z))) (by rw [fo_succ (by omega)]; simp only [hft, h1, h3, h4, h6, h7, h8, h9, h10, Bool.true_and, Bool.false_and, Bool.and_true, Bool.and_false, Bool.true_or, Bool.false_or, Bool.or_true, Bool.or_false] <;> rfl)), (congrArg (fun z => AV.d (.fl (.bool z))) (by rw [sp_succ (by omega)]; simp only [hft, h1, h3, h4, h6, h7, h8, h9, h10, Bool.true_and, Bool.false_and, Bool.and_true, Bool.and_false, Bool.true_or, Bool.false_or, Bool.or_true, Bool.or_false, Bool.not_true, Bool.not_false] <;> rfl)), trivial⟩ ⟨rfl, rfl, (congrArg (fun z => Ob.bt 28 [.dv (.fl (.int .i64 x.val.fr)), .dv (.fl (.int .i64 x.val.to)), .dv (.sl 4 (List.map eBd x.bands)), .ow 46 5 (List.map eRt z)]) (le_yes (by omega) h9)), trivial⟩⟩
          · skip
            have h11 := f_not h8
            refine a_skip ?_
            show A _ _ _ _ _ _ _
            refine a_region ?_
            refine rg_put (d := 48) (v := .d (.fl (.int .i64 (k : Int)))) rfl (og rfl (op_move rfl rfl rfl)) ?_
            refine rg_put (d := 49) (v := .d (.fl (.int .i64 (((k : Int) + 1))))) rfl (og rfl (op_bin rfl rfl rfl (fun x y w => b_add64 _ _ _ x y w (by omega)) rfl)) ?_
            refine rg_put (d := 11) (v := .d (.fl (.int .i64 (((k : Int) + 1))))) rfl (og rfl (op_assign rfl rfl rfl)) ?_
            refine rg_done rfl ?_
            show ∃ i, _ ∧ _ ∧ Imp _ _ _ _ _
            refine ⟨k + 1, (by omega), by omega, imp_forget rfl ⟨rfl, rfl, rfl, rfl, rfl, rfl, rfl, rfl, rfl, (by first | rfl | exact ci (by omega) | exact ci (by simp) | exact cd (by simp) | simp), (congrArg (fun z => AV.d (.fl (.bool z))) (by rw [fo_succ (by omega)]; simp only [hft, h1, h3, h4, h6, h7, h8, h11, Bool.true_and, Bool.false_and, Bool.and_true, Bool.and_false, Bool.true_or, Bool.false_or, Bool.or_true, Bool.or_false] <;> rfl)), (congrArg (fun z => AV.d (.fl (.bool z))) (by rw [sp_succ (by omega)]; simp only [hft, h1, h3, h4, h6, h7, h8, h11, Bool.true_and, Bool.false_and, Bool.and_true, Bool.and_false, Bool.true_or, Bool.false_or, Bool.or_true, Bool.or_false, Bool.not_true, Bool.not_false] <;> rfl)), trivial⟩ ⟨rfl, rfl, (congrArg (fun z => Ob.bt 28 [.dv (.fl (.int .i64 x.val.fr)), .dv (.fl (.int .i64 x.val.to)), .dv (.sl 4 (List.map eBd x.bands)), .ow 46 5 (List.map eRt z)]) (le_no (by omega) h11)), trivial⟩⟩
        · skip
          refine rg_put (d := 87) (v := .d (.fl undef)) rfl (on rfl rfl rfl h7) ?_
          refine rg_put (d := 88) (v := .d (.fl undef)) rfl (on rfl rfl rfl h7) ?_
          refine rg_put (d := 89) (v := .d (.fl undef)) rfl (ou rfl rfl rfl) ?_
          refine rg_put (d := 90) (v := .d (.fl undef)) rfl (ou rfl rfl rfl) ?_
          refine rg_put (d := 91) (v := .d (.fl undef)) rfl (ou rfl rfl rfl) ?_
          refine rg_put (d := 92) (v := .d (.fl undef)) rfl (ou rfl rfl rfl) ?_
          refine rg_put (d := 93) (v := .d (.fl undef)) rfl (on rfl rfl rfl h7) ?_
          refine rg_put (d := 94) (v := .d (.fl (.bool true))) rfl (og rfl (op_pick rfl rfl (by rw [h7]; rfl) rfl)) ?_
          refine rg_put (d := 7) (v := .d (.fl (.bool true))) rfl (og rfl (op_assign rfl rfl rfl)) ?_
          refine rg_done rfl ?_
          refine a_seq ?_
          refine a_rseq ?_
          refine rg_put (d := 95) (v := .d (.fl (.bool false))) rfl (og rfl (op_move rfl rfl rfl)) ?_
          refine rg_put (d := 96) (v := .d (.fl (.bool false))) rfl (og rfl (op_move rfl rfl rfl)) ?_
          refine rg_put (d := 97) (v := .d (.fl undef)) rfl (on rfl rfl rfl rfl) ?_
          refine rg_put (d := 98) (v := .d (.fl undef)) rfl (on rfl rfl rfl rfl) ?_
          refine rg_put (d := 99) (v := .d (.fl (.bool false))) rfl (og rfl (op_pick rfl rfl rfl rfl)) ?_
          refine rg_done rfl ?_
          refine a_condF rfl rfl ?_
          refine a_skip ?_
          show A _ _ _ _ _ _ _
          refine a_rseq ?_
          refine rg_put (d := 100) (v := .pt 104 3) rfl (og rfl (of_eff (s_field_pt rfl Try.underlying46 rfl ti9 rfl rfl rfl) rfl)) ?_
          refine rg_put (d := 101) (v := .d (.fl (.string ((ix x.rates k).band)))) rfl (og rfl (op_load_pt rfl Try.underlying9 rfl rfl rfl rfl rfl)) ?_
          refine rg_put (d := 102) (v := .d (.fl (.bool ((!(sEq ((ix x.rates k).band) (⟨#[]⟩))))))) rfl (og rfl (op_bin rfl rfl rfl (b_sne _ _ _) rfl)) ?_
          refine rg_done rfl ?_
          refine a_cond rfl (fun h12 => ?_) (fun h12 => ?_)
          · skip
            have h13 := t_not h12
            refine a_rseq ?_
            refine rg_put (d := 103) (v := .pt 103 3) rfl (og rfl (of_eff (s_field_pt rfl Try.underlying28 rfl ti26 rfl rfl rfl) rfl)) ?_
            refine rg_nam (d := 104) (v := .ow 107) (m := 107) (nw := [(107, .tr 46 5 (tD eRt (le x k))), (103, .bt 28 [.dv (.fl (.int .i64 x.val.fr)), .dv (.fl (.int .i64 x.val.to)), .dv (.sl 4 (List.map eBd x.bands)), .un])]) rfl (og rfl (of_eff (op_takeBt 107 rfl Try.underlying26 rfl rfl rfl rfl rfl rfl) rfl)) rfl ?_
            refine rg_put (d := 105) (v := .d (.ag (eRt (ix x.rates k)))) rfl (og rfl (of_eff (s_load_pts rfl Try.underlying46 rfl ti46 rfl rfl rfl rfl) rfl)) ?_
            refine rg_put (d := 106) (v := .d (.sl 5 (List.map eRt [(ix x.rates k)]))) rfl (og rfl (of_eff (op_slices rfl Try.underlying26 ti46 rfl rfl rfl (by kernel_rfl) (xs := [.ag (eRt (ix x.rates k))]) rfl rfl (.cons rfl rfl (.d _) rfl rfl rfl .nil) rfl) rfl)) ?_
            refine rg_nam (d := 107) (v := .ow 108) (m := 108) (nw := [(108, .tr 46 5 (tD eRt (((le x k) ++ [(ix x.rates k)])))), (107, .no)]) rfl (og rfl (of_eff (s_append_td 108 rfl Try.underlying26 ti46 rfl rfl rfl rfl rfl (.d _) (by simp only [List.length_cons, List.length_nil]; have := le_len x k; omega) rfl) rfl)) rfl ?_
            refine rg_put (d := 108) (v := .pt 103 3) rfl (og rfl (of_eff (s_field_pt rfl Try.underlying28 rfl ti26 rfl rfl rfl) rfl)) ?_
            refine rg_sto (nw := [(103, .bt 28 [.dv (.fl (.int .i64 x.val.fr)), .dv (.fl (.int .i64 x.val.to)), .dv (.sl 4 (List.map eBd x.bands)), .ow 46 5 (List.map eRt (((le x k) ++ [(ix x.rates k)])))]), (108, .no)]) rfl (og rfl (of_eff (op_store_bt rfl rfl ti26 rfl rfl rfl (.tr rfl) rfl rfl rfl) rfl)) ?_
            refine rg_done rfl ?_
            refine a_region ?_
            refine rg_put (d := 109) (v := .d (.fl (.bool (sp x a k)))) rfl (og rfl (op_move rfl rfl rfl)) ?_
            refine rg_put (d := 110) (v := .d (.fl (.bool (sp x a k)))) rfl (og rfl (op_move rfl rfl rfl)) ?_
            rcases fot (sp x a k) with h14 | h14
            · skip
              refine rg_put (d := 111) (v := .d (.fl (.bool false))) rfl (oy rfl rfl rfl h14 (op_move rfl rfl rfl)) ?_
              refine rg_put (d := 112) (v := .d (.fl (.bool false))) rfl (og rfl (op_pick rfl rfl (by rw [h14]; rfl) rfl)) ?_
              refine rg_put (d := 10) (v := .d (.fl (.bool false))) rfl (og rfl (op_assign rfl rfl rfl)) ?_
              refine rg_done rfl ?_
              show A _ _ _ _ _ _ _
              refine a_region ?_
              refine rg_put (d := 48) (v := .d (.fl (.int .i64 (k : Int)))) rfl (og rfl (op_move rfl rfl rfl)) ?_
              refine rg_put (d := 49) (v := .d (.fl (.int .i64 (((k : Int) + 1))))) rfl (og rfl (op_bin rfl rfl rfl (fun x y w => b_add64 _ _ _ x y w (by omega)) rfl)) ?_
              refine rg_put (d := 11) (v := .d (.fl (.int .i64 (((k : Int) + 1))))) rfl (og rfl (op_assign rfl rfl rfl)) ?_
              refine rg_done rfl ?_
              show ∃ i, _ ∧ _ ∧ Imp _ _ _ _ _
              refine ⟨k + 1, (by omega), by omega, imp_forget rfl ⟨rfl, rfl, rfl, rfl, rfl, rfl, rfl, rfl, rfl, (by first | rfl | exact ci (by omega) | exact ci (by simp) | exact cd (by simp) | simp), (congrArg (fun z => AV.d (.fl (.bool z))) (by rw [fo_succ (by omega)]; simp only [hft, h1, h3, h4, h6, h7, h12, h13, h14, Bool.true_and, Bool.false_and, Bool.and_true, Bool.and_false, Bool.true_or, Bool.false_or, Bool.or_true, Bool.or_false] <;> rfl)), (congrArg (fun z => AV.d (.fl (.bool z))) (by rw [sp_succ (by omega)]; simp only [hft, h1, h3, h4, h6, h7, h12, h13, h14, Bool.true_and, Bool.false_and, Bool.and_true, Bool.and_false, Bool.true_or, Bool.false_or, Bool.or_true, Bool.or_false, Bool.not_true, Bool.not_false] <;> rfl)), trivial⟩ ⟨rfl, rfl, (congrArg (fun z => Ob.bt 28 [.dv (.fl (.int .i64 x.val.fr)), .dv (.fl (.int .i64 x.val.to)), .dv (.sl 4 (List.map eBd x.bands)), .ow 46 5 (List.map eRt z)]) (le_yes (by omega) h13)), trivial⟩⟩
            · skip
              refine rg_put (d := 111) (v := .d (.fl undef)) rfl (on rfl rfl rfl h14) ?_
              refine rg_put (d := 112) (v := .d (.fl (.bool true))) rfl (og rfl (op_pick rfl rfl (by rw [h14]; rfl) rfl)) ?_
              refine rg_put (d := 10) (v := .d (.fl (.bool true))) rfl (og rfl (op_assign rfl rfl rfl)) ?_
              refine rg_done rfl ?_
              show A _ _ _ _ _ _ _
              refine a_region ?_
              refine rg_put (d := 48) (v := .d (.fl (.int .i64 (k : Int)))) rfl (og rfl (op_move rfl rfl rfl)) ?_
              refine rg_put (d := 49) (v := .d (.fl (.int .i64 (((k : Int) + 1))))) rfl (og rfl (op_bin rfl rfl rfl (fun x y w => b_add64 _ _ _ x y w (by omega)) rfl)) ?_
              refine rg_put (d := 11) (v := .d (.fl (.int .i64 (((k : Int) + 1))))) rfl (og rfl (op_assign rfl rfl rfl)) ?_
              refine rg_done rfl ?_
              show ∃ i, _ ∧ _ ∧ Imp _ _ _ _ _
              refine ⟨k + 1, (by omega), by omega, imp_forget rfl ⟨rfl, rfl, rfl, rfl, rfl, rfl, rfl, rfl, rfl, (by first | rfl | exact ci (by omega) | exact ci (by simp) | exact cd (by simp) | simp), (congrArg (fun z => AV.d (.fl (.bool z))) (by rw [fo_succ (by omega)]; simp only [hft, h1, h3, h4, h6, h7, h12, h13, h14, Bool.true_and, Bool.false_and, Bool.and_true, Bool.and_false, Bool.true_or, Bool.false_or, Bool.or_true, Bool.or_false] <;> rfl)), (congrArg (fun z => AV.d (.fl (.bool z))) (by rw [sp_succ (by omega)]; simp only [hft, h1, h3, h4, h6, h7, h12, h13, h14, Bool.true_and, Bool.false_and, Bool.and_true, Bool.and_false, Bool.true_or, Bool.false_or, Bool.or_true, Bool.or_false, Bool.not_true, Bool.not_false] <;> rfl)), trivial⟩ ⟨rfl, rfl, (congrArg (fun z => Ob.bt 28 [.dv (.fl (.int .i64 x.val.fr)), .dv (.fl (.int .i64 x.val.to)), .dv (.sl 4 (List.map eBd x.bands)), .ow 46 5 (List.map eRt z)]) (le_yes (by omega) h13)), trivial⟩⟩
          · skip
            have h15 := f_not h12
            refine a_skip ?_
            show A _ _ _ _ _ _ _
            refine a_region ?_
            refine rg_put (d := 48) (v := .d (.fl (.int .i64 (k : Int)))) rfl (og rfl (op_move rfl rfl rfl)) ?_
            refine rg_put (d := 49) (v := .d (.fl (.int .i64 (((k : Int) + 1))))) rfl (og rfl (op_bin rfl rfl rfl (fun x y w => b_add64 _ _ _ x y w (by omega)) rfl)) ?_
            refine rg_put (d := 11) (v := .d (.fl (.int .i64 (((k : Int) + 1))))) rfl (og rfl (op_assign rfl rfl rfl)) ?_
            refine rg_done rfl ?_
            show ∃ i, _ ∧ _ ∧ Imp _ _ _ _ _
            refine ⟨k + 1, (by omega), by omega, imp_forget rfl ⟨rfl, rfl, rfl, rfl, rfl, rfl, rfl, rfl, rfl, (by first | rfl | exact ci (by omega) | exact ci (by simp) | exact cd (by simp) | simp), (congrArg (fun z => AV.d (.fl (.bool z))) (by rw [fo_succ (by omega)]; simp only [hft, h1, h3, h4, h6, h7, h12, h15, Bool.true_and, Bool.false_and, Bool.and_true, Bool.and_false, Bool.true_or, Bool.false_or, Bool.or_true, Bool.or_false] <;> rfl)), (congrArg (fun z => AV.d (.fl (.bool z))) (by rw [sp_succ (by omega)]; simp only [hft, h1, h3, h4, h6, h7, h12, h15, Bool.true_and, Bool.false_and, Bool.and_true, Bool.and_false, Bool.true_or, Bool.false_or, Bool.or_true, Bool.or_false, Bool.not_true, Bool.not_false] <;> rfl)), trivial⟩ ⟨rfl, rfl, (congrArg (fun z => Ob.bt 28 [.dv (.fl (.int .i64 x.val.fr)), .dv (.fl (.int .i64 x.val.to)), .dv (.sl 4 (List.map eBd x.bands)), .ow 46 5 (List.map eRt z)]) (le_no (by omega) h15)), trivial⟩⟩
      · skip
        refine rg_put (d := 61) (v := .pt 104 1) rfl (oy rfl rfl rfl h6 (of_eff (s_field_pt rfl Try.underlying46 rfl ti9 rfl rfl rfl) rfl)) ?_
        refine rg_put (d := 62) (v := .d (.fl (.string ((ix x.rates k).to)))) rfl (oy rfl rfl rfl h6 (op_load_pt rfl Try.underlying9 rfl rfl rfl rfl rfl)) ?_
        refine rg_put (d := 63) (v := .pt 102 1) rfl (oy rfl rfl rfl h6 (of_eff (s_field_pt rfl Try.underlying42 rfl ti9 rfl rfl rfl) rfl)) ?_
        refine rg_put (d := 64) (v := .d (.fl (.string a.to))) rfl (oy rfl rfl rfl h6 (op_load_pt rfl Try.underlying9 rfl rfl rfl rfl rfl)) ?_
        refine rg_put (d := 65) (v := .d (.fl (.bool ((sEq ((ix x.rates k).to) a.to))))) rfl (oy rfl rfl rfl h6 (op_bin rfl rfl rfl (b_seq _ _ _) rfl)) ?_
        refine rg_put (d := 66) (v := .d (.fl (.bool ((sEq ((ix x.rates k).to) a.to))))) rfl (og rfl (op_pick rfl rfl (by rw [h6]; rfl) rfl)) ?_
        refine rg_put (d := 67) (v := .d (.fl (.bool ((sEq ((ix x.rates k).to) a.to))))) rfl (og rfl (op_move rfl rfl rfl)) ?_
        rcases fot ((sEq ((ix x.rates k).to) a.to)) with h16 | h16
        · skip
          refine rg_put (d := 68) (v := .d (.fl undef)) rfl (on rfl rfl rfl h16) ?_
          refine rg_put (d := 69) (v := .d (.fl undef)) rfl (on rfl rfl rfl h16) ?_
          refine rg_put (d := 70) (v := .d (.fl undef)) rfl (on rfl rfl rfl h16) ?_
          refine rg_put (d := 71) (v := .d (.fl undef)) rfl (on rfl rfl rfl h16) ?_
          refine rg_put (d := 72) (v := .d (.fl undef)) rfl (on rfl rfl rfl h16) ?_
          refine rg_put (d := 73) (v := .d (.fl (.bool false))) rfl (og rfl (op_pick rfl rfl (by rw [h16]; rfl) rfl)) ?_
          refine rg_put (d := 74) (v := .d (.fl (.bool false))) rfl (og rfl (op_move rfl rfl rfl)) ?_
          refine rg_put (d := 75) (v := .d (.fl undef)) rfl (on rfl rfl rfl rfl) ?_
          refine rg_put (d := 76) (v := .d (.fl undef)) rfl (on rfl rfl rfl rfl) ?_
          refine rg_put (d := 77) (v := .d (.fl undef)) rfl (on rfl rfl rfl rfl) ?_
          refine rg_put (d := 78) (v := .d (.fl undef)) rfl (on rfl rfl rfl rfl) ?_
          refine rg_put (d := 79) (v := .d (.fl undef)) rfl (ou rfl rfl rfl) ?_
          refine rg_put (d := 80) (v := .d (.fl undef)) rfl (ou rfl rfl rfl) ?_
          refine rg_put (d := 81) (v := .d (.fl undef)) rfl (ou rfl rfl rfl) ?_
          refine rg_put (d := 82) (v := .d (.fl undef)) rfl (ou rfl rfl rfl) ?_
          refine rg_put (d := 83) (v := .d (.fl undef)) rfl (on rfl rfl rfl rfl) ?_
          refine rg_put (d := 84) (v := .d (.fl (.bool false))) rfl (og rfl (op_pick rfl rfl rfl rfl)) ?_
          refine rg_put (d := 13) (v := .d (.fl (.bool false))) rfl (og rfl (op_assign rfl rfl rfl)) ?_
          refine rg_done rfl ?_
          refine a_rseq ?_
          have hft : ft x a (ix x.rates k) = false := by unfold ft; simp only [h1, h3, h4, h6, h16, Bool.true_and, Bool.false_and, Bool.and_true, Bool.and_false, Bool.true_or, Bool.false_or, Bool.or_true, Bool.or_false] <;> rfl
          refine rg_put (d := 85) (v := .d (.fl (.bool (fo x a k)))) rfl (og rfl (op_move rfl rfl rfl)) ?_
          refine rg_put (d := 86) (v := .d (.fl (.bool (fo x a k)))) rfl (og rfl (op_move rfl rfl rfl)) ?_
          rcases fot (fo x a k) with h17 | h17
          · skip
            refine rg_put (d := 87) (v := .d (.fl (.bool false))) rfl (oy rfl rfl rfl h17 (op_move rfl rfl rfl)) ?_
            refine rg_put (d := 88) (v := .d (.fl (.bool false))) rfl (oy rfl rfl rfl h17 (op_move rfl rfl rfl)) ?_
            refine rg_put (d := 89) (v := .d (.fl undef)) rfl (on rfl rfl rfl rfl) ?_
            refine rg_put (d := 90) (v := .d (.fl undef)) rfl (on rfl rfl rfl rfl) ?_
            refine rg_put (d := 91) (v := .d (.fl undef)) rfl (on rfl rfl rfl rfl) ?_
            refine rg_put (d := 92) (v := .d (.fl undef)) rfl (on rfl rfl rfl rfl) ?_
            refine rg_put (d := 93) (v := .d (.fl (.bool false))) rfl (oy rfl rfl rfl h17 (op_pick rfl rfl rfl rfl)) ?_
            refine rg_put (d := 94) (v := .d (.fl (.bool false))) rfl (og rfl (op_pick rfl rfl (by rw [h17]; rfl) rfl)) ?_
            refine rg_put (d := 7) (v := .d (.fl (.bool false))) rfl (og rfl (op_assign rfl rfl rfl)) ?_
            refine rg_done rfl ?_
            refine a_seq ?_
            refine a_rseq ?_
            refine rg_put (d := 95) (v := .d (.fl (.bool false))) rfl (og rfl (op_move rfl rfl rfl)) ?_
            refine rg_put (d := 96) (v := .d (.fl (.bool false))) rfl (og rfl (op_move rfl rfl rfl)) ?_
            refine rg_put (d := 97) (v := .d (.fl undef)) rfl (on rfl rfl rfl rfl) ?_
            refine rg_put (d := 98) (v := .d (.fl undef)) rfl (on rfl rfl rfl rfl) ?_
            refine rg_put (d := 99) (v := .d (.fl (.bool false))) rfl (og rfl (op_pick rfl rfl rfl rfl)) ?_
            refine rg_done rfl ?_
            refine a_condF rfl rfl ?_
            refine a_skip ?_
            show A _ _ _ _ _ _ _
            refine a_rseq ?_
            refine rg_put (d := 100) (v := .pt 104 3) rfl (og rfl (of_eff (s_field_pt rfl Try.underlying46 rfl ti9 rfl rfl rfl) rfl)) ?_
            refine rg_put (d := 101) (v := .d (.fl (.string ((ix x.rates k).band)))) rfl (og rfl (op_load_pt rfl Try.underlying9 rfl rfl rfl rfl rfl)) ?_
            refine rg_put (d := 102) (v := .d (.fl (.bool ((!(sEq ((ix x.rates k).band) (⟨#[]⟩))))))) rfl (og rfl (op_bin rfl rfl rfl (b_sne _ _ _) rfl)) ?_
            refine rg_done rfl ?_
            refine a_cond rfl (fun h18 => ?_) (fun h18 => ?_)
            · skip
              have h19 := t_not h18
              refine a_rseq ?_
              refine rg_put (d := 103) (v := .pt 103 3) rfl (og rfl (of_eff (s_field_pt rfl Try.underlying28 rfl ti26 rfl rfl rfl) rfl)) ?_
              refine rg_nam (d := 104) (v := .ow 109) (m := 109) (nw := [(109, .tr 46 5 (tD eRt (le x k))), (103, .bt 28 [.dv (.fl (.int .i64 x.val.fr)), .dv (.fl (.int .i64 x.val.to)), .dv (.sl 4 (List.map eBd x.bands)), .un])]) rfl (og rfl (of_eff (op_takeBt 109 rfl Try.underlying26 rfl rfl rfl rfl rfl rfl) rfl)) rfl ?_
              refine rg_put (d := 105) (v := .d (.ag (eRt (ix x.rates k)))) rfl (og rfl (of_eff (s_load_pts rfl Try.underlying46 rfl ti46 rfl rfl rfl rfl) rfl)) ?_
              refine rg_put (d := 106) (v := .d (.sl 5 (List.map eRt [(ix x.rates k)]))) rfl (og rfl (of_eff (op_slices rfl Try.underlying26 ti46 rfl rfl rfl (by kernel_rfl) (xs := [.ag (eRt (ix x.rates k))]) rfl rfl (.cons rfl rfl (.d _) rfl rfl rfl .nil) rfl) rfl)) ?_
              refine rg_nam (d := 107) (v := .ow 110) (m := 110) (nw := [(110, .tr 46 5 (tD eRt (((le x k) ++ [(ix x.rates k)])))), (109, .no)]) rfl (og rfl (of_eff (s_append_td 110 rfl Try.underlying26 ti46 rfl rfl rfl rfl rfl (.d _) (by simp only [List.length_cons, List.length_nil]; have := le_len x k; omega) rfl) rfl)) rfl ?_
              refine rg_put (d := 108) (v := .pt 103 3) rfl (og rfl (of_eff (s_field_pt rfl Try.underlying28 rfl ti26 rfl rfl rfl) rfl)) ?_
              refine rg_sto (nw := [(103, .bt 28 [.dv (.fl (.int .i64 x.val.fr)), .dv (.fl (.int .i64 x.val.to)), .dv (.sl 4 (List.map eBd x.bands)), .ow 46 5 (List.map eRt (((le x k) ++ [(ix x.rates k)])))]), (110, .no)]) rfl (og rfl (of_eff (op_store_bt rfl rfl ti26 rfl rfl rfl (.tr rfl) rfl rfl rfl) rfl)) ?_
              refine rg_done rfl ?_
              refine a_region ?_
              refine rg_put (d := 109) (v := .d (.fl (.bool (sp x a k)))) rfl (og rfl (op_move rfl rfl rfl)) ?_
              refine rg_put (d := 110) (v := .d (.fl (.bool (sp x a k)))) rfl (og rfl (op_move rfl rfl rfl)) ?_
              rcases fot (sp x a k) with h20 | h20
              · skip
                refine rg_put (d := 111) (v := .d (.fl (.bool false))) rfl (oy rfl rfl rfl h20 (op_move rfl rfl rfl)) ?_
                refine rg_put (d := 112) (v := .d (.fl (.bool false))) rfl (og rfl (op_pick rfl rfl (by rw [h20]; rfl) rfl)) ?_
                refine rg_put (d := 10) (v := .d (.fl (.bool false))) rfl (og rfl (op_assign rfl rfl rfl)) ?_
                refine rg_done rfl ?_
                show A _ _ _ _ _ _ _
                refine a_region ?_
                refine rg_put (d := 48) (v := .d (.fl (.int .i64 (k : Int)))) rfl (og rfl (op_move rfl rfl rfl)) ?_
                refine rg_put (d := 49) (v := .d (.fl (.int .i64 (((k : Int) + 1))))) rfl (og rfl (op_bin rfl rfl rfl (fun x y w => b_add64 _ _ _ x y w (by omega)) rfl)) ?_
                refine rg_put (d := 11) (v := .d (.fl (.int .i64 (((k : Int) + 1))))) rfl (og rfl (op_assign rfl rfl rfl)) ?_
                refine rg_done rfl ?_
                show ∃ i, _ ∧ _ ∧ Imp _ _ _ _ _
                refine ⟨k + 1, (by omega), by omega, imp_forget rfl ⟨rfl, rfl, rfl, rfl, rfl, rfl, rfl, rfl, rfl, (by first | rfl | exact ci (by omega) | exact ci (by simp) | exact cd (by simp) | simp), (congrArg (fun z => AV.d (.fl (.bool z))) (by rw [fo_succ (by omega)]; simp only [hft, h1, h3, h4, h6, h16, h17, h18, h19, h20, Bool.true_and, Bool.false_and, Bool.and_true, Bool.and_false, Bool.true_or, Bool.false_or, Bool.or_true, Bool.or_false] <;> rfl)), (congrArg (fun z => AV.d (.fl (.bool z))) (by rw [sp_succ (by omega)]; simp only [hft, h1, h3, h4, h6, h16, h17, h18, h19, h20, Bool.true_and, Bool.false_and, Bool.and_true, Bool.and_false, Bool.true_or, Bool.false_or, Bool.or_true, Bool.or_false, Bool.not_true, Bool.not_false] <;> rfl)), trivial⟩ ⟨rfl, rfl, (congrArg (fun z => Ob.bt 28 [.dv (.fl (.int .i64 x.val.fr)), .dv (.fl (.int .i64 x.val.to)), .dv (.sl 4 (List.map eBd x.bands)), .ow 46 5 (List.map eRt z)]) (le_yes (by omega) h19)), trivial⟩⟩
              · skip
                refine rg_put (d := 111) (v := .d (.fl undef)) rfl (on rfl rfl rfl h20) ?_
                refine rg_put (d := 112) (v := .d (.fl (.bool true))) rfl (og rfl (op_pick rfl rfl (by rw [h20]; rfl) rfl)) ?_
                refine rg_put (d := 10) (v := .d (.fl (.bool true))) rfl (og rfl (op_assign rfl rfl rfl)) ?_
                refine rg_done rfl ?_
                show A _ _ _ _ _ _ _
                refine a_region ?_
                refine rg_put (d := 48) (v := .d (.fl (.int .i64 (k : Int)))) rfl (og rfl (op_move rfl rfl rfl)) ?_
                refine rg_put (d := 49) (v := .d (.fl (.int .i64 (((k : Int) + 1))))) rfl (og rfl (op_bin rfl rfl rfl (fun x y w => b_add64 _ _ _ x y w (by omega)) rfl)) ?_
                refine rg_put (d := 11) (v := .d (.fl (.int .i64 (((k : Int) + 1))))) rfl (og rfl (op_assign rfl rfl rfl)) ?_
                refine rg_done rfl ?_
                show ∃ i, _ ∧ _ ∧ Imp _ _ _ _ _
                refine ⟨k + 1, (by omega), by omega, imp_forget rfl ⟨rfl, rfl, rfl, rfl, rfl, rfl, rfl, rfl, rfl, (by first | rfl | exact ci (by omega) | exact ci (by simp) | exact cd (by simp) | simp), (congrArg (fun z => AV.d (.fl (.bool z))) (by rw [fo_succ (by omega)]; simp only [hft, h1, h3, h4, h6, h16, h17, h18, h19, h20, Bool.true_and, Bool.false_and, Bool.and_true, Bool.and_false, Bool.true_or, Bool.false_or, Bool.or_true, Bool.or_false] <;> rfl)), (congrArg (fun z => AV.d (.fl (.bool z))) (by rw [sp_succ (by omega)]; simp only [hft, h1, h3, h4, h6, h16, h17, h18, h19, h20, Bool.true_and, Bool.false_and, Bool.and_true, Bool.and_false, Bool.true_or, Bool.false_or, Bool.or_true, Bool.or_false, Bool.not_true, Bool.not_false] <;> rfl)), trivial⟩ ⟨rfl, rfl, (congrArg (fun z => Ob.bt 28 [.dv (.fl (.int .i64 x.val.fr)), .dv (.fl (.int .i64 x.val.to)), .dv (.sl 4 (List.map eBd x.bands)), .ow 46 5 (List.map eRt z)]) (le_yes (by omega) h19)), trivial⟩⟩
            · skip
              have h21 := f_not h18
              refine a_skip ?_
              show A _ _ _ _ _ _ _
              refine a_region ?_
              refine rg_put (d := 48) (v := .d (.fl (.int .i64 (k : Int)))) rfl (og rfl (op_move rfl rfl rfl)) ?_
              refine rg_put (d := 49) (v := .d (.fl (.int .i64 (((k : Int) + 1))))) rfl (og rfl (op_bin rfl rfl rfl (fun x y w => b_add64 _ _ _ x y w (by omega)) rfl)) ?_
              refine rg_put (d := 11) (v := .d (.fl (.int .i64 (((k : Int) + 1))))) rfl (og rfl (op_assign rfl rfl rfl)) ?_
              refine rg_done rfl ?_
              show ∃ i, _ ∧ _ ∧ Imp _ _ _ _ _
              refine ⟨k + 1, (by omega), by omega, imp_forget rfl ⟨rfl, rfl, rfl, rfl, rfl, rfl, rfl, rfl, rfl, (by first | rfl | exact ci (by omega) | exact ci (by simp) | exact cd (by simp) | simp), (congrArg (fun z => AV.d (.fl (.bool z))) (by rw [fo_succ (by omega)]; simp only [hft, h1, h3, h4, h6, h16, h17, h18, h21, Bool.true_and, Bool.false_and, Bool.and_true, Bool.and_false, Bool.true_or, Bool.false_or, Bool.or_true, Bool.or_false] <;> rfl)), (congrArg (fun z => AV.d (.fl (.bool z))) (by rw [sp_succ (by omega)]; simp only [hft, h1, h3, h4, h6, h16, h17, h18, h21, Bool.true_and, Bool.false_and, Bool.and_true, Bool.and_false, Bool.true_or, Bool.false_or, Bool.or_true, Bool.or_false, Bool.not_true, Bool.not_false] <;> rfl)), trivial⟩ ⟨rfl, rfl, (congrArg (fun z => Ob.bt 28 [.dv (.fl (.int .i64 x.val.fr)), .dv (.fl (.int .i64 x.val.to)), .dv (.sl 4 (List.map eBd x.bands)), .ow 46 5 (List.map eRt z)]) (le_no (by omega) h21)), trivial⟩⟩
          · skip
            refine rg_put (d := 87) (v := .d (.fl undef)) rfl (on rfl rfl rfl h17) ?_
            refine rg_put (d := 88) (v := .d (.fl undef)) rfl (on rfl rfl rfl h17) ?_
            refine rg_put (d := 89) (v := .d (.fl undef)) rfl (ou rfl rfl rfl) ?_
            refine rg_put (d := 90) (v := .d (.fl undef)) rfl (ou rfl rfl rfl) ?_
            refine rg_put (d := 91) (v := .d (.fl undef)) rfl (ou rfl rfl rfl) ?_
            refine rg_put (d := 92) (v := .d (.fl undef)) rfl (ou rfl rfl rfl) ?_
            refine rg_put (d := 93) (v := .d (.fl undef)) rfl (on rfl rfl rfl h17) ?_
            refine rg_put (d := 94) (v := .d (.fl (.bool true))) rfl (og rfl (op_pick rfl rfl (by rw [h17]; rfl) rfl)) ?_
            refine rg_put (d := 7) (v := .d (.fl (.bool true))) rfl (og rfl (op_assign rfl rfl rfl)) ?_
            refine rg_done rfl ?_
            refine a_seq ?_
            refine a_rseq ?_
            refine rg_put (d := 95) (v := .d (.fl (.bool false))) rfl (og rfl (op_move rfl rfl rfl)) ?_
            refine rg_put (d := 96) (v := .d (.fl (.bool false))) rfl (og rfl (op_move rfl rfl rfl)) ?_
            refine rg_put (d := 97) (v := .d (.fl undef)) rfl (on rfl rfl rfl rfl) ?_
            refine rg_put (d := 98) (v := .d (.fl undef)) rfl (on rfl rfl rfl rfl) ?_
            refine rg_put (d := 99) (v := .d (.fl (.bool false))) rfl (og rfl (op_pick rfl rfl rfl rfl)) ?_
            refine rg_done rfl ?_
            refine a_condF rfl rfl ?_
            refine a_skip ?_
            show A _ _ _ _ _ _ _
            refine a_rseq ?_
            refine rg_put (d := 100) (v := .pt 104 3) rfl (og rfl (of_eff (s_field_pt rfl Try.underlying46 rfl ti9 rfl rfl rfl) rfl)) ?_
            refine rg_put (d := 101) (v := .d (.fl (.string ((ix x.rates k).band)))) rfl (og rfl (op_load_pt rfl Try.underlying9 rfl rfl rfl rfl rfl)) ?_
            refine rg_put (d := 102) (v := .d (.fl (.bool ((!(sEq ((ix x.rates k).band) (⟨#[]⟩))))))) rfl (og rfl (op_bin rfl rfl rfl (b_sne _ _ _) rfl)) ?_
            refine rg_done rfl ?_
            refine a_cond rfl (fun h22 => ?_) (fun h22 => ?_)
            · skip
              have h23 := t_not h22
              refine a_rseq ?_
              refine rg_put (d := 103) (v := .pt 103 3) rfl (og rfl (of_eff (s_field_pt rfl Try.underlying28 rfl ti26 rfl rfl rfl) rfl)) ?_
              refine rg_nam (d := 104) (v := .ow 111) (m := 111) (nw := [(111, .tr 46 5 (tD eRt (le x k))), (103, .bt 28 [.dv (.fl (.int .i64 x.val.fr)), .dv (.fl (.int .i64 x.val.to)), .dv (.sl 4 (List.map eBd x.bands)), .un])]) rfl (og rfl (of_eff (op_takeBt 111 rfl Try.underlying26 rfl rfl rfl rfl rfl rfl) rfl)) rfl ?_
              refine rg_put (d := 105) (v := .d (.ag (eRt (ix x.rates k)))) rfl (og rfl (of_eff (s_load_pts rfl Try.underlying46 rfl ti46 rfl rfl rfl rfl) rfl)) ?_
              refine rg_put (d := 106) (v := .d (.sl 5 (List.map eRt [(ix x.rates k)]))) rfl (og rfl (of_eff (op_slices rfl Try.underlying26 ti46 rfl rfl rfl (by kernel_rfl) (xs := [.ag (eRt (ix x.rates k))]) rfl rfl (.cons rfl rfl (.d _) rfl rfl rfl .nil) rfl) rfl)) ?_
              refine rg_nam (d := 107) (v := .ow 112) (m := 112) (nw := [(112, .tr 46 5 (tD eRt (((le x k) ++ [(ix x.rates k)])))), (111, .no)]) rfl (og rfl (of_eff (s_append_td 112 rfl Try.underlying26 ti46 rfl rfl rfl rfl rfl (.d _) (by simp only [List.length_cons, List.length_nil]; have := le_len x k; omega) rfl) rfl)) rfl ?_
              refine rg_put (d := 108) (v := .pt 103 3) rfl (og rfl (of_eff (s_field_pt rfl Try.underlying28 rfl ti26 rfl rfl rfl) rfl)) ?_
              refine rg_sto (nw := [(103, .bt 28 [.dv (.fl (.int .i64 x.val.fr)), .dv (.fl (.int .i64 x.val.to)), .dv (.sl 4 (List.map eBd x.bands)), .ow 46 5 (List.map eRt (((le x k) ++ [(ix x.rates k)])))]), (112, .no)]) rfl (og rfl (of_eff (op_store_bt rfl rfl ti26 rfl rfl rfl (.tr rfl) rfl rfl rfl) rfl)) ?_
              refine rg_done rfl ?_
              refine a_region ?_
              refine rg_put (d := 109) (v := .d (.fl (.bool (sp x a k)))) rfl (og rfl (op_move rfl rfl rfl)) ?_
              refine rg_put (d := 110) (v := .d (.fl (.bool (sp x a k)))) rfl (og rfl (op_move rfl rfl rfl)) ?_
              rcases fot (sp x a k) with h24 | h24
              · skip
                refine rg_put (d := 111) (v := .d (.fl (.bool false))) rfl (oy rfl rfl rfl h24 (op_move rfl rfl rfl)) ?_
                refine rg_put (d := 112) (v := .d (.fl (.bool false))) rfl (og rfl (op_pick rfl rfl (by rw [h24]; rfl) rfl)) ?_
                refine rg_put (d := 10) (v := .d (.fl (.bool false))) rfl (og rfl (op_assign rfl rfl rfl)) ?_
                refine rg_done rfl ?_
                show A _ _ _ _ _ _ _
                refine a_region ?_
                refine rg_put (d := 48) (v := .d (.fl (.int .i64 (k : Int)))) rfl (og rfl (op_move rfl rfl rfl)) ?_
                refine rg_put (d := 49) (v := .d (.fl (.int .i64 (((k : Int) + 1))))) rfl (og rfl (op_bin rfl rfl rfl (fun x y w => b_add64 _ _ _ x y w (by omega)) rfl)) ?_
                refine rg_put (d := 11) (v := .d (.fl (.int .i64 (((k : Int) + 1))))) rfl (og rfl (op_assign rfl rfl rfl)) ?_
                refine rg_done rfl ?_
                show ∃ i, _ ∧ _ ∧ Imp _ _ _ _ _
                refine ⟨k + 1, (by omega), by omega, imp_forget rfl ⟨rfl, rfl, rfl, rfl, rfl, rfl, rfl, rfl, rfl, (by first | rfl | exact ci (by omega) | exact ci (by simp) | exact cd (by simp) | simp), (congrArg (fun z => AV.d (.fl (.bool z))) (by rw [fo_succ (by omega)]; simp only [hft, h1, h3, h4, h6, h16, h17, h22, h23, h24, Bool.true_and, Bool.false_and, Bool.and_true, Bool.and_false, Bool.true_or, Bool.false_or, Bool.or_true, Bool.or_false] <;> rfl)), (congrArg (fun z => AV.d (.fl (.bool z))) (by rw [sp_succ (by omega)]; simp only [hft, h1, h3, h4, h6, h16, h17, h22, h23, h24, Bool.true_and, Bool.false_and, Bool.and_true, Bool.and_false, Bool.true_or, Bool.false_or, Bool.or_true, Bool.or_false, Bool.not_true, Bool.not_false] <;> rfl)), trivial⟩ ⟨rfl, rfl, (congrArg (fun z => Ob.bt 28 [.dv (.fl (.int .i64 x.val.fr)), .dv (.fl (.int .i64 x.val.to)), .dv (.sl 4 (List.map eBd x.bands)), .ow 46 5 (List.map eRt z)]) (le_yes (by omega) h23)), trivial⟩⟩
              · skip
                refine rg_put (d := 111) (v := .d (.fl undef)) rfl (on rfl rfl rfl h24) ?_
                refine rg_put (d := 112) (v := .d (.fl (.bool true))) rfl (og rfl (op_pick rfl rfl (by rw [h24]; rfl) rfl)) ?_
                refine rg_put (d := 10) (v := .d (.fl (.bool true))) rfl (og rfl (op_assign rfl rfl rfl)) ?_
                refine rg_done rfl ?_
                show A _ _ _ _ _ _ _
                refine a_region ?_
                refine rg_put (d := 48) (v := .d (.fl (.int .i64 (k : Int)))) rfl (og rfl (op_move rfl rfl rfl)) ?_
                refine rg_put (d := 49) (v := .d (.fl (.int .i64 (((k : Int) + 1))))) rfl (og rfl (op_bin rfl rfl rfl (fun x y w => b_add64 _ _ _ x y w (by omega)) rfl)) ?_
                refine rg_put (d := 11) (v := .d (.fl (.int .i64 (((k : Int) + 1))))) rfl (og rfl (op_assign rfl rfl rfl)) ?_
                refine rg_done rfl ?_
                show ∃ i, _ ∧ _ ∧ Imp _ _ _ _ _
                refine ⟨k + 1, (by omega), by omega, imp_forget rfl ⟨rfl, rfl, rfl, rfl, rfl, rfl, rfl, rfl, rfl, (by first | rfl | exact ci (by omega) | exact ci (by simp) | exact cd (by simp) | simp), (congrArg (fun z => AV.d (.fl (.bool z))) (by rw [fo_succ (by omega)]; simp only [hft, h1, h3, h4, h6, h16, h17, h22, h23, h24, Bool.true_and, Bool.false_and, Bool.and_true, Bool.and_false, Bool.true_or, Bool.false_or, Bool.or_true, Bool.or_false] <;> rfl)), (congrArg (fun z => AV.d (.fl (.bool z))) (by rw [sp_succ (by omega)]; simp only [hft, h1, h3, h4, h6, h16, h17, h22, h23, h24, Bool.true_and, Bool.false_and, Bool.and_true, Bool.and_false, Bool.true_or, Bool.false_or, Bool.or_true, Bool.or_false, Bool.not_true, Bool.not_false] <;> rfl)), trivial⟩ ⟨rfl, rfl, (congrArg (fun z => Ob.bt 28 [.dv (.fl (.int .i64 x.val.fr)), .dv (.fl (.int .i64 x.val.to)), .dv (.sl 4 (List.map eBd x.bands)), .ow 46 5 (List.map eRt z)]) (le_yes (by omega) h23)), trivial⟩⟩
            · skip
              have h25 := f_not h22
              refine a_skip ?_
              show A _ _ _ _ _ _ _
              refine a_region ?_
              refine rg_put (d := 48) (v := .d (.fl (.int .i64 (k : Int)))) rfl (og rfl (op_move rfl rfl rfl)) ?_
              refine rg_put (d := 49) (v := .d (.fl (.int .i64 (((k : Int) + 1))))) rfl (og rfl (op_bin rfl rfl rfl (fun x y w => b_add64 _ _ _ x y w (by omega)) rfl)) ?_
              refine rg_put (d := 11) (v := .d (.fl (.int .i64 (((k : Int) + 1))))) rfl (og rfl (op_assign rfl rfl rfl)) ?_
              refine rg_done rfl ?_
              show ∃ i, _ ∧ _ ∧ Imp _ _ _ _ _
              refine ⟨k + 1, (by omega), by omega, imp_forget rfl ⟨rfl, rfl, rfl, rfl, rfl, rfl, rfl, rfl, rfl, (by first | rfl | exact ci (by omega) | exact ci (by simp) | exact cd (by simp) | simp), (congrArg (fun z => AV.d (.fl (.bool z))) (by rw [fo_succ (by omega)]; simp only [hft, h1, h3, h4, h6, h16, h17, h22, h25, Bool.true_and, Bool.false_and, Bool.and_true, Bool.and_false, Bool.true_or, Bool.false_or, Bool.or_true, Bool.or_false] <;> rfl)), (congrArg (fun z => AV.d (.fl (.bool z))) (by rw [sp_succ (by omega)]; simp only [hft, h1, h3, h4, h6, h16, h17, h22, h25, Bool.true_and, Bool.false_and, Bool.and_true, Bool.and_false, Bool.true_or, Bool.false_or, Bool.or_true, Bool.or_false, Bool.not_true, Bool.not_false] <;> rfl)), trivial⟩ ⟨rfl, rfl, (congrArg (fun z => Ob.bt 28 [.dv (.fl (.int .i64 x.val.fr)), .dv (.fl (.int .i64 x.val.to)), .dv (.sl 4 (List.map eBd x.bands)), .ow 46 5 (List.map eRt z)]) (le_no (by omega) h25)), trivial⟩⟩
        · skip
          refine rg_put (d := 68) (v := .pt 104 2) rfl (oy rfl rfl rfl h16 (of_eff (s_field_pt rfl Try.underlying46 rfl ti3 rfl rfl rfl) rfl)) ?_
          refine rg_put (d := 69) (v := .d (.fl (.int .i64 ((ix x.rates k).cls)))) rfl (oy rfl rfl rfl h16 (op_load_pt rfl Try.underlying3 rfl rfl rfl rfl rfl)) ?_
          refine rg_put (d := 70) (v := .pt 102 2) rfl (oy rfl rfl rfl h16 (of_eff (s_field_pt rfl Try.underlying42 rfl ti3 rfl rfl rfl) rfl)) ?_
          refine rg_put (d := 71) (v := .d (.fl (.int .i64 a.cls))) rfl (oy rfl rfl rfl h16 (op_load_pt rfl Try.underlying3 rfl rfl rfl rfl rfl)) ?_
          refine rg_put (d := 72) (v := .d (.fl (.bool (((ix x.rates k).cls == a.cls))))) rfl (oy rfl rfl rfl h16 (op_bin rfl rfl rfl (b_eql _ _ _ _) rfl)) ?_
          refine rg_put (d := 73) (v := .d (.fl (.bool (((ix x.rates k).cls == a.cls))))) rfl (og rfl (op_pick rfl rfl (by rw [h16]; rfl) rfl)) ?_
          refine rg_put (d := 74) (v := .d (.fl (.bool (((ix x.rates k).cls == a.cls))))) rfl (og rfl (op_move rfl rfl rfl)) ?_
          rcases fot (((ix x.rates k).cls == a.cls)) with h26 | h26
          · skip
            have h27 := f_beq h26
            refine rg_put (d := 75) (v := .d (.fl undef)) rfl (on rfl rfl rfl h26) ?_
            refine rg_put (d := 76) (v := .d (.fl undef)) rfl (on rfl rfl rfl h26) ?_
            refine rg_put (d := 77) (v := .d (.fl undef)) rfl (on rfl rfl rfl h26) ?_
            refine rg_put (d := 78) (v := .d (.fl undef)) rfl (on rfl rfl rfl h26) ?_
            refine rg_put (d := 79) (v := .d (.fl undef)) rfl (ou rfl rfl rfl) ?_
            refine rg_put (d := 80) (v := .d (.fl undef)) rfl (ou rfl rfl rfl) ?_
            refine rg_put (d := 81) (v := .d (.fl undef)) rfl (ou rfl rfl rfl) ?_
            refine rg_put (d := 82) (v := .d (.fl undef)) rfl (ou rfl rfl rfl) ?_
            refine rg_put (d := 83) (v := .d (.fl undef)) rfl (on rfl rfl rfl h26) ?_
            refine rg_put (d := 84) (v := .d (.fl (.bool false))) rfl (og rfl (op_pick rfl rfl (by rw [h26]; rfl) rfl)) ?_
            refine rg_put (d := 13) (v := .d (.fl (.bool false))) rfl (og rfl (op_assign rfl rfl rfl)) ?_
            refine rg_done rfl ?_
            refine a_rseq ?_
            have hft : ft x a (ix x.rates k) = false := by unfold ft; simp only [h1, h3, h4, h6, h16, h26, Bool.true_and, Bool.false_and, Bool.and_true, Bool.and_false, Bool.true_or, Bool.false_or, Bool.or_true, Bool.or_false] <;> rfl
            refine rg_put (d := 85) (v := .d (.fl (.bool (fo x a k)))) rfl (og rfl (op_move rfl rfl rfl)) ?_
            refine rg_put (d := 86) (v := .d (.fl (.bool (fo x a k)))) rfl (og rfl (op_move rfl rfl rfl)) ?_
            rcases fot (fo x a k) with h28 | h28
            · skip
              refine rg_put (d := 87) (v := .d (.fl (.bool false))) rfl (oy rfl rfl rfl h28 (op_move rfl rfl rfl)) ?_
              refine rg_put (d := 88) (v := .d (.fl (.bool false))) rfl (oy rfl rfl rfl h28 (op_move rfl rfl rfl)) ?_
              refine rg_put (d := 89) (v := .d (.fl undef)) rfl (on rfl rfl rfl rfl) ?_
              refine rg_put (d := 90) (v := .d (.fl undef)) rfl (on rfl rfl rfl rfl) ?_
              refine rg_put (d := 91) (v := .d (.fl undef)) rfl (on rfl rfl rfl rfl) ?_
              refine rg_put (d := 92) (v := .d (.fl undef)) rfl (on rfl rfl rfl rfl) ?_
              refine rg_put (d := 93) (v := .d (.fl (.bool false))) rfl (oy rfl rfl rfl h28 (op_pick rfl rfl rfl rfl)) ?_
              refine rg_put (d := 94) (v := .d (.fl (.bool false))) rfl (og rfl (op_pick rfl rfl (by rw [h28]; rfl) rfl)) ?_
              refine rg_put (d := 7) (v := .d (.fl (.bool false))) rfl (og rfl (op_assign rfl rfl rfl)) ?_
              refine rg_done rfl ?_
              refine a_seq ?_
              refine a_rseq ?_
              refine rg_put (d := 95) (v := .d (.fl (.bool false))) rfl (og rfl (op_move rfl rfl rfl)) ?_
              refine rg_put (d := 96) (v := .d (.fl (.bool false))) rfl (og rfl (op_move rfl rfl rfl)) ?_
              refine rg_put (d := 97) (v := .d (.fl undef)) rfl (on rfl rfl rfl rfl) ?_
              refine rg_put (d := 98) (v := .d (.fl undef)) rfl (on rfl rfl rfl rfl) ?_
              refine rg_put (d := 99) (v := .d (.fl (.bool false))) rfl (og rfl (op_pick rfl rfl rfl rfl)) ?_
              refine rg_done rfl ?_
              refine a_condF rfl rfl ?_
              refine a_skip ?_
              show A _ _ _ _ _ _ _
              refine a_rseq ?_
              refine rg_put (d := 100) (v := .pt 104 3) rfl (og rfl (of_eff (s_field_pt rfl Try.underlying46 rfl ti9 rfl rfl rfl) rfl)) ?_
              refine rg_put (d := 101) (v := .d (.fl (.string ((ix x.rates k).band)))) rfl (og rfl (op_load_pt rfl Try.underlying9 rfl rfl rfl rfl rfl)) ?_
              refine rg_put (d := 102) (v := .d (.fl (.bool ((!(sEq ((ix x.rates k).band) (⟨#[]⟩))))))) rfl (og rfl (op_bin rfl rfl rfl (b_sne _ _ _) rfl)) ?_
              refine rg_done rfl ?_
              refine a_cond rfl (fun h29 => ?_) (fun h29 => ?_)
              · skip
                have h30 := t_not h29
                refine a_rseq ?_
                refine rg_put (d := 103) (v := .pt 103 3) rfl (og rfl (of_eff (s_field_pt rfl Try.underlying28 rfl ti26 rfl rfl rfl) rfl)) ?_
                refine rg_nam (d := 104) (v := .ow 113) (m := 113) (nw := [(113, .tr 46 5 (tD eRt (le x k))), (103, .bt 28 [.dv (.fl (.int .i64 x.val.fr)), .dv (.fl (.int .i64 x.val.to)), .dv (.sl 4 (List.map eBd x.bands)), .un])]) rfl (og rfl (of_eff (op_takeBt 113 rfl Try.underlying26 rfl rfl rfl rfl rfl rfl) rfl)) rfl ?_
                refine rg_put (d := 105) (v := .d (.ag (eRt (ix x.rates k)))) rfl (og rfl (of_eff (s_load_pts rfl Try.underlying46 rfl ti46 rfl rfl rfl rfl) rfl)) ?_
                refine rg_put (d := 106) (v := .d (.sl 5 (List.map eRt [(ix x.rates k)]))) rfl (og rfl (of_eff (op_slices rfl Try.underlying26 ti46 rfl rfl rfl (by kernel_rfl) (xs := [.ag (eRt (ix x.rates k))]) rfl rfl (.cons rfl rfl (.d _) rfl rfl rfl .nil) rfl) rfl)) ?_
                refine rg_nam (d := 107) (v := .ow 114) (m := 114) (nw := [(114, .tr 46 5 (tD eRt (((le x k) ++ [(ix x.rates k)])))), (113, .no)]) rfl (og rfl (of_eff (s_append_td 114 rfl Try.underlying26 ti46 rfl rfl rfl rfl rfl (.d _) (by simp only [List.length_cons, List.length_nil]; have := le_len x k; omega) rfl) rfl)) rfl ?_
                refine rg_put (d := 108) (v := .pt 103 3) rfl (og rfl (of_eff (s_field_pt rfl Try.underlying28 rfl ti26 rfl rfl rfl) rfl)) ?_
                refine rg_sto (nw := [(103, .bt 28 [.dv (.fl (.int .i64 x.val.fr)), .dv (.fl (.int .i64 x.val.to)), .dv (.sl 4 (List.map eBd x.bands)), .ow 46 5 (List.map eRt (((le x k) ++ [(ix x.rates k)])))]), (114, .no)]) rfl (og rfl (of_eff (op_store_bt rfl rfl ti26 rfl rfl rfl (.tr rfl) rfl rfl rfl) rfl)) ?_
                refine rg_done rfl ?_
                refine a_region ?_
                refine rg_put (d := 109) (v := .d (.fl (.bool (sp x a k)))) rfl (og rfl (op_move rfl rfl rfl)) ?_
                refine rg_put (d := 110) (v := .d (.fl (.bool (sp x a k)))) rfl (og rfl (op_move rfl rfl rfl)) ?_
                rcases fot (sp x a k) with h31 | h31
                · skip
                  refine rg_put (d := 111) (v := .d (.fl (.bool false))) rfl (oy rfl rfl rfl h31 (op_move rfl rfl rfl)) ?_
                  refine rg_put (d := 112) (v := .d (.fl (.bool false))) rfl (og rfl (op_pick rfl rfl (by rw [h31]; rfl) rfl)) ?_
                  refine rg_put (d := 10) (v := .d (.fl (.bool false))) rfl (og rfl (op_assign rfl rfl rfl)) ?_
                  refine rg_done rfl ?_
                  show A _ _ _ _ _ _ _
                  refine a_region ?_
                  refine rg_put (d := 48) (v := .d (.fl (.int .i64 (k : Int)))) rfl (og rfl (op_move rfl rfl rfl)) ?_
                  refine rg_put (d := 49) (v := .d (.fl (.int .i64 (((k : Int) + 1))))) rfl (og rfl (op_bin rfl rfl rfl (fun x y w => b_add64 _ _ _ x y w (by omega)) rfl)) ?_
                  refine rg_put (d := 11) (v := .d (.fl (.int .i64 (((k : Int) + 1))))) rfl (og rfl (op_assign rfl rfl rfl)) ?_
                  refine rg_done rfl ?_
                  show ∃ i, _ ∧ _ ∧ Imp _ _ _ _ _
                  refine ⟨k + 1, (by omega), by omega, imp_forget rfl ⟨rfl, rfl, rfl, rfl, rfl, rfl, rfl, rfl, rfl, (by first | rfl | exact ci (by omega) | exact ci (by simp) | exact cd (by simp) | simp), (congrArg (fun z => AV.d (.fl (.bool z))) (by rw [fo_succ (by omega)]; simp only [hft, h1, h3, h4, h6, h16, h26, h28, h29, h30, h31, Bool.true_and, Bool.false_and, Bool.and_true, Bool.and_false, Bool.true_or, Bool.false_or, Bool.or_true, Bool.or_false] <;> rfl)), (congrArg (fun z => AV.d (.fl (.bool z))) (by rw [sp_succ (by omega)]; simp only [hft, h1, h3, h4, h6, h16, h26, h28, h29, h30, h31, Bool.true_and, Bool.false_and, Bool.and_true, Bool.and_false, Bool.true_or, Bool.false_or, Bool.or_true, Bool.or_false, Bool.not_true, Bool.not_false] <;> rfl)), trivial⟩ ⟨rfl, rfl, (congrArg (fun z => Ob.bt 28 [.dv (.fl (.int .i64 x.val.fr)), .dv (.fl (.int .i64 x.val.to)), .dv (.sl 4 (List.map eBd x.bands)), .ow 46 5 (List.map eRt z)]) (le_yes (by omega) h30)), trivial⟩⟩
                · skip
                  refine rg_put (d := 111) (v := .d (.fl undef)) rfl (on rfl rfl rfl h31) ?_
                  refine rg_put (d := 112) (v := .d (.fl (.bool true))) rfl (og rfl (op_pick rfl rfl (by rw [h31]; rfl) rfl)) ?_
                  refine rg_put (d := 10) (v := .d (.fl (.bool true))) rfl (og rfl (op_assign rfl rfl rfl)) ?_
                  refine rg_done rfl ?_
                  show A _ _ _ _ _ _ _
                  refine a_region ?_
                  refine rg_put (d := 48) (v := .d (.fl (.int .i64 (k : Int)))) rfl (og rfl (op_move rfl rfl rfl)) ?_
                  refine rg_put (d := 49) (v := .d (.fl (.int .i64 (((k : Int) + 1))))) rfl (og rfl (op_bin rfl rfl rfl (fun x y w => b_add64 _ _ _ x y w (by omega)) rfl)) ?_
                  refine rg_put (d := 11) (v := .d (.fl (.int .i64 (((k : Int) + 1))))) rfl (og rfl (op_assign rfl rfl rfl)) ?_
                  refine rg_done rfl ?_
                  show ∃ i, _ ∧ _ ∧ Imp _ _ _ _ _
                  refine ⟨k + 1, (by omega), by omega, imp_forget rfl ⟨rfl, rfl, rfl, rfl, rfl, rfl, rfl, rfl, rfl, (by first | rfl | exact ci (by omega) | exact ci (by simp) | exact cd (by simp) | simp), (congrArg (fun z => AV.d (.fl (.bool z))) (by rw [fo_succ (by omega)]; simp only [hft, h1, h3, h4, h6, h16, h26, h28, h29, h30, h31, Bool.true_and, Bool.false_and, Bool.and_true, Bool.and_false, Bool.true_or, Bool.false_or, Bool.or_true, Bool.or_false] <;> rfl)), (congrArg (fun z => AV.d (.fl (.bool z))) (by rw [sp_succ (by omega)]; simp only [hft, h1, h3, h4, h6, h16, h26, h28, h29, h30, h31, Bool.true_and, Bool.false_and, Bool.and_true, Bool.and_false, Bool.true_or, Bool.false_or, Bool.or_true, Bool.or_false, Bool.not_true, Bool.not_false] <;> rfl)), trivial⟩ ⟨rfl, rfl, (congrArg (fun z => Ob.bt 28 [.dv (.fl (.int .i64 x.val.fr)), .dv (.fl (.int .i64 x.val.to)), .dv (.sl 4 (List.map eBd x.bands)), .ow 46 5 (List.map eRt z)]) (le_yes (by omega) h30)), trivial⟩⟩
              · skip
                have h32 := f_not h29
                refine a_skip ?_
                show A _ _ _ _ _ _ _
                refine a_region ?_
                refine rg_put (d := 48) (v := .d (.fl (.int .i64 (k : Int)))) rfl (og rfl (op_move rfl rfl rfl)) ?_
                refine rg_put (d := 49) (v := .d (.fl (.int .i64 (((k : Int) + 1))))) rfl (og rfl (op_bin rfl rfl rfl (fun x y w => b_add64 _ _ _ x y w (by omega)) rfl)) ?_
                refine rg_put (d := 11) (v := .d (.fl (.int .i64 (((k : Int) + 1))))) rfl (og rfl (op_assign rfl rfl rfl)) ?_
                refine rg_done rfl ?_
                show ∃ i, _ ∧ _ ∧ Imp _ _ _ _ _
                refine ⟨k + 1, (by omega), by omega, imp_forget rfl ⟨rfl, rfl, rfl, rfl, rfl, rfl, rfl, rfl, rfl, (by first | rfl | exact ci (by omega) | exact ci (by simp) | exact cd (by simp) | simp), (congrArg (fun z => AV.d (.fl (.bool z))) (by rw [fo_succ (by omega)]; simp only [hft, h1, h3, h4, h6, h16, h26, h28, h29, h32, Bool.true_and, Bool.false_and, Bool.and_true, Bool.and_false, Bool.true_or, Bool.false_or, Bool.or_true, Bool.or_false] <;> rfl)), (congrArg (fun z => AV.d (.fl (.bool z))) (by rw [sp_succ (by omega)]; simp only [hft, h1, h3, h4, h6, h16, h26, h28, h29, h32, Bool.true_and, Bool.false_and, Bool.and_true, Bool.and_false, Bool.true_or, Bool.false_or, Bool.or_true, Bool.or_false, Bool.not_true, Bool.not_false] <;> rfl)), trivial⟩ ⟨rfl, rfl, (congrArg (fun z => Ob.bt 28 [.dv (.fl (.int .i64 x.val.fr)), .dv (.fl (.int .i64 x.val.to)), .dv (.sl 4 (List.map eBd x.bands)), .ow 46 5 (List.map eRt z)]) (le_no (by omega) h32)), trivial⟩⟩
            · skip
              refine rg_put (d := 87) (v := .d (.fl undef)) rfl (on rfl rfl rfl h28) ?_
              refine rg_put (d := 88) (v := .d (.fl undef)) rfl (on rfl rfl rfl h28) ?_
              refine rg_put (d := 89) (v := .d (.fl undef)) rfl (ou rfl rfl rfl) ?_
              refine rg_put (d := 90) (v := .d (.fl undef)) rfl (ou rfl rfl rfl) ?_
              refine rg_put (d := 91) (v := .d (.fl undef)) rfl (ou rfl rfl rfl) ?_
              refine rg_put (d := 92) (v := .d (.fl undef)) rfl (ou rfl rfl rfl) ?_
              refine rg_put (d := 93) (v := .d (.fl undef)) rfl (on rfl rfl rfl h28) ?_
              refine rg_put (d := 94) (v := .d (.fl (.bool true))) rfl (og rfl (op_pick rfl rfl (by rw [h28]; rfl) rfl)) ?_
              refine rg_put (d := 7) (v := .d (.fl (.bool true))) rfl (og rfl (op_assign rfl rfl rfl)) ?_
              refine rg_done rfl ?_
              refine a_seq ?_
              refine a_rseq ?_
              refine rg_put (d := 95) (v := .d (.fl (.bool false))) rfl (og rfl (op_move rfl rfl rfl)) ?_
              refine rg_put (d := 96) (v := .d (.fl (.bool false))) rfl (og rfl (op_move rfl rfl rfl)) ?_
              refine rg_put (d := 97) (v := .d (.fl undef)) rfl (on rfl rfl rfl rfl) ?_
              refine rg_put (d := 98) (v := .d (.fl undef)) rfl (on rfl rfl rfl rfl) ?_
              refine rg_put (d := 99) (v := .d (.fl (.bool false))) rfl (og rfl (op_pick rfl rfl rfl rfl)) ?_
              refine rg_done rfl ?_
              refine a_condF rfl rfl ?_
              refine a_skip ?_
              show A _ _ _ _ _ _ _
              refine a_rseq ?_
              refine rg_put (d := 100) (v := .pt 104 3) rfl (og rfl (of_eff (s_field_pt rfl Try.underlying46 rfl ti9 rfl rfl rfl) rfl)) ?_
              refine rg_put (d := 101) (v := .d (.fl (.string ((ix x.rates k).band)))) rfl (og rfl (op_load_pt rfl Try.underlying9 rfl rfl rfl rfl rfl)) ?_
              refine rg_put (d := 102) (v := .d (.fl (.bool ((!(sEq ((ix x.rates k).band) (⟨#[]⟩))))))) rfl (og rfl (op_bin rfl rfl rfl (b_sne _ _ _) rfl)) ?_
              refine rg_done rfl ?_
              refine a_cond rfl (fun h33 => ?_) (fun h33 => ?_)
              · skip
                have h34 := t_not h33
                refine a_rseq ?_
                refine rg_put (d := 103) (v := .pt 103 3) rfl (og rfl (of_eff (s_field_pt rfl Try.underlying28 rfl ti26 rfl rfl rfl) rfl)) ?_
                refine rg_nam (d := 104) (v := .ow 115) (m := 115) (nw := [(115, .tr 46 5 (tD eRt (le x k))), (103, .bt 28 [.dv (.fl (.int .i64 x.val.fr)), .dv (.fl (.int .i64 x.val.to)), .dv (.sl 4 (List.map eBd x.bands)), .un])]) rfl (og rfl (of_eff (op_takeBt 115 rfl Try.underlying26 rfl rfl rfl rfl rfl rfl) rfl)) rfl ?_
                refine rg_put (d := 105) (v := .d (.ag (eRt (ix x.rates k)))) rfl (og rfl (of_eff (s_load_pts rfl Try.underlying46 rfl ti46 rfl rfl rfl rfl) rfl)) ?_
                refine rg_put (d := 106) (v := .d (.sl 5 (List.map eRt [(ix x.rates k)]))) rfl (og rfl (of_eff (op_slices rfl Try.underlying26 ti46 rfl rfl rfl (by kernel_rfl) (xs := [.ag (eRt (ix x.rates k))]) rfl rfl (.cons rfl rfl (.d _) rfl rfl rfl .nil) rfl) rfl)) ?_
                refine rg_nam (d := 107) (v := .ow 116) (m := 116) (nw := [(116, .tr 46 5 (tD eRt (((le x k) ++ [(ix x.rates k)])))), (115, .no)]) rfl (og rfl (of_eff (s_append_td 116 rfl Try.underlying26 ti46 rfl rfl rfl rfl rfl (.d _) (by simp only [List.length_cons, List.length_nil]; have := le_len x k; omega) rfl) rfl)) rfl ?_
                refine rg_put (d := 108) (v := .pt 103 3) rfl (og rfl (of_eff (s_field_pt rfl Try.underlying28 rfl ti26 rfl rfl rfl) rfl)) ?_
                refine rg_sto (nw := [(103, .bt 28 [.dv (.fl (.int .i64 x.val.fr)), .dv (.fl (.int .i64 x.val.to)), .dv (.sl 4 (List.map eBd x.bands)), .ow 46 5 (List.map eRt (((le x k) ++ [(ix x.rates k)])))]), (116, .no)]) rfl (og rfl (of_eff (op_store_bt rfl rfl ti26 rfl rfl rfl (.tr rfl) rfl rfl rfl) rfl)) ?_
                refine rg_done rfl ?_
                refine a_region ?_
                refine rg_put (d := 109) (v := .d (.fl (.bool (sp x a k)))) rfl (og rfl (op_move rfl rfl rfl)) ?_
                refine rg_put (d := 110) (v := .d (.fl (.bool (sp x a k)))) rfl (og rfl (op_move rfl rfl rfl)) ?_
                rcases fot (sp x a k) with h35 | h35
                · skip
                  refine rg_put (d := 111) (v := .d (.fl (.bool false))) rfl (oy rfl rfl rfl h35 (op_move rfl rfl rfl)) ?_
                  refine rg_put (d := 112) (v := .d (.fl (.bool false))) rfl (og rfl (op_pick rfl rfl (by rw [h35]; rfl) rfl)) ?_
                  refine rg_put (d := 10) (v := .d (.fl (.bool false))) rfl (og rfl (op_assign rfl rfl rfl)) ?_
                  refine rg_done rfl ?_
                  show A _ _ _ _ _ _ _
                  refine a_region ?_
                  refine rg_put (d := 48) (v := .d (.fl (.int .i64 (k : Int)))) rfl (og rfl (op_move rfl rfl rfl)) ?_
                  refine rg_put (d := 49) (v := .d (.fl (.int .i64 (((k : Int) + 1))))) rfl (og rfl (op_bin rfl rfl rfl (fun x y w => b_add64 _ _ _ x y w (by omega)) rfl)) ?_
                  refine rg_put (d := 11) (v := .d (.fl (.int .i64 (((k : Int) + 1))))) rfl (og rfl (op_assign rfl rfl rfl)) ?_
                  refine rg_done rfl ?_
                  show ∃ i, _ ∧ _ ∧ Imp _ _ _ _ _
                  refine ⟨k + 1, (by omega), by omega, imp_forget rfl ⟨rfl, rfl, rfl, rfl, rfl, rfl, rfl, rfl, rfl, (by first | rfl | exact ci (by omega) | exact ci (by simp) | exact cd (by simp) | simp), (congrArg (fun z => AV.d (.fl (.bool z))) (by rw [fo_succ (by omega)]; simp only [hft, h1, h3, h4, h6, h16, h26, h28, h33, h34, h35, Bool.true_and, Bool.false_and, Bool.and_true, Bool.and_false, Bool.true_or, Bool.false_or, Bool.or_true, Bool.or_false] <;> rfl)), (congrArg (fun z => AV.d (.fl (.bool z))) (by rw [sp_succ (by omega)]; simp only [hft, h1, h3, h4, h6, h16, h26, h28, h33, h34, h35, Bool.true_and, Bool.false_and, Bool.and_true, Bool.and_false, Bool.true_or, Bool.false_or, Bool.or_true, Bool.or_false, Bool.not_true, Bool.not_false] <;> rfl)), trivial⟩ ⟨rfl, rfl, (congrArg (fun z => Ob.bt 28 [.dv (.fl (.int .i64 x.val.fr)), .dv (.fl (.int .i64 x.val.to)), .dv (.sl 4 (List.map eBd x.bands)), .ow 46 5 (List.map eRt z)]) (le_yes (by omega) h34)), trivial⟩⟩
                · skip
                  refine rg_put (d := 111) (v := .d (.fl undef)) rfl (on rfl rfl rfl h35) ?_
                  refine rg_put (d := 112) (v := .d (.fl (.bool true))) rfl (og rfl (op_pick rfl rfl (by rw [h35]; rfl) rfl)) ?_
                  refine rg_put (d := 10) (v := .d (.fl (.bool true))) rfl (og rfl (op_assign rfl rfl rfl)) ?_
                  refine rg_done rfl ?_
                  show A _ _ _ _ _ _ _
                  refine a_region ?_
                  refine rg_put (d := 48) (v := .d (.fl (.int .i64 (k : Int)))) rfl (og rfl (op_move rfl rfl rfl)) ?_
                  refine rg_put (d := 49) (v := .d (.fl (.int .i64 (((k : Int) + 1))))) rfl (og rfl (op_bin rfl rfl rfl (fun x y w => b_add64 _ _ _ x y w (by omega)) rfl)) ?_
                  refine rg_put (d := 11) (v := .d (.fl (.int .i64 (((k : Int) + 1))))) rfl (og rfl (op_assign rfl rfl rfl)) ?_
                  refine rg_done rfl ?_
                  show ∃ i, _ ∧ _ ∧ Imp _ _ _ _ _
                  refine ⟨k + 1, (by omega), by omega, imp_forget rfl ⟨rfl, rfl, rfl, rfl, rfl, rfl, rfl, rfl, rfl, (by first | rfl | exact ci (by omega) | exact ci (by simp) | exact cd (by simp) | simp), (congrArg (fun z => AV.d (.fl (.bool z))) (by rw [fo_succ (by omega)]; simp only [hft, h1, h3, h4, h6, h16, h26, h28, h33, h34, h35, Bool.true_and, Bool.false_and, Bool.and_true, Bool.and_false, Bool.true_or, Bool.false_or, Bool.or_true, Bool.or_false] <;> rfl)), (congrArg (fun z => AV.d (.fl (.bool z))) (by rw [sp_succ (by omega)]; simp only [hft, h1, h3, h4, h6, h16, h26, h28, h33, h34, h35, Bool.true_and, Bool.false_and, Bool.and_true, Bool.and_false, Bool.true_or, Bool.false_or, Bool.or_true, Bool.or_false, Bool.not_true, Bool.not_false] <;> rfl)), trivial⟩ ⟨rfl, rfl, (congrArg (fun z => Ob.bt 28 [.dv (.fl (.int .i64 x.val.fr)), .dv (.fl (.int .i64 x.val.to)), .dv (.sl 4 (List.map eBd x.bands)), .ow 46 5 (List.map eRt z)]) (le_yes (by omega) h34)), trivial⟩⟩
              · skip
                have h36 := f_not h33
                refine a_skip ?_
                show A _ _ _ _ _ _ _
                refine a_region ?_
                refine rg_put (d := 48) (v := .d (.fl (.int .i64 (k : Int)))) rfl (og rfl (op_move rfl rfl rfl)) ?_
                refine rg_put (d := 49) (v := .d (.fl (.int .i64 (((k : Int) + 1))))) rfl (og rfl (op_bin rfl rfl rfl (fun x y w => b_add64 _ _ _ x y w (by omega)) rfl)) ?_
                refine rg_put (d := 11) (v := .d (.fl (.int .i64 (((k : Int) + 1))))) rfl (og rfl (op_assign rfl rfl rfl)) ?_
                refine rg_done rfl ?_
                show ∃ i, _ ∧ _ ∧ Imp _ _ _ _ _
                refine ⟨k + 1, (by omega), by omega, imp_forget rfl ⟨rfl, rfl, rfl, rfl, rfl, rfl, rfl, rfl, rfl, (by first | rfl | exact ci (by omega) | exact ci (by simp) | exact cd (by simp) | simp), (congrArg (fun z => AV.d (.fl (.bool z))) (by rw [fo_succ (by omega)]; simp only [hft, h1, h3, h4, h6, h16, h26, h28, h33, h36, Bool.true_and, Bool.false_and, Bool.and_true, Bool.and_false, Bool.true_or, Bool.false_or, Bool.or_true, Bool.or_false] <;> rfl)), (congrArg (fun z => AV.d (.fl (.bool z))) (by rw [sp_succ (by omega)]; simp only [hft, h1, h3, h4, h6, h16, h26, h28, h33, h36, Bool.true_and, Bool.false_and, Bool.and_true, Bool.and_false, Bool.true_or, Bool.false_or, Bool.or_true, Bool.or_false, Bool.not_true, Bool.not_false] <;> rfl)), trivial⟩ ⟨rfl, rfl, (congrArg (fun z => Ob.bt 28 [.dv (.fl (.int .i64 x.val.fr)), .dv (.fl (.int .i64 x.val.to)), .dv (.sl 4 (List.map eBd x.bands)), .ow 46 5 (List.map eRt z)]) (le_no (by omega) h36)), trivial⟩⟩
          · skip
            have h37 := t_beq h26
            refine rg_put (d := 75) (v := .pt 104 3) rfl (oy rfl rfl rfl h26 (of_eff (s_field_pt rfl Try.underlying46 rfl ti9 rfl rfl rfl) rfl)) ?_
            refine rg_put (d := 76) (v := .d (.fl (.string ((ix x.rates k).band)))) rfl (oy rfl rfl rfl h26 (op_load_pt rfl Try.underlying9 rfl rfl rfl rfl rfl)) ?_
            refine rg_put (d := 77) (v := .d (.fl (.bool ((sEq ((ix x.rates k).band) (⟨#[]⟩)))))) rfl (oy rfl rfl rfl h26 (op_bin rfl rfl rfl (b_seq _ _ _) rfl)) ?_
            refine rg_put (d := 78) (v := .d (.fl (.bool ((sEq ((ix x.rates k).band) (⟨#[]⟩)))))) rfl (oy rfl rfl rfl h26 (op_move rfl rfl rfl)) ?_
            rcases fot ((sEq ((ix x.rates k).band) (⟨#[]⟩))) with h38 | h38
            · skip
              refine rg_put (d := 79) (v := .pt 104 3) rfl (oy rfl rfl rfl h38 (of_eff (s_field_pt rfl Try.underlying46 rfl ti9 rfl rfl rfl) rfl)) ?_
              refine rg_put (d := 80) (v := .d (.fl (.string ((ix x.rates k).band)))) rfl (oy rfl rfl rfl h38 (op_load_pt rfl Try.underlying9 rfl rfl rfl rfl rfl)) ?_
              refine rg_put (d := 81) (v := .d (.fl (.string (bnd x.bands a.time)))) rfl (oy rfl rfl rfl h38 (op_move rfl rfl rfl)) ?_
              refine rg_put (d := 82) (v := .d (.fl (.bool ((sEq ((ix x.rates k).band) (bnd x.bands a.time)))))) rfl (oy rfl rfl rfl h38 (op_bin rfl rfl rfl (b_seq _ _ _) rfl)) ?_
              refine rg_put (d := 83) (v := .d (.fl (.bool ((sEq ((ix x.rates k).band) (bnd x.bands a.time)))))) rfl (oy rfl rfl rfl h26 (op_pick rfl rfl (by rw [h38]; rfl) rfl)) ?_
              refine rg_put (d := 84) (v := .d (.fl (.bool ((sEq ((ix x.rates k).band) (bnd x.bands a.time)))))) rfl (og rfl (op_pick rfl rfl (by rw [h26]; rfl) rfl)) ?_
              refine rg_put (d := 13) (v := .d (.fl (.bool ((sEq ((ix x.rates k).band) (bnd x.bands a.time)))))) rfl (og rfl (op_assign rfl rfl rfl)) ?_
              refine rg_done rfl ?_
              refine a_rseq ?_
              have hft : ft x a (ix x.rates k) = (sEq ((ix x.rates k).band) (bnd x.bands a.time)) := by unfold ft; simp only [h1, h3, h4, h6, h16, h26, h38, Bool.true_and, Bool.false_and, Bool.and_true, Bool.and_false, Bool.true_or, Bool.false_or, Bool.or_true, Bool.or_false] <;> rfl
              refine rg_put (d := 85) (v := .d (.fl (.bool (fo x a k)))) rfl (og rfl (op_move rfl rfl rfl)) ?_
              refine rg_put (d := 86) (v := .d (.fl (.bool (fo x a k)))) rfl (og rfl (op_move rfl rfl rfl)) ?_
              rcases fot (fo x a k) with h39 | h39
              · skip
                refine rg_put (d := 87) (v := .d (.fl (.bool ((sEq ((ix x.rates k).band) (bnd x.bands a.time)))))) rfl (oy rfl rfl rfl h39 (op_move rfl rfl rfl)) ?_
                refine rg_put (d := 88) (v := .d (.fl (.bool ((sEq ((ix x.rates k).band) (bnd x.bands a.time)))))) rfl (oy rfl rfl rfl h39 (op_move rfl rfl rfl)) ?_
                rcases fot ((sEq ((ix x.rates k).band) (bnd x.bands a.time))) with h40 | h40
                · skip
                  refine rg_put (d := 89) (v := .d (.fl undef)) rfl (on rfl rfl rfl h40) ?_
                  refine rg_put (d := 90) (v := .d (.fl undef)) rfl (on rfl rfl rfl h40) ?_
                  refine rg_put (d := 91) (v := .d (.fl undef)) rfl (on rfl rfl rfl h40) ?_
                  refine rg_put (d := 92) (v := .d (.fl undef)) rfl (on rfl rfl rfl h40) ?_
                  refine rg_put (d := 93) (v := .d (.fl (.bool false))) rfl (oy rfl rfl rfl h39 (op_pick rfl rfl (by rw [h40]; rfl) rfl)) ?_
                  refine rg_put (d := 94) (v := .d (.fl (.bool false))) rfl (og rfl (op_pick rfl rfl (by rw [h39]; rfl) rfl)) ?_
                  refine rg_put (d := 7) (v := .d (.fl (.bool false))) rfl (og rfl (op_assign rfl rfl rfl)) ?_
                  refine rg_done rfl ?_
                  refine a_seq ?_
                  refine a_rseq ?_
                  refine rg_put (d := 95) (v := .d (.fl (.bool ((sEq ((ix x.rates k).band) (bnd x.bands a.time)))))) rfl (og rfl (op_move rfl rfl rfl)) ?_
                  refine rg_put (d := 96) (v := .d (.fl (.bool ((sEq ((ix x.rates k).band) (bnd x.bands a.time)))))) rfl (og rfl (op_move rfl rfl rfl)) ?_
                  refine rg_put (d := 97) (v := .d (.fl undef)) rfl (on rfl rfl rfl h40) ?_
                  refine rg_put (d := 98) (v := .d (.fl undef)) rfl (on rfl rfl rfl h40) ?_
                  refine rg_put (d := 99) (v := .d (.fl (.bool false))) rfl (og rfl (op_pick rfl rfl (by rw [h40]; rfl) rfl)) ?_
                  refine rg_done rfl ?_
                  refine a_condF rfl rfl ?_
                  refine a_skip ?_
                  show A _ _ _ _ _ _ _
                  refine a_rseq ?_
                  refine rg_put (d := 100) (v := .pt 104 3) rfl (og rfl (of_eff (s_field_pt rfl Try.underlying46 rfl ti9 rfl rfl rfl) rfl)) ?_
                  refine rg_put (d := 101) (v := .d (.fl (.string ((ix x.rates k).band)))) rfl (og rfl (op_load_pt rfl Try.underlying9 rfl rfl rfl rfl rfl)) ?_
                  refine rg_put (d := 102) (v := .d (.fl (.bool ((!(sEq ((ix x.rates k).band) (⟨#[]⟩))))))) rfl (og rfl (op_bin rfl rfl rfl (b_sne _ _ _) rfl)) ?_
                  refine rg_done rfl ?_
                  refine a_condK rfl (not_t' h38) ?_
                  refine a_rseq ?_
                  refine rg_put (d := 103) (v := .pt 103 3) rfl (og rfl (of_eff (s_field_pt rfl Try.underlying28 rfl ti26 rfl rfl rfl) rfl)) ?_
                  refine rg_nam (d := 104) (v := .ow 117) (m := 117) (nw := [(117, .tr 46 5 (tD eRt (le x k))), (103, .bt 28 [.dv (.fl (.int .i64 x.val.fr)), .dv (.fl (.int .i64 x.val.to)), .dv (.sl 4 (List.map eBd x.bands)), .un])]) rfl (og rfl (of_eff (op_takeBt 117 rfl Try.underlying26 rfl rfl rfl rfl rfl rfl) rfl)) rfl ?_
                  refine rg_put (d := 105) (v := .d (.ag (eRt (ix x.rates k)))) rfl (og rfl (of_eff (s_load_pts rfl Try.underlying46 rfl ti46 rfl rfl rfl rfl) rfl)) ?_
                  refine rg_put (d := 106) (v := .d (.sl 5 (List.map eRt [(ix x.rates k)]))) rfl (og rfl (of_eff (op_slices rfl Try.underlying26 ti46 rfl rfl rfl (by kernel_rfl) (xs := [.ag (eRt (ix x.rates k))]) rfl rfl (.cons rfl rfl (.d _) rfl rfl rfl .nil) rfl) rfl)) ?_
                  refine rg_nam (d := 107) (v := .ow 118) (m := 118) (nw := [(118, .tr 46 5 (tD eRt (((le x k) ++ [(ix x.rates k)])))), (117, .no)]) rfl (og rfl (of_eff (s_append_td 118 rfl Try.underlying26 ti46 rfl rfl rfl rfl rfl (.d _) (by simp only [List.length_cons, List.length_nil]; have := le_len x k; omega) rfl) rfl)) rfl ?_
                  refine rg_put (d := 108) (v := .pt 103 3) rfl (og rfl (of_eff (s_field_pt rfl Try.underlying28 rfl ti26 rfl rfl rfl) rfl)) ?_
                  refine rg_sto (nw := [(103, .bt 28 [.dv (.fl (.int .i64 x.val.fr)), .dv (.fl (.int .i64 x.val.to)), .dv (.sl 4 (List.map eBd x.bands)), .ow 46 5 (List.map eRt (((le x k) ++ [(ix x.rates k)])))]), (118, .no)]) rfl (og rfl (of_eff (op_store_bt rfl rfl ti26 rfl rfl rfl (.tr rfl) rfl rfl rfl) rfl)) ?_
                  refine rg_done rfl ?_
                  refine a_region ?_
                  refine rg_put (d := 109) (v := .d (.fl (.bool (sp x a k)))) rfl (og rfl (op_move rfl rfl rfl)) ?_
                  refine rg_put (d := 110) (v := .d (.fl (.bool (sp x a k)))) rfl (og rfl (op_move rfl rfl rfl)) ?_
                  rcases fot (sp x a k) with h41 | h41
                  · skip
                    refine rg_put (d := 111) (v := .d (.fl (.bool ((sEq ((ix x.rates k).band) (bnd x.bands a.time)))))) rfl (oy rfl rfl rfl h41 (op_move rfl rfl rfl)) ?_
                    refine rg_put (d := 112) (v := .d (.fl (.bool ((sEq ((ix x.rates k).band) (bnd x.bands a.time)))))) rfl (og rfl (op_pick rfl rfl (by rw [h41]; rfl) rfl)) ?_
                    refine rg_put (d := 10) (v := .d (.fl (.bool ((sEq ((ix x.rates k).band) (bnd x.bands a.time)))))) rfl (og rfl (op_assign rfl rfl rfl)) ?_
                    refine rg_done rfl ?_
                    show A _ _ _ _ _ _ _
                    refine a_region ?_
                    refine rg_put (d := 48) (v := .d (.fl (.int .i64 (k : Int)))) rfl (og rfl (op_move rfl rfl rfl)) ?_
                    refine rg_put (d := 49) (v := .d (.fl (.int .i64 (((k : Int) + 1))))) rfl (og rfl (op_bin rfl rfl rfl (fun x y w => b_add64 _ _ _ x y w (by omega)) rfl)) ?_
                    refine rg_put (d := 11) (v := .d (.fl (.int .i64 (((k : Int) + 1))))) rfl (og rfl (op_assign rfl rfl rfl)) ?_
                    refine rg_done rfl ?_
                    show ∃ i, _ ∧ _ ∧ Imp _ _ _ _ _
                    refine ⟨k + 1, (by omega), by omega, imp_forget rfl ⟨rfl, rfl, rfl, rfl, rfl, rfl, rfl, rfl, rfl, (by first | rfl | exact ci (by omega) | exact ci (by simp) | exact cd (by simp) | simp), (congrArg (fun z => AV.d (.fl (.bool z))) (by rw [fo_succ (by omega)]; simp only [(hft.trans h40), h1, h3, h4, h6, h16, h26, h38, h39, h40, h41, Bool.true_and, Bool.false_and, Bool.and_true, Bool.and_false, Bool.true_or, Bool.false_or, Bool.or_true, Bool.or_false] <;> rfl)), (congrArg (fun z => AV.d (.fl (.bool z))) (by rw [sp_succ (by omega)]; simp only [(hft.trans h40), h1, h3, h4, h6, h16, h26, h38, h39, h40, h41, Bool.true_and, Bool.false_and, Bool.and_true, Bool.and_false, Bool.true_or, Bool.false_or, Bool.or_true, Bool.or_false, Bool.not_true, Bool.not_false] <;> rfl)), trivial⟩ ⟨rfl, rfl, (congrArg (fun z => Ob.bt 28 [.dv (.fl (.int .i64 x.val.fr)), .dv (.fl (.int .i64 x.val.to)), .dv (.sl 4 (List.map eBd x.bands)), .ow 46 5 (List.map eRt z)]) (le_yes (by omega) h38)), trivial⟩⟩
                  · skip
                    refine rg_put (d := 111) (v := .d (.fl undef)) rfl (on rfl rfl rfl h41) ?_
                    refine rg_put (d := 112) (v := .d (.fl (.bool true))) rfl (og rfl (op_pick rfl rfl (by rw [h41]; rfl) rfl)) ?_
                    refine rg_put (d := 10) (v := .d (.fl (.bool true))) rfl (og rfl (op_assign rfl rfl rfl)) ?_
                    refine rg_done rfl ?_
                    show A _ _ _ _ _ _ _
                    refine a_region ?_
                    refine rg_put (d := 48) (v := .d (.fl (.int .i64 (k : Int)))) rfl (og rfl (op_move rfl rfl rfl)) ?_
                    refine rg_put (d := 49) (v := .d (.fl (.int .i64 (((k : Int) + 1))))) rfl (og rfl (op_bin rfl rfl rfl (fun x y w => b_add64 _ _ _ x y w (by omega)) rfl)) ?_
                    refine rg_put (d := 11) (v := .d (.fl (.int .i64 (((k : Int) + 1))))) rfl (og rfl (op_assign rfl rfl rfl)) ?_
                    refine rg_done rfl ?_
                    show ∃ i, _ ∧ _ ∧ Imp _ _ _ _ _
                    refine ⟨k + 1, (by omega), by omega, imp_forget rfl ⟨rfl, rfl, rfl, rfl, rfl, rfl, rfl, rfl, rfl, (by first | rfl | exact ci (by omega) | exact ci (by simp) | exact cd (by simp) | simp), (congrArg (fun z => AV.d (.fl (.bool z))) (by rw [fo_succ (by omega)]; simp only [(hft.trans h40), h1, h3, h4, h6, h16, h26, h38, h39, h40, h41, Bool.true_and, Bool.false_and, Bool.and_true, Bool.and_false, Bool.true_or, Bool.false_or, Bool.or_true, Bool.or_false] <;> rfl)), (congrArg (fun z => AV.d (.fl (.bool z))) (by rw [sp_succ (by omega)]; simp only [(hft.trans h40), h1, h3, h4, h6, h16, h26, h38, h39, h40, h41, Bool.true_and, Bool.false_and, Bool.and_true, Bool.and_false, Bool.true_or, Bool.false_or, Bool.or_true, Bool.or_false, Bool.not_true, Bool.not_false] <;> rfl)), trivial⟩ ⟨rfl, rfl, (congrArg (fun z => Ob.bt 28 [.dv (.fl (.int .i64 x.val.fr)), .dv (.fl (.int .i64 x.val.to)), .dv (.sl 4 (List.map eBd x.bands)), .ow 46 5 (List.map eRt z)]) (le_yes (by omega) h38)), trivial⟩⟩
                · skip
                  refine rg_put (d := 89) (v := .pt 104 4) rfl (oy rfl rfl rfl h40 (of_eff (s_field_pt rfl Try.underlying46 rfl ti3 rfl rfl rfl) rfl)) ?_
                  refine rg_put (d := 90) (v := .d (.fl (.int .i64 ((ix x.rates k).cents)))) rfl (oy rfl rfl rfl h40 (op_load_pt rfl Try.underlying3 rfl rfl rfl rfl rfl)) ?_
                  refine rg_put (d := 91) (v := .d (.fl (.int .i64 ((rte x a.fr a.to a.cls a.time).1)))) rfl (oy rfl rfl rfl h40 (op_move rfl rfl rfl)) ?_
                  refine rg_put (d := 92) (v := .d (.fl (.bool (((ix x.rates k).cents == (rte x a.fr a.to a.cls a.time).1))))) rfl (oy rfl rfl rfl h40 (op_bin rfl rfl rfl (b_eql _ _ _ _) rfl)) ?_
                  refine rg_put (d := 93) (v := .d (.fl (.bool (((ix x.rates k).cents == (rte x a.fr a.to a.cls a.time).1))))) rfl (oy rfl rfl rfl h39 (op_pick rfl rfl (by rw [h40]; rfl) rfl)) ?_
                  refine rg_put (d := 94) (v := .d (.fl (.bool (((ix x.rates k).cents == (rte x a.fr a.to a.cls a.time).1))))) rfl (og rfl (op_pick rfl rfl (by rw [h39]; rfl) rfl)) ?_
                  refine rg_put (d := 7) (v := .d (.fl (.bool (((ix x.rates k).cents == (rte x a.fr a.to a.cls a.time).1))))) rfl (og rfl (op_assign rfl rfl rfl)) ?_
                  refine rg_done rfl ?_
                  refine a_seq ?_
                  refine a_rseq ?_
                  refine rg_put (d := 95) (v := .d (.fl (.bool ((sEq ((ix x.rates k).band) (bnd x.bands a.time)))))) rfl (og rfl (op_move rfl rfl rfl)) ?_
                  refine rg_put (d := 96) (v := .d (.fl (.bool ((sEq ((ix x.rates k).band) (bnd x.bands a.time)))))) rfl (og rfl (op_move rfl rfl rfl)) ?_
                  refine rg_put (d := 97) (v := .d (.fl (.int .i64 ((rte x a.fr a.to a.cls a.time).2)))) rfl (oy rfl rfl rfl h40 (op_move rfl rfl rfl)) ?_
                  refine rg_put (d := 98) (v := .d (.fl (.bool (((rte x a.fr a.to a.cls a.time).2 == 22))))) rfl (oy rfl rfl rfl h40 (op_bin rfl rfl rfl (b_eql _ _ _ _) rfl)) ?_
                  refine rg_put (d := 99) (v := .d (.fl (.bool (((rte x a.fr a.to a.cls a.time).2 == 22))))) rfl (og rfl (op_pick rfl rfl (by rw [h40]; rfl) rfl)) ?_
                  refine rg_done rfl ?_
                  refine a_condF rfl (ft_code (ix x.rates k) (hft.trans h40) (ix_mem (by omega))) ?_
                  refine a_skip ?_
                  show A _ _ _ _ _ _ _
                  refine a_rseq ?_
                  refine rg_put (d := 100) (v := .pt 104 3) rfl (og rfl (of_eff (s_field_pt rfl Try.underlying46 rfl ti9 rfl rfl rfl) rfl)) ?_
                  refine rg_put (d := 101) (v := .d (.fl (.string ((ix x.rates k).band)))) rfl (og rfl (op_load_pt rfl Try.underlying9 rfl rfl rfl rfl rfl)) ?_
                  refine rg_put (d := 102) (v := .d (.fl (.bool ((!(sEq ((ix x.rates k).band) (⟨#[]⟩))))))) rfl (og rfl (op_bin rfl rfl rfl (b_sne _ _ _) rfl)) ?_
                  refine rg_done rfl ?_
                  refine a_condK rfl (not_t' h38) ?_
                  refine a_rseq ?_
                  refine rg_put (d := 103) (v := .pt 103 3) rfl (og rfl (of_eff (s_field_pt rfl Try.underlying28 rfl ti26 rfl rfl rfl) rfl)) ?_
                  refine rg_nam (d := 104) (v := .ow 119) (m := 119) (nw := [(119, .tr 46 5 (tD eRt (le x k))), (103, .bt 28 [.dv (.fl (.int .i64 x.val.fr)), .dv (.fl (.int .i64 x.val.to)), .dv (.sl 4 (List.map eBd x.bands)), .un])]) rfl (og rfl (of_eff (op_takeBt 119 rfl Try.underlying26 rfl rfl rfl rfl rfl rfl) rfl)) rfl ?_
                  refine rg_put (d := 105) (v := .d (.ag (eRt (ix x.rates k)))) rfl (og rfl (of_eff (s_load_pts rfl Try.underlying46 rfl ti46 rfl rfl rfl rfl) rfl)) ?_
                  refine rg_put (d := 106) (v := .d (.sl 5 (List.map eRt [(ix x.rates k)]))) rfl (og rfl (of_eff (op_slices rfl Try.underlying26 ti46 rfl rfl rfl (by kernel_rfl) (xs := [.ag (eRt (ix x.rates k))]) rfl rfl (.cons rfl rfl (.d _) rfl rfl rfl .nil) rfl) rfl)) ?_
                  refine rg_nam (d := 107) (v := .ow 120) (m := 120) (nw := [(120, .tr 46 5 (tD eRt (((le x k) ++ [(ix x.rates k)])))), (119, .no)]) rfl (og rfl (of_eff (s_append_td 120 rfl Try.underlying26 ti46 rfl rfl rfl rfl rfl (.d _) (by simp only [List.length_cons, List.length_nil]; have := le_len x k; omega) rfl) rfl)) rfl ?_
                  refine rg_put (d := 108) (v := .pt 103 3) rfl (og rfl (of_eff (s_field_pt rfl Try.underlying28 rfl ti26 rfl rfl rfl) rfl)) ?_
                  refine rg_sto (nw := [(103, .bt 28 [.dv (.fl (.int .i64 x.val.fr)), .dv (.fl (.int .i64 x.val.to)), .dv (.sl 4 (List.map eBd x.bands)), .ow 46 5 (List.map eRt (((le x k) ++ [(ix x.rates k)])))]), (120, .no)]) rfl (og rfl (of_eff (op_store_bt rfl rfl ti26 rfl rfl rfl (.tr rfl) rfl rfl rfl) rfl)) ?_
                  refine rg_done rfl ?_
                  refine a_region ?_
                  refine rg_put (d := 109) (v := .d (.fl (.bool (sp x a k)))) rfl (og rfl (op_move rfl rfl rfl)) ?_
                  refine rg_put (d := 110) (v := .d (.fl (.bool (sp x a k)))) rfl (og rfl (op_move rfl rfl rfl)) ?_
                  rcases fot (sp x a k) with h42 | h42
                  · skip
                    refine rg_put (d := 111) (v := .d (.fl (.bool ((sEq ((ix x.rates k).band) (bnd x.bands a.time)))))) rfl (oy rfl rfl rfl h42 (op_move rfl rfl rfl)) ?_
                    refine rg_put (d := 112) (v := .d (.fl (.bool ((sEq ((ix x.rates k).band) (bnd x.bands a.time)))))) rfl (og rfl (op_pick rfl rfl (by rw [h42]; rfl) rfl)) ?_
                    refine rg_put (d := 10) (v := .d (.fl (.bool ((sEq ((ix x.rates k).band) (bnd x.bands a.time)))))) rfl (og rfl (op_assign rfl rfl rfl)) ?_
                    refine rg_done rfl ?_
                    show A _ _ _ _ _ _ _
                    refine a_region ?_
                    refine rg_put (d := 48) (v := .d (.fl (.int .i64 (k : Int)))) rfl (og rfl (op_move rfl rfl rfl)) ?_
                    refine rg_put (d := 49) (v := .d (.fl (.int .i64 (((k : Int) + 1))))) rfl (og rfl (op_bin rfl rfl rfl (fun x y w => b_add64 _ _ _ x y w (by omega)) rfl)) ?_
                    refine rg_put (d := 11) (v := .d (.fl (.int .i64 (((k : Int) + 1))))) rfl (og rfl (op_assign rfl rfl rfl)) ?_
                    refine rg_done rfl ?_
                    show ∃ i, _ ∧ _ ∧ Imp _ _ _ _ _
                    refine ⟨k + 1, (by omega), by omega, imp_forget rfl ⟨rfl, rfl, rfl, rfl, rfl, rfl, rfl, rfl, rfl, (by first | rfl | exact ci (by omega) | exact ci (by simp) | exact cd (by simp) | simp), (congrArg (fun z => AV.d (.fl (.bool z))) (by rw [fo_succ (by omega)]; simp only [(hft.trans h40), h1, h3, h4, h6, h16, h26, h38, h39, h40, h42, Bool.true_and, Bool.false_and, Bool.and_true, Bool.and_false, Bool.true_or, Bool.false_or, Bool.or_true, Bool.or_false] <;> rfl)), (congrArg (fun z => AV.d (.fl (.bool z))) (by rw [sp_succ (by omega)]; simp only [(hft.trans h40), h1, h3, h4, h6, h16, h26, h38, h39, h40, h42, Bool.true_and, Bool.false_and, Bool.and_true, Bool.and_false, Bool.true_or, Bool.false_or, Bool.or_true, Bool.or_false, Bool.not_true, Bool.not_false] <;> rfl)), trivial⟩ ⟨rfl, rfl, (congrArg (fun z => Ob.bt 28 [.dv (.fl (.int .i64 x.val.fr)), .dv (.fl (.int .i64 x.val.to)), .dv (.sl 4 (List.map eBd x.bands)), .ow 46 5 (List.map eRt z)]) (le_yes (by omega) h38)), trivial⟩⟩
                  · skip
                    refine rg_put (d := 111) (v := .d (.fl undef)) rfl (on rfl rfl rfl h42) ?_
                    refine rg_put (d := 112) (v := .d (.fl (.bool true))) rfl (og rfl (op_pick rfl rfl (by rw [h42]; rfl) rfl)) ?_
                    refine rg_put (d := 10) (v := .d (.fl (.bool true))) rfl (og rfl (op_assign rfl rfl rfl)) ?_
                    refine rg_done rfl ?_
                    show A _ _ _ _ _ _ _
                    refine a_region ?_
                    refine rg_put (d := 48) (v := .d (.fl (.int .i64 (k : Int)))) rfl (og rfl (op_move rfl rfl rfl)) ?_
                    refine rg_put (d := 49) (v := .d (.fl (.int .i64 (((k : Int) + 1))))) rfl (og rfl (op_bin rfl rfl rfl (fun x y w => b_add64 _ _ _ x y w (by omega)) rfl)) ?_
                    refine rg_put (d := 11) (v := .d (.fl (.int .i64 (((k : Int) + 1))))) rfl (og rfl (op_assign rfl rfl rfl)) ?_
                    refine rg_done rfl ?_
                    show ∃ i, _ ∧ _ ∧ Imp _ _ _ _ _
                    refine ⟨k + 1, (by omega), by omega, imp_forget rfl ⟨rfl, rfl, rfl, rfl, rfl, rfl, rfl, rfl, rfl, (by first | rfl | exact ci (by omega) | exact ci (by simp) | exact cd (by simp) | simp), (congrArg (fun z => AV.d (.fl (.bool z))) (by rw [fo_succ (by omega)]; simp only [(hft.trans h40), h1, h3, h4, h6, h16, h26, h38, h39, h40, h42, Bool.true_and, Bool.false_and, Bool.and_true, Bool.and_false, Bool.true_or, Bool.false_or, Bool.or_true, Bool.or_false] <;> rfl)), (congrArg (fun z => AV.d (.fl (.bool z))) (by rw [sp_succ (by omega)]; simp only [(hft.trans h40), h1, h3, h4, h6, h16, h26, h38, h39, h40, h42, Bool.true_and, Bool.false_and, Bool.and_true, Bool.and_false, Bool.true_or, Bool.false_or, Bool.or_true, Bool.or_false, Bool.not_true, Bool.not_false] <;> rfl)), trivial⟩ ⟨rfl, rfl, (congrArg (fun z => Ob.bt 28 [.dv (.fl (.int .i64 x.val.fr)), .dv (.fl (.int .i64 x.val.to)), .dv (.sl 4 (List.map eBd x.bands)), .ow 46 5 (List.map eRt z)]) (le_yes (by omega) h38)), trivial⟩⟩
              · skip
                refine rg_put (d := 87) (v := .d (.fl undef)) rfl (on rfl rfl rfl h39) ?_
                refine rg_put (d := 88) (v := .d (.fl undef)) rfl (on rfl rfl rfl h39) ?_
                refine rg_put (d := 89) (v := .d (.fl undef)) rfl (ou rfl rfl rfl) ?_
                refine rg_put (d := 90) (v := .d (.fl undef)) rfl (ou rfl rfl rfl) ?_
                refine rg_put (d := 91) (v := .d (.fl undef)) rfl (ou rfl rfl rfl) ?_
                refine rg_put (d := 92) (v := .d (.fl undef)) rfl (ou rfl rfl rfl) ?_
                refine rg_put (d := 93) (v := .d (.fl undef)) rfl (on rfl rfl rfl h39) ?_
                refine rg_put (d := 94) (v := .d (.fl (.bool true))) rfl (og rfl (op_pick rfl rfl (by rw [h39]; rfl) rfl)) ?_
                refine rg_put (d := 7) (v := .d (.fl (.bool true))) rfl (og rfl (op_assign rfl rfl rfl)) ?_
                refine rg_done rfl ?_
                refine a_seq ?_
                refine a_rseq ?_
                refine rg_put (d := 95) (v := .d (.fl (.bool ((sEq ((ix x.rates k).band) (bnd x.bands a.time)))))) rfl (og rfl (op_move rfl rfl rfl)) ?_
                refine rg_put (d := 96) (v := .d (.fl (.bool ((sEq ((ix x.rates k).band) (bnd x.bands a.time)))))) rfl (og rfl (op_move rfl rfl rfl)) ?_
                rcases fot ((sEq ((ix x.rates k).band) (bnd x.bands a.time))) with h43 | h43
                · skip
                  refine rg_put (d := 97) (v := .d (.fl undef)) rfl (on rfl rfl rfl h43) ?_
                  refine rg_put (d := 98) (v := .d (.fl undef)) rfl (on rfl rfl rfl h43) ?_
                  refine rg_put (d := 99) (v := .d (.fl (.bool false))) rfl (og rfl (op_pick rfl rfl (by rw [h43]; rfl) rfl)) ?_
                  refine rg_done rfl ?_
                  refine a_condF rfl rfl ?_
                  refine a_skip ?_
                  show A _ _ _ _ _ _ _
                  refine a_rseq ?_
                  refine rg_put (d := 100) (v := .pt 104 3) rfl (og rfl (of_eff (s_field_pt rfl Try.underlying46 rfl ti9 rfl rfl rfl) rfl)) ?_
                  refine rg_put (d := 101) (v := .d (.fl (.string ((ix x.rates k).band)))) rfl (og rfl (op_load_pt rfl Try.underlying9 rfl rfl rfl rfl rfl)) ?_
                  refine rg_put (d := 102) (v := .d (.fl (.bool ((!(sEq ((ix x.rates k).band) (⟨#[]⟩))))))) rfl (og rfl (op_bin rfl rfl rfl (b_sne _ _ _) rfl)) ?_
                  refine rg_done rfl ?_
                  refine a_condK rfl (not_t' h38) ?_
                  refine a_rseq ?_
                  refine rg_put (d := 103) (v := .pt 103 3) rfl (og rfl (of_eff (s_field_pt rfl Try.underlying28 rfl ti26 rfl rfl rfl) rfl)) ?_
                  refine rg_nam (d := 104) (v := .ow 121) (m := 121) (nw := [(121, .tr 46 5 (tD eRt (le x k))), (103, .bt 28 [.dv (.fl (.int .i64 x.val.fr)), .dv (.fl (.int .i64 x.val.to)), .dv (.sl 4 (List.map eBd x.bands)), .un])]) rfl (og rfl (of_eff (op_takeBt 121 rfl Try.underlying26 rfl rfl rfl rfl rfl rfl) rfl)) rfl ?_
                  refine rg_put (d := 105) (v := .d (.ag (eRt (ix x.rates k)))) rfl (og rfl (of_eff (s_load_pts rfl Try.underlying46 rfl ti46 rfl rfl rfl rfl) rfl)) ?_
                  refine rg_put (d := 106) (v := .d (.sl 5 (List.map eRt [(ix x.rates k)]))) rfl (og rfl (of_eff (op_slices rfl Try.underlying26 ti46 rfl rfl rfl (by kernel_rfl) (xs := [.ag (eRt (ix x.rates k))]) rfl rfl (.cons rfl rfl (.d _) rfl rfl rfl .nil) rfl) rfl)) ?_
                  refine rg_nam (d := 107) (v := .ow 122) (m := 122) (nw := [(122, .tr 46 5 (tD eRt (((le x k) ++ [(ix x.rates k)])))), (121, .no)]) rfl (og rfl (of_eff (s_append_td 122 rfl Try.underlying26 ti46 rfl rfl rfl rfl rfl (.d _) (by simp only [List.length_cons, List.length_nil]; have := le_len x k; omega) rfl) rfl)) rfl ?_
                  refine rg_put (d := 108) (v := .pt 103 3) rfl (og rfl (of_eff (s_field_pt rfl Try.underlying28 rfl ti26 rfl rfl rfl) rfl)) ?_
                  refine rg_sto (nw := [(103, .bt 28 [.dv (.fl (.int .i64 x.val.fr)), .dv (.fl (.int .i64 x.val.to)), .dv (.sl 4 (List.map eBd x.bands)), .ow 46 5 (List.map eRt (((le x k) ++ [(ix x.rates k)])))]), (122, .no)]) rfl (og rfl (of_eff (op_store_bt rfl rfl ti26 rfl rfl rfl (.tr rfl) rfl rfl rfl) rfl)) ?_
                  refine rg_done rfl ?_
                  refine a_region ?_
                  refine rg_put (d := 109) (v := .d (.fl (.bool (sp x a k)))) rfl (og rfl (op_move rfl rfl rfl)) ?_
                  refine rg_put (d := 110) (v := .d (.fl (.bool (sp x a k)))) rfl (og rfl (op_move rfl rfl rfl)) ?_
                  rcases fot (sp x a k) with h44 | h44
                  · skip
                    refine rg_put (d := 111) (v := .d (.fl (.bool ((sEq ((ix x.rates k).band) (bnd x.bands a.time)))))) rfl (oy rfl rfl rfl h44 (op_move rfl rfl rfl)) ?_
                    refine rg_put (d := 112) (v := .d (.fl (.bool ((sEq ((ix x.rates k).band) (bnd x.bands a.time)))))) rfl (og rfl (op_pick rfl rfl (by rw [h44]; rfl) rfl)) ?_
                    refine rg_put (d := 10) (v := .d (.fl (.bool ((sEq ((ix x.rates k).band) (bnd x.bands a.time)))))) rfl (og rfl (op_assign rfl rfl rfl)) ?_
                    refine rg_done rfl ?_
                    show A _ _ _ _ _ _ _
                    refine a_region ?_
                    refine rg_put (d := 48) (v := .d (.fl (.int .i64 (k : Int)))) rfl (og rfl (op_move rfl rfl rfl)) ?_
                    refine rg_put (d := 49) (v := .d (.fl (.int .i64 (((k : Int) + 1))))) rfl (og rfl (op_bin rfl rfl rfl (fun x y w => b_add64 _ _ _ x y w (by omega)) rfl)) ?_
                    refine rg_put (d := 11) (v := .d (.fl (.int .i64 (((k : Int) + 1))))) rfl (og rfl (op_assign rfl rfl rfl)) ?_
                    refine rg_done rfl ?_
                    show ∃ i, _ ∧ _ ∧ Imp _ _ _ _ _
                    refine ⟨k + 1, (by omega), by omega, imp_forget rfl ⟨rfl, rfl, rfl, rfl, rfl, rfl, rfl, rfl, rfl, (by first | rfl | exact ci (by omega) | exact ci (by simp) | exact cd (by simp) | simp), (congrArg (fun z => AV.d (.fl (.bool z))) (by rw [fo_succ (by omega)]; simp only [(hft.trans h43), h1, h3, h4, h6, h16, h26, h38, h39, h43, h44, Bool.true_and, Bool.false_and, Bool.and_true, Bool.and_false, Bool.true_or, Bool.false_or, Bool.or_true, Bool.or_false] <;> rfl)), (congrArg (fun z => AV.d (.fl (.bool z))) (by rw [sp_succ (by omega)]; simp only [(hft.trans h43), h1, h3, h4, h6, h16, h26, h38, h39, h43, h44, Bool.true_and, Bool.false_and, Bool.and_true, Bool.and_false, Bool.true_or, Bool.false_or, Bool.or_true, Bool.or_false, Bool.not_true, Bool.not_false] <;> rfl)), trivial⟩ ⟨rfl, rfl, (congrArg (fun z => Ob.bt 28 [.dv (.fl (.int .i64 x.val.fr)), .dv (.fl (.int .i64 x.val.to)), .dv (.sl 4 (List.map eBd x.bands)), .ow 46 5 (List.map eRt z)]) (le_yes (by omega) h38)), trivial⟩⟩
                  · skip
                    refine rg_put (d := 111) (v := .d (.fl undef)) rfl (on rfl rfl rfl h44) ?_
                    refine rg_put (d := 112) (v := .d (.fl (.bool true))) rfl (og rfl (op_pick rfl rfl (by rw [h44]; rfl) rfl)) ?_
                    refine rg_put (d := 10) (v := .d (.fl (.bool true))) rfl (og rfl (op_assign rfl rfl rfl)) ?_
                    refine rg_done rfl ?_
                    show A _ _ _ _ _ _ _
                    refine a_region ?_
                    refine rg_put (d := 48) (v := .d (.fl (.int .i64 (k : Int)))) rfl (og rfl (op_move rfl rfl rfl)) ?_
                    refine rg_put (d := 49) (v := .d (.fl (.int .i64 (((k : Int) + 1))))) rfl (og rfl (op_bin rfl rfl rfl (fun x y w => b_add64 _ _ _ x y w (by omega)) rfl)) ?_
                    refine rg_put (d := 11) (v := .d (.fl (.int .i64 (((k : Int) + 1))))) rfl (og rfl (op_assign rfl rfl rfl)) ?_
                    refine rg_done rfl ?_
                    show ∃ i, _ ∧ _ ∧ Imp _ _ _ _ _
                    refine ⟨k + 1, (by omega), by omega, imp_forget rfl ⟨rfl, rfl, rfl, rfl, rfl, rfl, rfl, rfl, rfl, (by first | rfl | exact ci (by omega) | exact ci (by simp) | exact cd (by simp) | simp), (congrArg (fun z => AV.d (.fl (.bool z))) (by rw [fo_succ (by omega)]; simp only [(hft.trans h43), h1, h3, h4, h6, h16, h26, h38, h39, h43, h44, Bool.true_and, Bool.false_and, Bool.and_true, Bool.and_false, Bool.true_or, Bool.false_or, Bool.or_true, Bool.or_false] <;> rfl)), (congrArg (fun z => AV.d (.fl (.bool z))) (by rw [sp_succ (by omega)]; simp only [(hft.trans h43), h1, h3, h4, h6, h16, h26, h38, h39, h43, h44, Bool.true_and, Bool.false_and, Bool.and_true, Bool.and_false, Bool.true_or, Bool.false_or, Bool.or_true, Bool.or_false, Bool.not_true, Bool.not_false] <;> rfl)), trivial⟩ ⟨rfl, rfl, (congrArg (fun z => Ob.bt 28 [.dv (.fl (.int .i64 x.val.fr)), .dv (.fl (.int .i64 x.val.to)), .dv (.sl 4 (List.map eBd x.bands)), .ow 46 5 (List.map eRt z)]) (le_yes (by omega) h38)), trivial⟩⟩
                · skip
                  refine rg_put (d := 97) (v := .d (.fl (.int .i64 ((rte x a.fr a.to a.cls a.time).2)))) rfl (oy rfl rfl rfl h43 (op_move rfl rfl rfl)) ?_
                  refine rg_put (d := 98) (v := .d (.fl (.bool (((rte x a.fr a.to a.cls a.time).2 == 22))))) rfl (oy rfl rfl rfl h43 (op_bin rfl rfl rfl (b_eql _ _ _ _) rfl)) ?_
                  refine rg_put (d := 99) (v := .d (.fl (.bool (((rte x a.fr a.to a.cls a.time).2 == 22))))) rfl (og rfl (op_pick rfl rfl (by rw [h43]; rfl) rfl)) ?_
                  refine rg_done rfl ?_
                  refine a_condF rfl (ft_code (ix x.rates k) (hft.trans h43) (ix_mem (by omega))) ?_
                  refine a_skip ?_
                  show A _ _ _ _ _ _ _
                  refine a_rseq ?_
                  refine rg_put (d := 100) (v := .pt 104 3) rfl (og rfl (of_eff (s_field_pt rfl Try.underlying46 rfl ti9 rfl rfl rfl) rfl)) ?_
                  refine rg_put (d := 101) (v := .d (.fl (.string ((ix x.rates k).band)))) rfl (og rfl (op_load_pt rfl Try.underlying9 rfl rfl rfl rfl rfl)) ?_
                  refine rg_put (d := 102) (v := .d (.fl (.bool ((!(sEq ((ix x.rates k).band) (⟨#[]⟩))))))) rfl (og rfl (op_bin rfl rfl rfl (b_sne _ _ _) rfl)) ?_
                  refine rg_done rfl ?_
                  refine a_condK rfl (not_t' h38) ?_
                  refine a_rseq ?_
                  refine rg_put (d := 103) (v := .pt 103 3) rfl (og rfl (of_eff (s_field_pt rfl Try.underlying28 rfl ti26 rfl rfl rfl) rfl)) ?_
                  refine rg_nam (d := 104) (v := .ow 123) (m := 123) (nw := [(123, .tr 46 5 (tD eRt (le x k))), (103, .bt 28 [.dv (.fl (.int .i64 x.val.fr)), .dv (.fl (.int .i64 x.val.to)), .dv (.sl 4 (List.map eBd x.bands)), .un])]) rfl (og rfl (of_eff (op_takeBt 123 rfl Try.underlying26 rfl rfl rfl rfl rfl rfl) rfl)) rfl ?_
                  refine rg_put (d := 105) (v := .d (.ag (eRt (ix x.rates k)))) rfl (og rfl (of_eff (s_load_pts rfl Try.underlying46 rfl ti46 rfl rfl rfl rfl) rfl)) ?_
                  refine rg_put (d := 106) (v := .d (.sl 5 (List.map eRt [(ix x.rates k)]))) rfl (og rfl (of_eff (op_slices rfl Try.underlying26 ti46 rfl rfl rfl (by kernel_rfl) (xs := [.ag (eRt (ix x.rates k))]) rfl rfl (.cons rfl rfl (.d _) rfl rfl rfl .nil) rfl) rfl)) ?_
                  refine rg_nam (d := 107) (v := .ow 124) (m := 124) (nw := [(124, .tr 46 5 (tD eRt (((le x k) ++ [(ix x.rates k)])))), (123, .no)]) rfl (og rfl (of_eff (s_append_td 124 rfl Try.underlying26 ti46 rfl rfl rfl rfl rfl (.d _) (by simp only [List.length_cons, List.length_nil]; have := le_len x k; omega) rfl) rfl)) rfl ?_
                  refine rg_put (d := 108) (v := .pt 103 3) rfl (og rfl (of_eff (s_field_pt rfl Try.underlying28 rfl ti26 rfl rfl rfl) rfl)) ?_
                  refine rg_sto (nw := [(103, .bt 28 [.dv (.fl (.int .i64 x.val.fr)), .dv (.fl (.int .i64 x.val.to)), .dv (.sl 4 (List.map eBd x.bands)), .ow 46 5 (List.map eRt (((le x k) ++ [(ix x.rates k)])))]), (124, .no)]) rfl (og rfl (of_eff (op_store_bt rfl rfl ti26 rfl rfl rfl (.tr rfl) rfl rfl rfl) rfl)) ?_
                  refine rg_done rfl ?_
                  refine a_region ?_
                  refine rg_put (d := 109) (v := .d (.fl (.bool (sp x a k)))) rfl (og rfl (op_move rfl rfl rfl)) ?_
                  refine rg_put (d := 110) (v := .d (.fl (.bool (sp x a k)))) rfl (og rfl (op_move rfl rfl rfl)) ?_
                  rcases fot (sp x a k) with h45 | h45
                  · skip
                    refine rg_put (d := 111) (v := .d (.fl (.bool ((sEq ((ix x.rates k).band) (bnd x.bands a.time)))))) rfl (oy rfl rfl rfl h45 (op_move rfl rfl rfl)) ?_
                    refine rg_put (d := 112) (v := .d (.fl (.bool ((sEq ((ix x.rates k).band) (bnd x.bands a.time)))))) rfl (og rfl (op_pick rfl rfl (by rw [h45]; rfl) rfl)) ?_
                    refine rg_put (d := 10) (v := .d (.fl (.bool ((sEq ((ix x.rates k).band) (bnd x.bands a.time)))))) rfl (og rfl (op_assign rfl rfl rfl)) ?_
                    refine rg_done rfl ?_
                    show A _ _ _ _ _ _ _
                    refine a_region ?_
                    refine rg_put (d := 48) (v := .d (.fl (.int .i64 (k : Int)))) rfl (og rfl (op_move rfl rfl rfl)) ?_
                    refine rg_put (d := 49) (v := .d (.fl (.int .i64 (((k : Int) + 1))))) rfl (og rfl (op_bin rfl rfl rfl (fun x y w => b_add64 _ _ _ x y w (by omega)) rfl)) ?_
                    refine rg_put (d := 11) (v := .d (.fl (.int .i64 (((k : Int) + 1))))) rfl (og rfl (op_assign rfl rfl rfl)) ?_
                    refine rg_done rfl ?_
                    show ∃ i, _ ∧ _ ∧ Imp _ _ _ _ _
                    refine ⟨k + 1, (by omega), by omega, imp_forget rfl ⟨rfl, rfl, rfl, rfl, rfl, rfl, rfl, rfl, rfl, (by first | rfl | exact ci (by omega) | exact ci (by simp) | exact cd (by simp) | simp), (congrArg (fun z => AV.d (.fl (.bool z))) (by rw [fo_succ (by omega)]; simp only [(hft.trans h43), h1, h3, h4, h6, h16, h26, h38, h39, h43, h45, Bool.true_and, Bool.false_and, Bool.and_true, Bool.and_false, Bool.true_or, Bool.false_or, Bool.or_true, Bool.or_false] <;> rfl)), (congrArg (fun z => AV.d (.fl (.bool z))) (by rw [sp_succ (by omega)]; simp only [(hft.trans h43), h1, h3, h4, h6, h16, h26, h38, h39, h43, h45, Bool.true_and, Bool.false_and, Bool.and_true, Bool.and_false, Bool.true_or, Bool.false_or, Bool.or_true, Bool.or_false, Bool.not_true, Bool.not_false] <;> rfl)), trivial⟩ ⟨rfl, rfl, (congrArg (fun z => Ob.bt 28 [.dv (.fl (.int .i64 x.val.fr)), .dv (.fl (.int .i64 x.val.to)), .dv (.sl 4 (List.map eBd x.bands)), .ow 46 5 (List.map eRt z)]) (le_yes (by omega) h38)), trivial⟩⟩
                  · skip
                    refine rg_put (d := 111) (v := .d (.fl undef)) rfl (on rfl rfl rfl h45) ?_
                    refine rg_put (d := 112) (v := .d (.fl (.bool true))) rfl (og rfl (op_pick rfl rfl (by rw [h45]; rfl) rfl)) ?_
                    refine rg_put (d := 10) (v := .d (.fl (.bool true))) rfl (og rfl (op_assign rfl rfl rfl)) ?_
                    refine rg_done rfl ?_
                    show A _ _ _ _ _ _ _
                    refine a_region ?_
                    refine rg_put (d := 48) (v := .d (.fl (.int .i64 (k : Int)))) rfl (og rfl (op_move rfl rfl rfl)) ?_
                    refine rg_put (d := 49) (v := .d (.fl (.int .i64 (((k : Int) + 1))))) rfl (og rfl (op_bin rfl rfl rfl (fun x y w => b_add64 _ _ _ x y w (by omega)) rfl)) ?_
                    refine rg_put (d := 11) (v := .d (.fl (.int .i64 (((k : Int) + 1))))) rfl (og rfl (op_assign rfl rfl rfl)) ?_
                    refine rg_done rfl ?_
                    show ∃ i, _ ∧ _ ∧ Imp _ _ _ _ _
                    refine ⟨k + 1, (by omega), by omega, imp_forget rfl ⟨rfl, rfl, rfl, rfl, rfl, rfl, rfl, rfl, rfl, (by first | rfl | exact ci (by omega) | exact ci (by simp) | exact cd (by simp) | simp), (congrArg (fun z => AV.d (.fl (.bool z))) (by rw [fo_succ (by omega)]; simp only [(hft.trans h43), h1, h3, h4, h6, h16, h26, h38, h39, h43, h45, Bool.true_and, Bool.false_and, Bool.and_true, Bool.and_false, Bool.true_or, Bool.false_or, Bool.or_true, Bool.or_false] <;> rfl)), (congrArg (fun z => AV.d (.fl (.bool z))) (by rw [sp_succ (by omega)]; simp only [(hft.trans h43), h1, h3, h4, h6, h16, h26, h38, h39, h43, h45, Bool.true_and, Bool.false_and, Bool.and_true, Bool.and_false, Bool.true_or, Bool.false_or, Bool.or_true, Bool.or_false, Bool.not_true, Bool.not_false] <;> rfl)), trivial⟩ ⟨rfl, rfl, (congrArg (fun z => Ob.bt 28 [.dv (.fl (.int .i64 x.val.fr)), .dv (.fl (.int .i64 x.val.to)), .dv (.sl 4 (List.map eBd x.bands)), .ow 46 5 (List.map eRt z)]) (le_yes (by omega) h38)), trivial⟩⟩
            · skip
              refine rg_put (d := 79) (v := .d (.fl undef)) rfl (on rfl rfl rfl h38) ?_
              refine rg_put (d := 80) (v := .d (.fl undef)) rfl (on rfl rfl rfl h38) ?_
              refine rg_put (d := 81) (v := .d (.fl undef)) rfl (on rfl rfl rfl h38) ?_
              refine rg_put (d := 82) (v := .d (.fl undef)) rfl (on rfl rfl rfl h38) ?_
              refine rg_put (d := 83) (v := .d (.fl (.bool true))) rfl (oy rfl rfl rfl h26 (op_pick rfl rfl (by rw [h38]; rfl) rfl)) ?_
              refine rg_put (d := 84) (v := .d (.fl (.bool true))) rfl (og rfl (op_pick rfl rfl (by rw [h26]; rfl) rfl)) ?_
              refine rg_put (d := 13) (v := .d (.fl (.bool true))) rfl (og rfl (op_assign rfl rfl rfl)) ?_
              refine rg_done rfl ?_
              refine a_rseq ?_
              have hft : ft x a (ix x.rates k) = true := by unfold ft; simp only [h1, h3, h4, h6, h16, h26, h38, Bool.true_and, Bool.false_and, Bool.and_true, Bool.and_false, Bool.true_or, Bool.false_or, Bool.or_true, Bool.or_false] <;> rfl
              refine rg_put (d := 85) (v := .d (.fl (.bool (fo x a k)))) rfl (og rfl (op_move rfl rfl rfl)) ?_
              refine rg_put (d := 86) (v := .d (.fl (.bool (fo x a k)))) rfl (og rfl (op_move rfl rfl rfl)) ?_
              rcases fot (fo x a k) with h46 | h46
              · skip
                refine rg_put (d := 87) (v := .d (.fl (.bool true))) rfl (oy rfl rfl rfl h46 (op_move rfl rfl rfl)) ?_
                refine rg_put (d := 88) (v := .d (.fl (.bool true))) rfl (oy rfl rfl rfl h46 (op_move rfl rfl rfl)) ?_
                refine rg_put (d := 89) (v := .pt 104 4) rfl (oy rfl rfl rfl rfl (of_eff (s_field_pt rfl Try.underlying46 rfl ti3 rfl rfl rfl) rfl)) ?_
                refine rg_put (d := 90) (v := .d (.fl (.int .i64 ((ix x.rates k).cents)))) rfl (oy rfl rfl rfl rfl (op_load_pt rfl Try.underlying3 rfl rfl rfl rfl rfl)) ?_
                refine rg_put (d := 91) (v := .d (.fl (.int .i64 ((rte x a.fr a.to a.cls a.time).1)))) rfl (oy rfl rfl rfl rfl (op_move rfl rfl rfl)) ?_
                refine rg_put (d := 92) (v := .d (.fl (.bool (((ix x.rates k).cents == (rte x a.fr a.to a.cls a.time).1))))) rfl (oy rfl rfl rfl rfl (op_bin rfl rfl rfl (b_eql _ _ _ _) rfl)) ?_
                refine rg_put (d := 93) (v := .d (.fl (.bool (((ix x.rates k).cents == (rte x a.fr a.to a.cls a.time).1))))) rfl (oy rfl rfl rfl h46 (op_pick rfl rfl rfl rfl)) ?_
                refine rg_put (d := 94) (v := .d (.fl (.bool (((ix x.rates k).cents == (rte x a.fr a.to a.cls a.time).1))))) rfl (og rfl (op_pick rfl rfl (by rw [h46]; rfl) rfl)) ?_
                refine rg_put (d := 7) (v := .d (.fl (.bool (((ix x.rates k).cents == (rte x a.fr a.to a.cls a.time).1))))) rfl (og rfl (op_assign rfl rfl rfl)) ?_
                refine rg_done rfl ?_
                refine a_seq ?_
                refine a_rseq ?_
                refine rg_put (d := 95) (v := .d (.fl (.bool true))) rfl (og rfl (op_move rfl rfl rfl)) ?_
                refine rg_put (d := 96) (v := .d (.fl (.bool true))) rfl (og rfl (op_move rfl rfl rfl)) ?_
                refine rg_put (d := 97) (v := .d (.fl (.int .i64 ((rte x a.fr a.to a.cls a.time).2)))) rfl (oy rfl rfl rfl rfl (op_move rfl rfl rfl)) ?_
                refine rg_put (d := 98) (v := .d (.fl (.bool (((rte x a.fr a.to a.cls a.time).2 == 22))))) rfl (oy rfl rfl rfl rfl (op_bin rfl rfl rfl (b_eql _ _ _ _) rfl)) ?_
                refine rg_put (d := 99) (v := .d (.fl (.bool (((rte x a.fr a.to a.cls a.time).2 == 22))))) rfl (og rfl (op_pick rfl rfl rfl rfl)) ?_
                refine rg_done rfl ?_
                refine a_condF rfl (ft_code (ix x.rates k) hft (ix_mem (by omega))) ?_
                refine a_skip ?_
                show A _ _ _ _ _ _ _
                refine a_rseq ?_
                refine rg_put (d := 100) (v := .pt 104 3) rfl (og rfl (of_eff (s_field_pt rfl Try.underlying46 rfl ti9 rfl rfl rfl) rfl)) ?_
                refine rg_put (d := 101) (v := .d (.fl (.string ((ix x.rates k).band)))) rfl (og rfl (op_load_pt rfl Try.underlying9 rfl rfl rfl rfl rfl)) ?_
                refine rg_put (d := 102) (v := .d (.fl (.bool ((!(sEq ((ix x.rates k).band) (⟨#[]⟩))))))) rfl (og rfl (op_bin rfl rfl rfl (b_sne _ _ _) rfl)) ?_
                refine rg_done rfl ?_
                refine a_condF rfl (not_f h38) ?_
                refine a_skip ?_
                show A _ _ _ _ _ _ _
                refine a_region ?_
                refine rg_put (d := 48) (v := .d (.fl (.int .i64 (k : Int)))) rfl (og rfl (op_move rfl rfl rfl)) ?_
                refine rg_put (d := 49) (v := .d (.fl (.int .i64 (((k : Int) + 1))))) rfl (og rfl (op_bin rfl rfl rfl (fun x y w => b_add64 _ _ _ x y w (by omega)) rfl)) ?_
                refine rg_put (d := 11) (v := .d (.fl (.int .i64 (((k : Int) + 1))))) rfl (og rfl (op_assign rfl rfl rfl)) ?_
                refine rg_done rfl ?_
                show ∃ i, _ ∧ _ ∧ Imp _ _ _ _ _
                refine ⟨k + 1, (by omega), by omega, imp_forget rfl ⟨rfl, rfl, rfl, rfl, rfl, rfl, rfl, rfl, rfl, (by first | rfl | exact ci (by omega) | exact ci (by simp) | exact cd (by simp) | simp), (congrArg (fun z => AV.d (.fl (.bool z))) (by rw [fo_succ (by omega)]; simp only [hft, h1, h3, h4, h6, h16, h26, h38, h46, Bool.true_and, Bool.false_and, Bool.and_true, Bool.and_false, Bool.true_or, Bool.false_or, Bool.or_true, Bool.or_false] <;> rfl)), (congrArg (fun z => AV.d (.fl (.bool z))) (by rw [sp_succ (by omega)]; simp only [hft, h1, h3, h4, h6, h16, h26, h38, h46, Bool.true_and, Bool.false_and, Bool.and_true, Bool.and_false, Bool.true_or, Bool.false_or, Bool.or_true, Bool.or_false, Bool.not_true, Bool.not_false] <;> rfl)), trivial⟩ ⟨rfl, rfl, (congrArg (fun z => Ob.bt 28 [.dv (.fl (.int .i64 x.val.fr)), .dv (.fl (.int .i64 x.val.to)), .dv (.sl 4 (List.map eBd x.bands)), .ow 46 5 (List.map eRt z)]) (le_no (by omega) h38)), trivial⟩⟩
              · skip
                refine rg_put (d := 87) (v := .d (.fl undef)) rfl (on rfl rfl rfl h46) ?_
                refine rg_put (d := 88) (v := .d (.fl undef)) rfl (on rfl rfl rfl h46) ?_
                refine rg_put (d := 89) (v := .d (.fl undef)) rfl (ou rfl rfl rfl) ?_
                refine rg_put (d := 90) (v := .d (.fl undef)) rfl (ou rfl rfl rfl) ?_
                refine rg_put (d := 91) (v := .d (.fl undef)) rfl (ou rfl rfl rfl) ?_
                refine rg_put (d := 92) (v := .d (.fl undef)) rfl (ou rfl rfl rfl) ?_
                refine rg_put (d := 93) (v := .d (.fl undef)) rfl (on rfl rfl rfl h46) ?_
                refine rg_put (d := 94) (v := .d (.fl (.bool true))) rfl (og rfl (op_pick rfl rfl (by rw [h46]; rfl) rfl)) ?_
                refine rg_put (d := 7) (v := .d (.fl (.bool true))) rfl (og rfl (op_assign rfl rfl rfl)) ?_
                refine rg_done rfl ?_
                refine a_seq ?_
                refine a_rseq ?_
                refine rg_put (d := 95) (v := .d (.fl (.bool true))) rfl (og rfl (op_move rfl rfl rfl)) ?_
                refine rg_put (d := 96) (v := .d (.fl (.bool true))) rfl (og rfl (op_move rfl rfl rfl)) ?_
                refine rg_put (d := 97) (v := .d (.fl (.int .i64 ((rte x a.fr a.to a.cls a.time).2)))) rfl (oy rfl rfl rfl rfl (op_move rfl rfl rfl)) ?_
                refine rg_put (d := 98) (v := .d (.fl (.bool (((rte x a.fr a.to a.cls a.time).2 == 22))))) rfl (oy rfl rfl rfl rfl (op_bin rfl rfl rfl (b_eql _ _ _ _) rfl)) ?_
                refine rg_put (d := 99) (v := .d (.fl (.bool (((rte x a.fr a.to a.cls a.time).2 == 22))))) rfl (og rfl (op_pick rfl rfl rfl rfl)) ?_
                refine rg_done rfl ?_
                refine a_condF rfl (ft_code (ix x.rates k) hft (ix_mem (by omega))) ?_
                refine a_skip ?_
                show A _ _ _ _ _ _ _
                refine a_rseq ?_
                refine rg_put (d := 100) (v := .pt 104 3) rfl (og rfl (of_eff (s_field_pt rfl Try.underlying46 rfl ti9 rfl rfl rfl) rfl)) ?_
                refine rg_put (d := 101) (v := .d (.fl (.string ((ix x.rates k).band)))) rfl (og rfl (op_load_pt rfl Try.underlying9 rfl rfl rfl rfl rfl)) ?_
                refine rg_put (d := 102) (v := .d (.fl (.bool ((!(sEq ((ix x.rates k).band) (⟨#[]⟩))))))) rfl (og rfl (op_bin rfl rfl rfl (b_sne _ _ _) rfl)) ?_
                refine rg_done rfl ?_
                refine a_condF rfl (not_f h38) ?_
                refine a_skip ?_
                show A _ _ _ _ _ _ _
                refine a_region ?_
                refine rg_put (d := 48) (v := .d (.fl (.int .i64 (k : Int)))) rfl (og rfl (op_move rfl rfl rfl)) ?_
                refine rg_put (d := 49) (v := .d (.fl (.int .i64 (((k : Int) + 1))))) rfl (og rfl (op_bin rfl rfl rfl (fun x y w => b_add64 _ _ _ x y w (by omega)) rfl)) ?_
                refine rg_put (d := 11) (v := .d (.fl (.int .i64 (((k : Int) + 1))))) rfl (og rfl (op_assign rfl rfl rfl)) ?_
                refine rg_done rfl ?_
                show ∃ i, _ ∧ _ ∧ Imp _ _ _ _ _
                refine ⟨k + 1, (by omega), by omega, imp_forget rfl ⟨rfl, rfl, rfl, rfl, rfl, rfl, rfl, rfl, rfl, (by first | rfl | exact ci (by omega) | exact ci (by simp) | exact cd (by simp) | simp), (congrArg (fun z => AV.d (.fl (.bool z))) (by rw [fo_succ (by omega)]; simp only [hft, h1, h3, h4, h6, h16, h26, h38, h46, Bool.true_and, Bool.false_and, Bool.and_true, Bool.and_false, Bool.true_or, Bool.false_or, Bool.or_true, Bool.or_false] <;> rfl)), (congrArg (fun z => AV.d (.fl (.bool z))) (by rw [sp_succ (by omega)]; simp only [hft, h1, h3, h4, h6, h16, h26, h38, h46, Bool.true_and, Bool.false_and, Bool.and_true, Bool.and_false, Bool.true_or, Bool.false_or, Bool.or_true, Bool.or_false, Bool.not_true, Bool.not_false] <;> rfl)), trivial⟩ ⟨rfl, rfl, (congrArg (fun z => Ob.bt 28 [.dv (.fl (.int .i64 x.val.fr)), .dv (.fl (.int .i64 x.val.to)), .dv (.sl 4 (List.map eBd x.bands)), .ow 46 5 (List.map eRt z)]) (le_no (by omega) h38)), trivial⟩⟩
    · skip
      have h47 := f_dec h4
      refine a_exit ?_
      show A _ _ _ _ _ _ _
      refine a_rseq ?_
      refine rg_imp (imp_leakBt 103 (ds := eTa (lss x k)) rfl rfl rfl) ?_
      refine rg_put (d := 114) (v := .d (.ag (eTa (lss x k)))) rfl (og rfl (of_eff (s_load_pts rfl Try.underlying28 rfl ti28 rfl rfl rfl rfl) rfl)) ?_
      refine rg_put (d := 115) (v := .pt 102 0) rfl (og rfl (of_eff (s_field_pt rfl Try.underlying42 rfl ti9 rfl rfl rfl) rfl)) ?_
      refine rg_put (d := 116) (v := .d (.fl (.string a.fr))) rfl (og rfl (op_load_pt rfl Try.underlying9 rfl rfl rfl rfl rfl)) ?_
      refine rg_put (d := 117) (v := .pt 102 1) rfl (og rfl (of_eff (s_field_pt rfl Try.underlying42 rfl ti9 rfl rfl rfl) rfl)) ?_
      refine rg_put (d := 118) (v := .d (.fl (.string a.to))) rfl (og rfl (op_load_pt rfl Try.underlying9 rfl rfl rfl rfl rfl)) ?_
      refine rg_put (d := 119) (v := .pt 102 2) rfl (og rfl (of_eff (s_field_pt rfl Try.underlying42 rfl ti3 rfl rfl rfl) rfl)) ?_
      refine rg_put (d := 120) (v := .d (.fl (.int .i64 a.cls))) rfl (og rfl (op_load_pt rfl Try.underlying3 rfl rfl rfl rfl rfl)) ?_
      refine rg_put (d := 121) (v := .pt 102 3) rfl (og rfl (of_eff (s_field_pt rfl Try.underlying42 rfl ti3 rfl rfl rfl) rfl)) ?_
      refine rg_put (d := 122) (v := .d (.fl (.int .i64 a.time))) rfl (og rfl (op_load_pt rfl Try.underlying3 rfl rfl rfl rfl rfl)) ?_
      rcases fot (sp x a k) with h48 | h48
      · skip
        refine rg_put (d := 123) (v := .tu [.fl (.int .i64 (0 : Int)), .fl (.int .i64 (22 : Int))]) rfl (og rfl (op_call rfl Try.func14 nm14 rfl (.cons rfl (.d _) (.cons rfl (.d _) (.cons rfl (.d _) (.cons rfl (.d _) (.cons rfl (.d _) .nil))))) (rateN (by omega) (by omega) (by omega) h48) rfl)) ?_
        refine rg_put (d := 113) (v := .tu [.fl (.int .i64 (0 : Int)), .fl (.int .i64 (22 : Int))]) rfl (og rfl (op_move rfl rfl rfl)) ?_
        refine rg_put (d := 124) (v := .d (.fl (.int .i64 (0 : Int)))) rfl (og rfl (op_extract rfl rfl rfl rfl)) ?_
        refine rg_put (d := 125) (v := .d (.fl (.int .i64 (22 : Int)))) rfl (og rfl (op_extract rfl rfl rfl rfl)) ?_
        refine rg_put (d := 14) (v := .d (.fl (.int .i64 (0 : Int)))) rfl (og rfl (op_assign rfl rfl rfl)) ?_
        refine rg_put (d := 15) (v := .d (.fl (.int .i64 (22 : Int)))) rfl (og rfl (op_assign rfl rfl rfl)) ?_
        refine rg_done rfl ?_
        refine a_seq ?_
        refine a_rseq ?_
        refine rg_put (d := 126) (v := .d (.fl (.bool (sp x a k)))) rfl (og rfl (op_move rfl rfl rfl)) ?_
        refine rg_done rfl ?_
        refine a_condF rfl h48 ?_
        refine a_skip ?_
        show A _ _ _ _ _ _ _
        refine a_rseq ?_
        refine rg_put (d := 144) (v := .d (.fl (.bool (fo x a k)))) rfl (og rfl (op_move rfl rfl rfl)) ?_
        refine rg_put (d := 145) (v := .d (.fl (.bool (fo x a k)))) rfl (og rfl (op_move rfl rfl rfl)) ?_
        refine rg_put (d := 146) (v := .d (.fl (.int .i64 (22 : Int)))) rfl (oy rfl rfl rfl (show (fo x a k) = true by rw [show k = x.rates.length by omega]; exact fo_all x a) (op_move rfl rfl rfl)) ?_
        refine rg_put (d := 147) (v := .d (.fl (.bool (((22 : Int) == 22))))) rfl (oy rfl rfl rfl (show (fo x a k) = true by rw [show k = x.rates.length by omega]; exact fo_all x a) (op_bin rfl rfl rfl (b_eql _ _ _ _) rfl)) ?_
        refine rg_put (d := 148) (v := .d (.fl (.bool (((22 : Int) == 22))))) rfl (og rfl (op_pick rfl rfl (by rw [(show (fo x a k) = true by rw [show k = x.rates.length by omega]; exact fo_all x a)]; rfl) rfl)) ?_
        refine rg_put (d := 149) (v := .d (.fl (.bool (((22 : Int) == 22))))) rfl (og rfl (op_move rfl rfl rfl)) ?_
        refine rg_put (d := 150) (v := .d (.fl (.int .i64 (0 : Int)))) rfl (oy rfl rfl rfl rfl (op_move rfl rfl rfl)) ?_
        refine rg_put (d := 151) (v := .d (.fl (.bool (((0 : Int) == 0))))) rfl (oy rfl rfl rfl rfl (op_bin rfl rfl rfl (b_eql _ _ _ _) rfl)) ?_
        refine rg_put (d := 152) (v := .d (.fl (.bool (((0 : Int) == 0))))) rfl (og rfl (op_pick rfl rfl rfl rfl)) ?_
        refine rg_put (d := 153) (v := .d (.fl (.bool (((0 : Int) == 0))))) rfl (og rfl (op_move rfl rfl rfl)) ?_
        refine rg_put (d := 154) (v := .d (.fl (.bool true))) rfl (oy rfl rfl rfl rfl (op_call rfl Try.func13 nm13 rfl .nil alive13 rfl)) ?_
        refine rg_put (d := 155) (v := .d (.fl (.bool true))) rfl (og rfl (op_pick rfl rfl rfl rfl)) ?_
        refine rg_put (d := 4) (v := .d (.fl (.bool true))) rfl (og rfl (op_assign rfl rfl rfl)) ?_
        refine rg_done rfl ?_
        refine a_ret ?_
        show ∃ ds, ResL _ _ _ ds ∧ RV.of ds = _
        refine ⟨[.fl (.bool true)], (.cons (.tmp rfl (.d _)) .nil), ?_⟩
        rfl
      · skip
        refine rg_put (d := 123) (v := .tu [.fl (.int .i64 ((rte x a.fr a.to a.cls a.time).1)), .fl (.int .i64 (0 : Int))]) rfl (og rfl (op_call rfl Try.func14 nm14 rfl (.cons rfl (.d _) (.cons rfl (.d _) (.cons rfl (.d _) (.cons rfl (.d _) (.cons rfl (.d _) .nil))))) (rateS (by omega) (by omega) (by omega) h48) rfl)) ?_
        refine rg_put (d := 113) (v := .tu [.fl (.int .i64 ((rte x a.fr a.to a.cls a.time).1)), .fl (.int .i64 (0 : Int))]) rfl (og rfl (op_move rfl rfl rfl)) ?_
        refine rg_put (d := 124) (v := .d (.fl (.int .i64 ((rte x a.fr a.to a.cls a.time).1)))) rfl (og rfl (op_extract rfl rfl rfl rfl)) ?_
        refine rg_put (d := 125) (v := .d (.fl (.int .i64 (0 : Int)))) rfl (og rfl (op_extract rfl rfl rfl rfl)) ?_
        refine rg_put (d := 14) (v := .d (.fl (.int .i64 ((rte x a.fr a.to a.cls a.time).1)))) rfl (og rfl (op_assign rfl rfl rfl)) ?_
        refine rg_put (d := 15) (v := .d (.fl (.int .i64 (0 : Int)))) rfl (og rfl (op_assign rfl rfl rfl)) ?_
        refine rg_done rfl ?_
        refine a_seq ?_
        refine a_rseq ?_
        refine rg_put (d := 126) (v := .d (.fl (.bool (sp x a k)))) rfl (og rfl (op_move rfl rfl rfl)) ?_
        refine rg_done rfl ?_
        refine a_condK rfl h48 ?_
        refine a_rseq ?_
        refine rg_put (d := 127) (v := .d (.fl (.bool (fo x a k)))) rfl (og rfl (op_move rfl rfl rfl)) ?_
        refine rg_put (d := 128) (v := .d (.fl (.bool (fo x a k)))) rfl (og rfl (op_move rfl rfl rfl)) ?_
        refine rg_put (d := 129) (v := .d (.fl (.int .i64 (0 : Int)))) rfl (oy rfl rfl rfl (show (fo x a k) = true by rw [show k = x.rates.length by omega]; exact fo_all x a) (op_move rfl rfl rfl)) ?_
        refine rg_put (d := 130) (v := .d (.fl (.bool (((0 : Int) == 0))))) rfl (oy rfl rfl rfl (show (fo x a k) = true by rw [show k = x.rates.length by omega]; exact fo_all x a) (op_bin rfl rfl rfl (b_eql _ _ _ _) rfl)) ?_
        refine rg_put (d := 131) (v := .d (.fl (.bool (((0 : Int) == 0))))) rfl (og rfl (op_pick rfl rfl (by rw [(show (fo x a k) = true by rw [show k = x.rates.length by omega]; exact fo_all x a)]; rfl) rfl)) ?_
        refine rg_put (d := 132) (v := .d (.fl (.bool (((0 : Int) == 0))))) rfl (og rfl (op_move rfl rfl rfl)) ?_
        refine rg_put (d := 133) (v := .d (.fl (.int .i64 ((rte x a.fr a.to a.cls a.time).2)))) rfl (oy rfl rfl rfl rfl (op_move rfl rfl rfl)) ?_
        refine rg_put (d := 134) (v := .d (.fl (.bool (((rte x a.fr a.to a.cls a.time).2 == 0))))) rfl (oy rfl rfl rfl rfl (op_bin rfl rfl rfl (b_eql _ _ _ _) rfl)) ?_
        refine rg_put (d := 135) (v := .d (.fl (.bool (((rte x a.fr a.to a.cls a.time).2 == 0))))) rfl (og rfl (op_pick rfl rfl rfl rfl)) ?_
        refine rg_put (d := 136) (v := .d (.fl (.bool (((rte x a.fr a.to a.cls a.time).2 == 0))))) rfl (og rfl (op_move rfl rfl rfl)) ?_
        refine rg_put (d := 137) (v := .d (.fl (.int .i64 ((rte x a.fr a.to a.cls a.time).1)))) rfl (oy rfl rfl rfl (show (((rte x a.fr a.to a.cls a.time).2 == 0)) = true by rw [(sp_yes (by omega) h48).2]; rfl) (op_move rfl rfl rfl)) ?_
        refine rg_put (d := 138) (v := .d (.fl (.int .i64 ((rte x a.fr a.to a.cls a.time).1)))) rfl (oy rfl rfl rfl (show (((rte x a.fr a.to a.cls a.time).2 == 0)) = true by rw [(sp_yes (by omega) h48).2]; rfl) (op_move rfl rfl rfl)) ?_
        refine rg_put (d := 139) (v := .d (.fl (.bool (((rte x a.fr a.to a.cls a.time).1 == (rte x a.fr a.to a.cls a.time).1))))) rfl (oy rfl rfl rfl (show (((rte x a.fr a.to a.cls a.time).2 == 0)) = true by rw [(sp_yes (by omega) h48).2]; rfl) (op_bin rfl rfl rfl (b_eql _ _ _ _) rfl)) ?_
        refine rg_put (d := 140) (v := .d (.fl (.bool (((rte x a.fr a.to a.cls a.time).1 == (rte x a.fr a.to a.cls a.time).1))))) rfl (og rfl (op_pick rfl rfl (by rw [(show (((rte x a.fr a.to a.cls a.time).2 == 0)) = true by rw [(sp_yes (by omega) h48).2]; rfl)]; rfl) rfl)) ?_
        refine rg_put (d := 141) (v := .d (.fl (.bool (((rte x a.fr a.to a.cls a.time).1 == (rte x a.fr a.to a.cls a.time).1))))) rfl (og rfl (op_move rfl rfl rfl)) ?_
        refine rg_put (d := 142) (v := .d (.fl (.bool true))) rfl (oy rfl rfl rfl (eq_self_b _) (op_call rfl Try.func13 nm13 rfl .nil alive13 rfl)) ?_
        refine rg_put (d := 143) (v := .d (.fl (.bool true))) rfl (og rfl (op_pick rfl rfl (by rw [(eq_self_b _)]; rfl) rfl)) ?_
        refine rg_put (d := 4) (v := .d (.fl (.bool true))) rfl (og rfl (op_assign rfl rfl rfl)) ?_
        refine rg_done rfl ?_
        refine a_ret ?_
        show ∃ ds, ResL _ _ _ ds ∧ RV.of ds = _
        refine ⟨[.fl (.bool true)], (.cons (.tmp rfl (.d _)) .nil), ?_⟩
        rfl
end Go.Proofs.Ytgcagigpolnjfaa.Wk
