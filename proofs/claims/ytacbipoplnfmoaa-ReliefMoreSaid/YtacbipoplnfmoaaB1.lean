/- Rules: the check, both sides; the part. Conditions: at most 14 rules and 20 kinds. -/
import Derived.Test.YtacbipoplnfmoaaTy
set_option linter.unusedSimpArgs false
set_option linter.unusedVariables false
namespace Go.Proofs.Ytacbipoplnfmoaa.Wk
open Go Go.RowKit Go.Proofs.Ytacbipoplnfmoaa.Av
theorem ne_self_b (a : Int) : (a != a) = false := by simp
theorem sEq_eq {a b : ByteArray} (h : sEq a b = true) : a = b := of_decide_eq_true h
theorem sEq_of {a b : ByteArray} (h : a = b) : sEq a b = true := decide_eq_true h
theorem nb {b : Bool} (h : ¬ b = true) : b = false := by cases b <;> simp at h ⊢
theorem nnb {b : Bool} (h : ¬ (!b) = true) : b = true := by cases b <;> simp at h ⊢

theorem ix_eq {α : Type} [Inhabited α] {l : List α} {i : Nat} (h : i < l.length) : l[i] = ix l i := by
  have := ix_get h
  rw [List.getElem?_eq_getElem h] at this
  injection this
theorem ix_mem {α : Type} [Inhabited α] {l : List α} {k : Nat} (h : k < l.length) : ix l k ∈ l := by rw [← ix_eq h]; exact List.getElem_mem h
theorem mem_ix {α : Type} [Inhabited α] {l : List α} {x : α} (h : x ∈ l) : ∃ k, k < l.length ∧ ix l k = x := by
  obtain ⟨j, hj, he⟩ := List.mem_iff_getElem.1 h
  exact ⟨j, hj, by rw [← ix_eq hj]; exact he⟩
theorem fnd_no {α : Type} [Inhabited α] {p : α → Bool} {l : List α} (h : ∀ q, q < l.length → p (ix l q) = false) : l.find? p = none := by
  rw [List.find?_eq_none]
  intro x hx
  obtain ⟨k, hk, he⟩ := mem_ix hx
  rw [← he, h k hk]; simp
theorem fnd_at {α : Type} [Inhabited α] {p : α → Bool} {l : List α} {k : Nat} (hk : k < l.length) (h : ∀ q, q < k → p (ix l q) = false) (hp : p (ix l k) = true) : l.find? p = some (ix l k) := by
  rw [List.find?_eq_some_iff_getElem]
  refine ⟨hp, k, hk, ix_eq hk, fun j hj => ?_⟩
  rw [ix_eq (by omega), h j hj]; rfl
theorem any_at {α : Type} [Inhabited α] {p : α → Bool} {l : List α} {k : Nat} (hk : k < l.length) (hp : p (ix l k) = true) : l.any p = true := by
  rw [List.any_eq_true]; exact ⟨_, ix_mem hk, hp⟩
theorem any_no {α : Type} [Inhabited α] {p : α → Bool} {l : List α} (h : ∀ q, q < l.length → p (ix l q) = false) : l.any p = false := by
  rw [List.any_eq_false]
  intro x hx
  obtain ⟨k, hk, he⟩ := mem_ix hx
  rw [← he, h k hk]; simp
theorem all_no {α : Type} [Inhabited α] {p : α → Bool} {l : List α} {k : Nat} (hk : k < l.length) (h : p (ix l k) = false) : l.all p = false := by
  rw [List.all_eq_false]; exact ⟨_, ix_mem hk, by rw [h]; simp⟩
theorem all_yes {α : Type} [Inhabited α] {p : α → Bool} {l : List α} (h : ∀ q, q < l.length → p (ix l q) = true) : l.all p = true := by
  rw [List.all_eq_true]
  intro x hx
  obtain ⟨k, hk, he⟩ := mem_ix hx
  rw [← he]; exact h k hk
def fe (f : Nat → Int) : Nat → Nat → Int
  | _, 0 => 0
  | i, n + 1 => if f i = 0 then fe f (i + 1) n else f i
theorem fe_at {f : Nat → Int} {k n : Nat} (h : k < n) : fe f k (n - k) = if f k = 0 then fe f (k + 1) (n - (k + 1)) else f k := by
  rw [show n - k = (n - (k + 1)) + 1 by omega]; rfl
theorem fe_end {f : Nat → Int} {k n : Nat} (h : ¬ k < n) : fe f k (n - k) = 0 := by
  rw [show n - k = 0 by omega]; rfl
theorem fe_no {f : Nat → Int} {k n : Nat} {c : Int} (h : k < n) (hc : c = fe f k (n - k)) (hb : f k = 0) : c = fe f (k + 1) (n - (k + 1)) := by rw [hc, fe_at h, if_pos hb]
theorem fe_yes {f : Nat → Int} {k n : Nat} {c e : Int} (h : k < n) (hc : c = fe f k (n - k)) (hb : f k = e) (he : e ≠ 0) : c = e := by rw [hc, fe_at h, hb, if_neg he]
def bad (r : Rl) : Bool := ((decide (r.kind < 0) || decide (3 < r.kind)) || decide (r.part < 0)) || decide (1000 < r.part)
def sn (l : List Rl) (k : Nat) (q : Int) : Bool := (l.take k).any fun r => r.kind == q
theorem sn_zero (l : List Rl) (q : Int) : sn l 0 q = false := rfl
theorem sn_s {l : List Rl} {k : Nat} (h : k < l.length) (q : Int) : sn l (k + 1) q = (sn l k q || ((ix l k).kind == q)) := by
  unfold sn
  rw [take_ix h, List.any_append]
  simp
theorem sn_no {l : List Rl} {k : Nat} {q : Int} (h : k < l.length) (hk : (ix l k).kind ≠ q) : sn l k q = sn l (k + 1) q := by rw [sn_s h, show ((ix l k).kind == q) = false by simpa using hk, Bool.or_false]
theorem sn_yes {l : List Rl} {k : Nat} {q : Int} (h : k < l.length) (hk : (ix l k).kind = q) : true = sn l (k + 1) q := by rw [sn_s h, show ((ix l k).kind == q) = true by simpa using hk, Bool.or_true]
theorem sn_in {l : List Rl} {k j : Nat} {q : Int} (hk : k ≤ l.length) (hj : j < k) (h : (ix l j).kind = q) : sn l k q = true := by
  unfold sn
  rw [List.any_eq_true]
  refine ⟨ix l j, ?_, by simpa using h⟩
  rw [← ix_eq (by omega : j < l.length)]
  exact List.mem_take_iff_getElem.2 ⟨j, by omega, rfl⟩
theorem sn_out {l : List Rl} {k : Nat} {q : Int} (hk : k ≤ l.length) (h : ∀ j, j < k → ((ix l j).kind == q) = false) : sn l k q = false := by
  unfold sn
  refine any_no (fun j hj => ?_)
  rw [List.length_take] at hj
  rw [show ix (l.take k) j = ix l j by unfold ix; rw [List.getD_eq_getElem?_getD, List.getD_eq_getElem?_getD, List.getElem?_take_of_lt (by omega)]]
  exact h j (by omega)
theorem bxB {a b c d a' b' c' d' : Bool} (h1 : a = a') (h2 : b = b') (h3 : c = c') (h4 : d = d') : Ob.bx 80 [.fl (.bool a), .fl (.bool b), .fl (.bool c), .fl (.bool d)] = Ob.bx 80 [.fl (.bool a'), .fl (.bool b'), .fl (.bool c'), .fl (.bool d')] := by subst h1 h2 h3 h4; rfl
theorem bxI {a b c d a' b' c' d' : Int} (h1 : a = a') (h2 : b = b') (h3 : c = c') (h4 : d = d') : Ob.bx 81 [.fl (.int .i64 a), .fl (.int .i64 b), .fl (.int .i64 c), .fl (.int .i64 d)] = Ob.bx 81 [.fl (.int .i64 a'), .fl (.int .i64 b'), .fl (.int .i64 c'), .fl (.int .i64 d')] := by subst h1 h2 h3 h4; rfl
def dv1 (l : List Rl) (k : Nat) : Int := if bad (ix l k) = true then 1 else if sn l k (ix l k).kind = true then 9 else 0
def dvE (l : List Rl) : Int := fe (dv1 l) 0 l.length
def chk (l : List Rl) : Int := if decide (12 < (l.length : Int)) = true then 3 else dvE l
theorem dvE_go (l : List Rl) : dvE l = fe (dv1 l) 0 (l.length - 0) := rfl
theorem dv_bad {l : List Rl} {k : Nat} (h : bad (ix l k) = true) : dv1 l k = 1 := by unfold dv1; rw [if_pos h]
theorem dv_dup {l : List Rl} {k : Nat} {q : Int} (h : bad (ix l k) = false) (hq : (ix l k).kind = q) (h2 : sn l k q = true) : dv1 l k = 9 := by unfold dv1; rw [if_neg (by rw [h]; decide), hq, if_pos h2]
theorem dv_ok {l : List Rl} {k : Nat} {q : Int} (h : bad (ix l k) = false) (hq : (ix l k).kind = q) (h2 : sn l k q = false) : dv1 l k = 0 := by unfold dv1; rw [if_neg (by rw [h]; decide), hq, if_neg (by rw [h2]; decide)]
theorem chk_lim {l : List Rl} (h : decide (12 < (l.length : Int)) = true) : chk l = 3 := by unfold chk; rw [h]; rfl
theorem chk_all {l : List Rl} (h : decide (12 < (l.length : Int)) = false) : chk l = dvE l := by unfold chk; rw [h]; rfl
theorem fe_each {f : Nat → Int} : ∀ (n i : Nat), fe f i n = 0 → ∀ j, i ≤ j → j < i + n → f j = 0
  | 0, i, _, j, h1, h2 => by omega
  | n + 1, i, h, j, h1, h2 => by
    have hs : fe f i (n + 1) = if f i = 0 then fe f (i + 1) n else f i := rfl
    rw [hs] at h
    by_cases hz : f i = 0
    · rw [if_pos hz] at h
      by_cases hj : j = i
      · rw [hj]; exact hz
      · exact fe_each n (i + 1) h j (by omega) (by omega)
    · rw [if_neg hz] at h; exact absurd h hz
theorem chk_each {l : List Rl} (h : chk l = 0) : l.length ≤ 12 ∧ ∀ k, k < l.length → (0 ≤ (ix l k).kind ∧ (ix l k).kind ≤ 3) ∧ 0 ≤ (ix l k).part ∧ (ix l k).part ≤ 1000 := by
  unfold chk at h
  split at h
  · exact absurd h (by decide)
  · rename_i hl
    refine ⟨by simp at hl; omega, fun k hk => ?_⟩
    have h1 := fe_each l.length 0 h k (by omega) (by omega)
    unfold dv1 at h1
    split at h1
    · exact absurd h1 (by decide)
    · rename_i h3
      unfold bad at h3
      simp only [Bool.or_eq_true, decide_eq_true_eq, not_or] at h3
      omega
/-- how often a kind is named; what is no kind counts for nothing, and 0 stands for any -/
def cn (ks : List Int) (q : Int) : Nat → Int
  | 0 => 0
  | k + 1 => if 1 ≤ ix ks k ∧ ix ks k ≤ 3 then (if q = 0 ∨ ix ks k = q then cn ks q k + 1 else cn ks q k) else cn ks q k
theorem cn_in (ks : List Int) (q : Int) : ∀ k, 0 ≤ cn ks q k ∧ cn ks q k ≤ k
  | 0 => by simp [cn]
  | k + 1 => by
    have := cn_in ks q k
    simp only [cn]
    split
    · split <;> omega
    · omega
theorem cn_yes {ks : List Int} {q : Int} {k : Nat} (h1 : 1 ≤ ix ks k ∧ ix ks k ≤ 3) (h2 : q = 0 ∨ ix ks k = q) : cn ks q k + 1 = cn ks q (k + 1) := by simp only [cn]; rw [if_pos h1, if_pos h2]
theorem cn_no {ks : List Int} {q : Int} {k : Nat} (h : ¬ (1 ≤ ix ks k ∧ ix ks k ≤ 3) ∨ ¬ (q = 0 ∨ ix ks k = q)) : cn ks q k = cn ks q (k + 1) := by
  simp only [cn]
  rcases h with h | h
  · rw [if_neg h]
  · rw [if_neg h, ite_self]
/-- the greatest part of the rules that count, of the first k -/
def mx (l : List Rl) (ks : List Int) : Nat → Int
  | 0 => 0
  | k + 1 => if 0 < cn ks (ix l k).kind ks.length then max (mx l ks k) (ix l k).part else mx l ks k
theorem mx_yes {l : List Rl} {ks : List Int} {k : Nat} {q : Int} (hq : (ix l k).kind = q) (h : 0 < cn ks q ks.length) : max (mx l ks k) (ix l k).part = mx l ks (k + 1) := by simp only [mx]; rw [hq, if_pos h]
theorem mx_no {l : List Rl} {ks : List Int} {k : Nat} {q : Int} (hq : (ix l k).kind = q) (h : ¬ 0 < cn ks q ks.length) : mx l ks k = mx l ks (k + 1) := by simp only [mx]; rw [hq, if_neg h]
def prt (l : List Rl) (ks : List Int) : Int := if chk l = 0 then mx l ks l.length else 0
theorem prt_no {l : List Rl} {ks : List Int} (h : chk l ≠ 0) : prt l ks = 0 := by unfold prt; rw [if_neg h]
theorem prt_yes {l : List Rl} {ks : List Int} (h : chk l = 0) : prt l ks = mx l ks l.length := by unfold prt; rw [if_pos h]

set_option maxHeartbeats 4000000 in
set_option maxRecDepth 100000 in
theorem chk6 (l : List Rl) (hl : l.length ≤ 14) : Ctr Try.prog 6 [.sl 2 (List.map eRl l)] (.d (.fl (.int .i64 (chk l)))) := by
  refine ctr (n := 41) (rs := #[.tmp 2]) (L := [(0, .d (.sl 2 (List.map eRl l)))]) Try.func6 rfl rfl rfl rfl rfl (fun w0 U0 => ?_)
  refine a_rseq ?_
  refine rg_put (d := 2) (v := .d (.fl (.int .i64 0))) rfl (og rfl (op_assign rfl rfl rfl)) ?_
  refine rg_done rfl ?_
  refine a_seq ?_
  refine a_rseq ?_
  refine rg_put (d := 6) (v := .d (.sl 2 (List.map eRl l))) rfl (og rfl (op_move rfl rfl rfl)) ?_
  refine rg_put (d := 7) (v := .d (.fl (.int .i64 (l.length : Int)))) rfl (og rfl (s_len rfl Try.underlying22 rfl rfl)) ?_
  refine rg_put (d := 8) (v := .d (.fl (.bool ((decide (12 < (l.length : Int))))))) rfl (og rfl (op_bin rfl rfl rfl (b_gtr _ _ _ _) rfl)) ?_
  refine rg_done rfl ?_
  refine a_cond rfl (fun h1 => ?_) (fun h1 => ?_)
  · skip
    have h2 := t_dec h1
    refine a_rseq ?_
    refine rg_put (d := 2) (v := .d (.fl (.int .i64 3))) rfl (og rfl (op_assign rfl rfl rfl)) ?_
    refine rg_done rfl ?_
    refine a_ret ?_
    show ∃ ds, ResL _ _ _ ds ∧ RV.of ds = _
    refine ⟨[.fl (.int .i64 3)], (.cons (.tmp rfl (.d _)) .nil), ?_⟩
    rw [chk_lim h1]; rfl
  · skip
    have h3 := f_dec h1
    refine a_skip ?_
    show A _ _ _ _ _ _ _
    refine a_rseq ?_
    refine rg_nam (d := 3) (v := .pt 101 0) (m := 101) (nw := [(101, .bx 80 [.fl (.bool false), .fl (.bool false), .fl (.bool false), .fl (.bool false)])]) rfl (og rfl (of_eff (s_alloc 101 rfl ti80 (by kernel_rfl) rfl) rfl)) rfl ?_
    refine rg_done rfl ?_
    refine a_seq ?_
    refine a_rseq ?_
    refine rg_put (d := 9) (v := .d (.sl 2 (List.map eRl l))) rfl (og rfl (op_move rfl rfl rfl)) ?_
    refine rg_put (d := 10) (v := .d (.fl (.int .i64 (l.length : Int)))) rfl (og rfl (s_len rfl Try.underlying22 rfl rfl)) ?_
    refine rg_put (d := 11) (v := .d (.fl (.int .i64 0))) rfl (og rfl (op_move rfl rfl rfl)) ?_
    refine rg_done rfl ?_
    refine a_block ?_
    refine a_loop (ι := Nat) (fun k => SS [(0, .d (.sl 2 (List.map eRl l))), (3, .pt 101 0), (8, .d (.fl (.bool ((decide (12 < (l.length : Int))))))), (9, .d (.sl 2 (List.map eRl l))), (10, .d (.fl (.int .i64 (l.length : Int)))), (11, .d (.fl (.int .i64 (k : Int))))] [(101, .bx 80 [.fl (.bool (sn l k 0)), .fl (.bool (sn l k 1)), .fl (.bool (sn l k 2)), .fl (.bool (sn l k 3))])]) (fun k => k ≤ l.length ∧ dvE l = fe (dv1 l) k (l.length - k)) (fun k => l.length - k) 0 (⟨by omega, dvE_go l⟩) (imp_forget rfl ⟨rfl, rfl, rfl, rfl, rfl, (by first | rfl | exact ci (by omega) | exact ci (by simp) | exact cd (by simp) | simp), trivial⟩ ⟨rfl, trivial⟩) (fun k hok => ?_)
    obtain ⟨hk, hc⟩ := hok
    refine a_rseq ?_
    refine rg_put (d := 12) (v := .d (.fl (.bool ((decide ((k : Int) < (l.length : Int))))))) rfl (og rfl (op_bin rfl rfl rfl (b_lss _ _ _ _) rfl)) ?_
    refine rg_done rfl ?_
    refine a_seq ?_
    refine a_cond rfl (fun h4 => ?_) (fun h4 => ?_)
    · skip
      have h5 := t_dec h4
      refine a_skip ?_
      show A _ _ _ _ _ _ _
      refine a_seq ?_
      refine a_block ?_
      refine a_rseq ?_
      refine rg_put (d := 13) (v := .el ((eRl (ix l k)))) rfl (og rfl (s_index rfl Try.underlying22 ti31 rfl rfl (by omega) (row_at (by omega)) rfl)) ?_
      refine rg_put (d := 14) (v := .d (.ag (eRl (ix l k)))) rfl (og rfl (of_eff (s_load_els rfl Try.underlying31 rfl ti31 rfl rfl rfl) rfl)) ?_
      refine rg_nam (d := 5) (v := .pt 102 0) (m := 102) (nw := [(102, .bx 31 [.fl (.int .i64 0), .fl (.int .i64 0)])]) rfl (og rfl (of_eff (s_alloc 102 rfl ti31 (by kernel_rfl) rfl) rfl)) rfl ?_
      refine rg_sto (nw := [(102, .bx 31 ((eRl (ix l k))))]) rfl (og rfl (of_eff (s_store rfl rfl ti31 rfl rfl rfl rfl rfl rfl) rfl)) ?_
      refine rg_done rfl ?_
      refine a_seq ?_
      refine a_rseq ?_
      refine rg_put (d := 15) (v := .pt 102 0) rfl (og rfl (of_eff (s_field_pt rfl Try.underlying31 rfl ti3 rfl rfl rfl) rfl)) ?_
      refine rg_put (d := 16) (v := .d (.fl (.int .i64 ((ix l k).kind)))) rfl (og rfl (op_load_pt rfl Try.underlying3 rfl rfl rfl rfl rfl)) ?_
      refine rg_put (d := 17) (v := .d (.fl (.bool ((decide ((ix l k).kind < 0)))))) rfl (og rfl (op_bin rfl rfl rfl (b_lss _ _ _ _) rfl)) ?_
      refine rg_put (d := 18) (v := .d (.fl (.bool ((decide ((ix l k).kind < 0)))))) rfl (og rfl (op_move rfl rfl rfl)) ?_
      rcases fot ((decide ((ix l k).kind < 0))) with h6 | h6
      · skip
        have h7 := f_dec h6
        refine rg_put (d := 19) (v := .pt 102 0) rfl (oy rfl rfl rfl h6 (of_eff (s_field_pt rfl Try.underlying31 rfl ti3 rfl rfl rfl) rfl)) ?_
        refine rg_put (d := 20) (v := .d (.fl (.int .i64 ((ix l k).kind)))) rfl (oy rfl rfl rfl h6 (op_load_pt rfl Try.underlying3 rfl rfl rfl rfl rfl)) ?_
        refine rg_put (d := 21) (v := .d (.fl (.bool ((decide (3 < (ix l k).kind)))))) rfl (oy rfl rfl rfl h6 (op_bin rfl rfl rfl (b_gtr _ _ _ _) rfl)) ?_
        refine rg_put (d := 22) (v := .d (.fl (.bool ((decide (3 < (ix l k).kind)))))) rfl (og rfl (op_pick rfl rfl (by rw [h6]; rfl) rfl)) ?_
        refine rg_put (d := 23) (v := .d (.fl (.bool ((decide (3 < (ix l k).kind)))))) rfl (og rfl (op_move rfl rfl rfl)) ?_
        rcases fot ((decide (3 < (ix l k).kind))) with h8 | h8
        · skip
          have h9 := f_dec h8
          refine rg_put (d := 24) (v := .pt 102 1) rfl (oy rfl rfl rfl h8 (of_eff (s_field_pt rfl Try.underlying31 rfl ti3 rfl rfl rfl) rfl)) ?_
          refine rg_put (d := 25) (v := .d (.fl (.int .i64 ((ix l k).part)))) rfl (oy rfl rfl rfl h8 (op_load_pt rfl Try.underlying3 rfl rfl rfl rfl rfl)) ?_
          refine rg_put (d := 26) (v := .d (.fl (.bool ((decide ((ix l k).part < 0)))))) rfl (oy rfl rfl rfl h8 (op_bin rfl rfl rfl (b_lss _ _ _ _) rfl)) ?_
          refine rg_put (d := 27) (v := .d (.fl (.bool ((decide ((ix l k).part < 0)))))) rfl (og rfl (op_pick rfl rfl (by rw [h8]; rfl) rfl)) ?_
          refine rg_put (d := 28) (v := .d (.fl (.bool ((decide ((ix l k).part < 0)))))) rfl (og rfl (op_move rfl rfl rfl)) ?_
          rcases fot ((decide ((ix l k).part < 0))) with h10 | h10
          · skip
            have h11 := f_dec h10
            refine rg_put (d := 29) (v := .pt 102 1) rfl (oy rfl rfl rfl h10 (of_eff (s_field_pt rfl Try.underlying31 rfl ti3 rfl rfl rfl) rfl)) ?_
            refine rg_put (d := 30) (v := .d (.fl (.int .i64 ((ix l k).part)))) rfl (oy rfl rfl rfl h10 (op_load_pt rfl Try.underlying3 rfl rfl rfl rfl rfl)) ?_
            refine rg_put (d := 31) (v := .d (.fl (.bool ((decide (1000 < (ix l k).part)))))) rfl (oy rfl rfl rfl h10 (op_bin rfl rfl rfl (b_gtr _ _ _ _) rfl)) ?_
            refine rg_put (d := 32) (v := .d (.fl (.bool ((decide (1000 < (ix l k).part)))))) rfl (og rfl (op_pick rfl rfl (by rw [h10]; rfl) rfl)) ?_
            refine rg_done rfl ?_
            refine a_cond rfl (fun h12 => ?_) (fun h12 => ?_)
            · skip
              have h13 := t_dec h12
              refine a_rseq ?_
              refine rg_put (d := 2) (v := .d (.fl (.int .i64 1))) rfl (og rfl (op_assign rfl rfl rfl)) ?_
              refine rg_done rfl ?_
              refine a_ret ?_
              show ∃ ds, ResL _ _ _ ds ∧ RV.of ds = _
              refine ⟨[.fl (.int .i64 1)], (.cons (.tmp rfl (.d _)) .nil), ?_⟩
              have hbd : bad (ix l k) = true := by unfold bad; simp only [h1, h4, h6, h8, h10, h12, Bool.true_or, Bool.false_or, Bool.or_true, Bool.or_false, Bool.not_true, Bool.not_false, cond_true, cond_false, Bool.true_and, Bool.false_and, Bool.and_true, Bool.and_false] <;> rfl
              have hb := dv_bad (l := l) (k := k) hbd
              rw [chk_all h1, fe_yes (by omega) hc hb (by decide)]; rfl
            · skip
              have h14 := f_dec h12
              refine a_skip ?_
              show A _ _ _ _ _ _ _
              refine a_seq ?_
              refine a_rseq ?_
              refine rg_put (d := 33) (v := .pt 102 0) rfl (og rfl (of_eff (s_field_pt rfl Try.underlying31 rfl ti3 rfl rfl rfl) rfl)) ?_
              refine rg_put (d := 34) (v := .d (.fl (.int .i64 ((ix l k).kind)))) rfl (og rfl (op_load_pt rfl Try.underlying3 rfl rfl rfl rfl rfl)) ?_
              rcases fot (((ix l k).kind == 0)) with h15 | h15
              · skip
                have h16 := f_beq h15
                rcases fot (((ix l k).kind == 1)) with h17 | h17
                · skip
                  have h18 := f_beq h17
                  rcases fot (((ix l k).kind == 2)) with h19 | h19
                  · skip
                    have h20 := f_beq h19
                    refine rg_put (d := 35) (v := .pt 101 3) rfl (og rfl (op_index_arr (j := 3) rfl Try.underlying80 ti4 rfl rfl (by omega) (by omega) rfl)) ?_
                    refine rg_put (d := 36) (v := .d (.fl (.bool (sn l k 3)))) rfl (og rfl (op_load_pt rfl Try.underlying4 rfl rfl rfl rfl rfl)) ?_
                    refine rg_done rfl ?_
                    refine a_cond rfl (fun h21 => ?_) (fun h21 => ?_)
                    · skip
                      refine a_rseq ?_
                      refine rg_put (d := 2) (v := .d (.fl (.int .i64 9))) rfl (og rfl (op_assign rfl rfl rfl)) ?_
                      refine rg_done rfl ?_
                      refine a_ret ?_
                      show ∃ ds, ResL _ _ _ ds ∧ RV.of ds = _
                      refine ⟨[.fl (.int .i64 9)], (.cons (.tmp rfl (.d _)) .nil), ?_⟩
                      have hbd : bad (ix l k) = false := by unfold bad; simp only [h1, h4, h6, h8, h10, h12, h15, h17, h19, h21, Bool.true_or, Bool.false_or, Bool.or_true, Bool.or_false, Bool.not_true, Bool.not_false, cond_true, cond_false, Bool.true_and, Bool.false_and, Bool.and_true, Bool.and_false] <;> rfl
                      have hb := dv_dup hbd (q := 3) (by omega) h21
                      rw [chk_all h1, fe_yes (by omega) hc hb (by decide)]; rfl
                    · skip
                      refine a_skip ?_
                      show A _ _ _ _ _ _ _
                      refine a_region ?_
                      refine rg_put (d := 37) (v := .pt 102 0) rfl (og rfl (of_eff (s_field_pt rfl Try.underlying31 rfl ti3 rfl rfl rfl) rfl)) ?_
                      refine rg_put (d := 38) (v := .d (.fl (.int .i64 ((ix l k).kind)))) rfl (og rfl (op_load_pt rfl Try.underlying3 rfl rfl rfl rfl rfl)) ?_
                      refine rg_put (d := 39) (v := .pt 101 3) rfl (og rfl (op_index_arr (j := 3) rfl Try.underlying80 ti4 rfl rfl (by omega) (by omega) rfl)) ?_
                      refine rg_sto (nw := [(101, .bx 80 [.fl (.bool (sn l k 0)), .fl (.bool (sn l k 1)), .fl (.bool (sn l k 2)), .fl (.bool true)])]) rfl (og rfl (of_eff (s_store rfl rfl ti4 rfl rfl rfl rfl rfl rfl) rfl)) ?_
                      refine rg_done rfl ?_
                      show A _ _ _ _ _ _ _
                      refine a_region ?_
                      refine rg_put (d := 40) (v := .d (.fl (.int .i64 (((k : Int) + 1))))) rfl (og rfl (op_bin rfl rfl rfl (fun x y w => b_add64 _ _ _ x y w (by omega)) rfl)) ?_
                      refine rg_put (d := 11) (v := .d (.fl (.int .i64 (((k : Int) + 1))))) rfl (og rfl (op_move rfl rfl rfl)) ?_
                      refine rg_done rfl ?_
                      have hbd : bad (ix l k) = false := by unfold bad; simp only [h1, h4, h6, h8, h10, h12, h15, h17, h19, h21, Bool.true_or, Bool.false_or, Bool.or_true, Bool.or_false, Bool.not_true, Bool.not_false, cond_true, cond_false, Bool.true_and, Bool.false_and, Bool.and_true, Bool.and_false] <;> rfl
                      have hb : dv1 l k = 0 := dv_ok hbd (q := 3) (by omega) h21
                      show ∃ i, _ ∧ _ ∧ Imp _ _ _ _ _
                      refine ⟨k + 1, ⟨by omega, fe_no (by omega) hc hb⟩, by omega, imp_forget rfl ⟨rfl, rfl, rfl, rfl, rfl, (by first | rfl | exact ci (by omega) | exact ci (by simp) | exact cd (by simp) | simp), trivial⟩ ⟨(bxB (sn_no (by omega) (by omega)) (sn_no (by omega) (by omega)) (sn_no (by omega) (by omega)) (sn_yes (by omega) (by omega))), trivial⟩⟩
                  · skip
                    have h22 := t_beq h19
                    refine rg_put (d := 35) (v := .pt 101 2) rfl (og rfl (op_index_arr (j := 2) rfl Try.underlying80 ti4 rfl rfl (by omega) (by omega) rfl)) ?_
                    refine rg_put (d := 36) (v := .d (.fl (.bool (sn l k 2)))) rfl (og rfl (op_load_pt rfl Try.underlying4 rfl rfl rfl rfl rfl)) ?_
                    refine rg_done rfl ?_
                    refine a_cond rfl (fun h23 => ?_) (fun h23 => ?_)
                    · skip
                      refine a_rseq ?_
                      refine rg_put (d := 2) (v := .d (.fl (.int .i64 9))) rfl (og rfl (op_assign rfl rfl rfl)) ?_
                      refine rg_done rfl ?_
                      refine a_ret ?_
                      show ∃ ds, ResL _ _ _ ds ∧ RV.of ds = _
                      refine ⟨[.fl (.int .i64 9)], (.cons (.tmp rfl (.d _)) .nil), ?_⟩
                      have hbd : bad (ix l k) = false := by unfold bad; simp only [h1, h4, h6, h8, h10, h12, h15, h17, h19, h23, Bool.true_or, Bool.false_or, Bool.or_true, Bool.or_false, Bool.not_true, Bool.not_false, cond_true, cond_false, Bool.true_and, Bool.false_and, Bool.and_true, Bool.and_false] <;> rfl
                      have hb := dv_dup hbd (q := 2) (by omega) h23
                      rw [chk_all h1, fe_yes (by omega) hc hb (by decide)]; rfl
                    · skip
                      refine a_skip ?_
                      show A _ _ _ _ _ _ _
                      refine a_region ?_
                      refine rg_put (d := 37) (v := .pt 102 0) rfl (og rfl (of_eff (s_field_pt rfl Try.underlying31 rfl ti3 rfl rfl rfl) rfl)) ?_
                      refine rg_put (d := 38) (v := .d (.fl (.int .i64 ((ix l k).kind)))) rfl (og rfl (op_load_pt rfl Try.underlying3 rfl rfl rfl rfl rfl)) ?_
                      refine rg_put (d := 39) (v := .pt 101 2) rfl (og rfl (op_index_arr (j := 2) rfl Try.underlying80 ti4 rfl rfl (by omega) (by omega) rfl)) ?_
                      refine rg_sto (nw := [(101, .bx 80 [.fl (.bool (sn l k 0)), .fl (.bool (sn l k 1)), .fl (.bool true), .fl (.bool (sn l k 3))])]) rfl (og rfl (of_eff (s_store rfl rfl ti4 rfl rfl rfl rfl rfl rfl) rfl)) ?_
                      refine rg_done rfl ?_
                      show A _ _ _ _ _ _ _
                      refine a_region ?_
                      refine rg_put (d := 40) (v := .d (.fl (.int .i64 (((k : Int) + 1))))) rfl (og rfl (op_bin rfl rfl rfl (fun x y w => b_add64 _ _ _ x y w (by omega)) rfl)) ?_
                      refine rg_put (d := 11) (v := .d (.fl (.int .i64 (((k : Int) + 1))))) rfl (og rfl (op_move rfl rfl rfl)) ?_
                      refine rg_done rfl ?_
                      have hbd : bad (ix l k) = false := by unfold bad; simp only [h1, h4, h6, h8, h10, h12, h15, h17, h19, h23, Bool.true_or, Bool.false_or, Bool.or_true, Bool.or_false, Bool.not_true, Bool.not_false, cond_true, cond_false, Bool.true_and, Bool.false_and, Bool.and_true, Bool.and_false] <;> rfl
                      have hb : dv1 l k = 0 := dv_ok hbd (q := 2) (by omega) h23
                      show ∃ i, _ ∧ _ ∧ Imp _ _ _ _ _
                      refine ⟨k + 1, ⟨by omega, fe_no (by omega) hc hb⟩, by omega, imp_forget rfl ⟨rfl, rfl, rfl, rfl, rfl, (by first | rfl | exact ci (by omega) | exact ci (by simp) | exact cd (by simp) | simp), trivial⟩ ⟨(bxB (sn_no (by omega) (by omega)) (sn_no (by omega) (by omega)) (sn_yes (by omega) (by omega)) (sn_no (by omega) (by omega))), trivial⟩⟩
                · skip
                  have h24 := t_beq h17
                  refine rg_put (d := 35) (v := .pt 101 1) rfl (og rfl (op_index_arr (j := 1) rfl Try.underlying80 ti4 rfl rfl (by omega) (by omega) rfl)) ?_
                  refine rg_put (d := 36) (v := .d (.fl (.bool (sn l k 1)))) rfl (og rfl (op_load_pt rfl Try.underlying4 rfl rfl rfl rfl rfl)) ?_
                  refine rg_done rfl ?_
                  refine a_cond rfl (fun h25 => ?_) (fun h25 => ?_)
                  · skip
                    refine a_rseq ?_
                    refine rg_put (d := 2) (v := .d (.fl (.int .i64 9))) rfl (og rfl (op_assign rfl rfl rfl)) ?_
                    refine rg_done rfl ?_
                    refine a_ret ?_
                    show ∃ ds, ResL _ _ _ ds ∧ RV.of ds = _
                    refine ⟨[.fl (.int .i64 9)], (.cons (.tmp rfl (.d _)) .nil), ?_⟩
                    have hbd : bad (ix l k) = false := by unfold bad; simp only [h1, h4, h6, h8, h10, h12, h15, h17, h25, Bool.true_or, Bool.false_or, Bool.or_true, Bool.or_false, Bool.not_true, Bool.not_false, cond_true, cond_false, Bool.true_and, Bool.false_and, Bool.and_true, Bool.and_false] <;> rfl
                    have hb := dv_dup hbd (q := 1) (by omega) h25
                    rw [chk_all h1, fe_yes (by omega) hc hb (by decide)]; rfl
                  · skip
                    refine a_skip ?_
                    show A _ _ _ _ _ _ _
                    refine a_region ?_
                    refine rg_put (d := 37) (v := .pt 102 0) rfl (og rfl (of_eff (s_field_pt rfl Try.underlying31 rfl ti3 rfl rfl rfl) rfl)) ?_
                    refine rg_put (d := 38) (v := .d (.fl (.int .i64 ((ix l k).kind)))) rfl (og rfl (op_load_pt rfl Try.underlying3 rfl rfl rfl rfl rfl)) ?_
                    refine rg_put (d := 39) (v := .pt 101 1) rfl (og rfl (op_index_arr (j := 1) rfl Try.underlying80 ti4 rfl rfl (by omega) (by omega) rfl)) ?_
                    refine rg_sto (nw := [(101, .bx 80 [.fl (.bool (sn l k 0)), .fl (.bool true), .fl (.bool (sn l k 2)), .fl (.bool (sn l k 3))])]) rfl (og rfl (of_eff (s_store rfl rfl ti4 rfl rfl rfl rfl rfl rfl) rfl)) ?_
                    refine rg_done rfl ?_
                    show A _ _ _ _ _ _ _
                    refine a_region ?_
                    refine rg_put (d := 40) (v := .d (.fl (.int .i64 (((k : Int) + 1))))) rfl (og rfl (op_bin rfl rfl rfl (fun x y w => b_add64 _ _ _ x y w (by omega)) rfl)) ?_
                    refine rg_put (d := 11) (v := .d (.fl (.int .i64 (((k : Int) + 1))))) rfl (og rfl (op_move rfl rfl rfl)) ?_
                    refine rg_done rfl ?_
                    have hbd : bad (ix l k) = false := by unfold bad; simp only [h1, h4, h6, h8, h10, h12, h15, h17, h25, Bool.true_or, Bool.false_or, Bool.or_true, Bool.or_false, Bool.not_true, Bool.not_false, cond_true, cond_false, Bool.true_and, Bool.false_and, Bool.and_true, Bool.and_false] <;> rfl
                    have hb : dv1 l k = 0 := dv_ok hbd (q := 1) (by omega) h25
                    show ∃ i, _ ∧ _ ∧ Imp _ _ _ _ _
                    refine ⟨k + 1, ⟨by omega, fe_no (by omega) hc hb⟩, by omega, imp_forget rfl ⟨rfl, rfl, rfl, rfl, rfl, (by first | rfl | exact ci (by omega) | exact ci (by simp) | exact cd (by simp) | simp), trivial⟩ ⟨(bxB (sn_no (by omega) (by omega)) (sn_yes (by omega) (by omega)) (sn_no (by omega) (by omega)) (sn_no (by omega) (by omega))), trivial⟩⟩
              · skip
                have h26 := t_beq h15
                refine rg_put (d := 35) (v := .pt 101 0) rfl (og rfl (op_index_arr (j := 0) rfl Try.underlying80 ti4 rfl rfl (by omega) (by omega) rfl)) ?_
                refine rg_put (d := 36) (v := .d (.fl (.bool (sn l k 0)))) rfl (og rfl (op_load_pt rfl Try.underlying4 rfl rfl rfl rfl rfl)) ?_
                refine rg_done rfl ?_
                refine a_cond rfl (fun h27 => ?_) (fun h27 => ?_)
                · skip
                  refine a_rseq ?_
                  refine rg_put (d := 2) (v := .d (.fl (.int .i64 9))) rfl (og rfl (op_assign rfl rfl rfl)) ?_
                  refine rg_done rfl ?_
                  refine a_ret ?_
                  show ∃ ds, ResL _ _ _ ds ∧ RV.of ds = _
                  refine ⟨[.fl (.int .i64 9)], (.cons (.tmp rfl (.d _)) .nil), ?_⟩
                  have hbd : bad (ix l k) = false := by unfold bad; simp only [h1, h4, h6, h8, h10, h12, h15, h27, Bool.true_or, Bool.false_or, Bool.or_true, Bool.or_false, Bool.not_true, Bool.not_false, cond_true, cond_false, Bool.true_and, Bool.false_and, Bool.and_true, Bool.and_false] <;> rfl
                  have hb := dv_dup hbd (q := 0) (by omega) h27
                  rw [chk_all h1, fe_yes (by omega) hc hb (by decide)]; rfl
                · skip
                  refine a_skip ?_
                  show A _ _ _ _ _ _ _
                  refine a_region ?_
                  refine rg_put (d := 37) (v := .pt 102 0) rfl (og rfl (of_eff (s_field_pt rfl Try.underlying31 rfl ti3 rfl rfl rfl) rfl)) ?_
                  refine rg_put (d := 38) (v := .d (.fl (.int .i64 ((ix l k).kind)))) rfl (og rfl (op_load_pt rfl Try.underlying3 rfl rfl rfl rfl rfl)) ?_
                  refine rg_put (d := 39) (v := .pt 101 0) rfl (og rfl (op_index_arr (j := 0) rfl Try.underlying80 ti4 rfl rfl (by omega) (by omega) rfl)) ?_
                  refine rg_sto (nw := [(101, .bx 80 [.fl (.bool true), .fl (.bool (sn l k 1)), .fl (.bool (sn l k 2)), .fl (.bool (sn l k 3))])]) rfl (og rfl (of_eff (s_store rfl rfl ti4 rfl rfl rfl rfl rfl rfl) rfl)) ?_
                  refine rg_done rfl ?_
                  show A _ _ _ _ _ _ _
                  refine a_region ?_
                  refine rg_put (d := 40) (v := .d (.fl (.int .i64 (((k : Int) + 1))))) rfl (og rfl (op_bin rfl rfl rfl (fun x y w => b_add64 _ _ _ x y w (by omega)) rfl)) ?_
                  refine rg_put (d := 11) (v := .d (.fl (.int .i64 (((k : Int) + 1))))) rfl (og rfl (op_move rfl rfl rfl)) ?_
                  refine rg_done rfl ?_
                  have hbd : bad (ix l k) = false := by unfold bad; simp only [h1, h4, h6, h8, h10, h12, h15, h27, Bool.true_or, Bool.false_or, Bool.or_true, Bool.or_false, Bool.not_true, Bool.not_false, cond_true, cond_false, Bool.true_and, Bool.false_and, Bool.and_true, Bool.and_false] <;> rfl
                  have hb : dv1 l k = 0 := dv_ok hbd (q := 0) (by omega) h27
                  show ∃ i, _ ∧ _ ∧ Imp _ _ _ _ _
                  refine ⟨k + 1, ⟨by omega, fe_no (by omega) hc hb⟩, by omega, imp_forget rfl ⟨rfl, rfl, rfl, rfl, rfl, (by first | rfl | exact ci (by omega) | exact ci (by simp) | exact cd (by simp) | simp), trivial⟩ ⟨(bxB (sn_yes (by omega) (by omega)) (sn_no (by omega) (by omega)) (sn_no (by omega) (by omega)) (sn_no (by omega) (by omega))), trivial⟩⟩
          · skip
            have h28 := t_dec h10
            refine rg_put (d := 29) (v := .d (.fl undef)) rfl (on rfl rfl rfl h10) ?_
            refine rg_put (d := 30) (v := .d (.fl undef)) rfl (on rfl rfl rfl h10) ?_
            refine rg_put (d := 31) (v := .d (.fl undef)) rfl (on rfl rfl rfl h10) ?_
            refine rg_put (d := 32) (v := .d (.fl (.bool true))) rfl (og rfl (op_pick rfl rfl (by rw [h10]; rfl) rfl)) ?_
            refine rg_done rfl ?_
            refine a_condK rfl rfl ?_
            refine a_rseq ?_
            refine rg_put (d := 2) (v := .d (.fl (.int .i64 1))) rfl (og rfl (op_assign rfl rfl rfl)) ?_
            refine rg_done rfl ?_
            refine a_ret ?_
            show ∃ ds, ResL _ _ _ ds ∧ RV.of ds = _
            refine ⟨[.fl (.int .i64 1)], (.cons (.tmp rfl (.d _)) .nil), ?_⟩
            have hbd : bad (ix l k) = true := by unfold bad; simp only [h1, h4, h6, h8, h10, Bool.true_or, Bool.false_or, Bool.or_true, Bool.or_false, Bool.not_true, Bool.not_false, cond_true, cond_false, Bool.true_and, Bool.false_and, Bool.and_true, Bool.and_false] <;> rfl
            have hb := dv_bad (l := l) (k := k) hbd
            rw [chk_all h1, fe_yes (by omega) hc hb (by decide)]; rfl
        · skip
          have h29 := t_dec h8
          refine rg_put (d := 24) (v := .d (.fl undef)) rfl (on rfl rfl rfl h8) ?_
          refine rg_put (d := 25) (v := .d (.fl undef)) rfl (on rfl rfl rfl h8) ?_
          refine rg_put (d := 26) (v := .d (.fl undef)) rfl (on rfl rfl rfl h8) ?_
          refine rg_put (d := 27) (v := .d (.fl (.bool true))) rfl (og rfl (op_pick rfl rfl (by rw [h8]; rfl) rfl)) ?_
          refine rg_put (d := 28) (v := .d (.fl (.bool true))) rfl (og rfl (op_move rfl rfl rfl)) ?_
          refine rg_put (d := 29) (v := .d (.fl undef)) rfl (on rfl rfl rfl rfl) ?_
          refine rg_put (d := 30) (v := .d (.fl undef)) rfl (on rfl rfl rfl rfl) ?_
          refine rg_put (d := 31) (v := .d (.fl undef)) rfl (on rfl rfl rfl rfl) ?_
          refine rg_put (d := 32) (v := .d (.fl (.bool true))) rfl (og rfl (op_pick rfl rfl rfl rfl)) ?_
          refine rg_done rfl ?_
          refine a_condK rfl rfl ?_
          refine a_rseq ?_
          refine rg_put (d := 2) (v := .d (.fl (.int .i64 1))) rfl (og rfl (op_assign rfl rfl rfl)) ?_
          refine rg_done rfl ?_
          refine a_ret ?_
          show ∃ ds, ResL _ _ _ ds ∧ RV.of ds = _
          refine ⟨[.fl (.int .i64 1)], (.cons (.tmp rfl (.d _)) .nil), ?_⟩
          have hbd : bad (ix l k) = true := by unfold bad; simp only [h1, h4, h6, h8, Bool.true_or, Bool.false_or, Bool.or_true, Bool.or_false, Bool.not_true, Bool.not_false, cond_true, cond_false, Bool.true_and, Bool.false_and, Bool.and_true, Bool.and_false] <;> rfl
          have hb := dv_bad (l := l) (k := k) hbd
          rw [chk_all h1, fe_yes (by omega) hc hb (by decide)]; rfl
      · skip
        have h30 := t_dec h6
        refine rg_put (d := 19) (v := .d (.fl undef)) rfl (on rfl rfl rfl h6) ?_
        refine rg_put (d := 20) (v := .d (.fl undef)) rfl (on rfl rfl rfl h6) ?_
        refine rg_put (d := 21) (v := .d (.fl undef)) rfl (on rfl rfl rfl h6) ?_
        refine rg_put (d := 22) (v := .d (.fl (.bool true))) rfl (og rfl (op_pick rfl rfl (by rw [h6]; rfl) rfl)) ?_
        refine rg_put (d := 23) (v := .d (.fl (.bool true))) rfl (og rfl (op_move rfl rfl rfl)) ?_
        refine rg_put (d := 24) (v := .d (.fl undef)) rfl (on rfl rfl rfl rfl) ?_
        refine rg_put (d := 25) (v := .d (.fl undef)) rfl (on rfl rfl rfl rfl) ?_
        refine rg_put (d := 26) (v := .d (.fl undef)) rfl (on rfl rfl rfl rfl) ?_
        refine rg_put (d := 27) (v := .d (.fl (.bool true))) rfl (og rfl (op_pick rfl rfl rfl rfl)) ?_
        refine rg_put (d := 28) (v := .d (.fl (.bool true))) rfl (og rfl (op_move rfl rfl rfl)) ?_
        refine rg_put (d := 29) (v := .d (.fl undef)) rfl (on rfl rfl rfl rfl) ?_
        refine rg_put (d := 30) (v := .d (.fl undef)) rfl (on rfl rfl rfl rfl) ?_
        refine rg_put (d := 31) (v := .d (.fl undef)) rfl (on rfl rfl rfl rfl) ?_
        refine rg_put (d := 32) (v := .d (.fl (.bool true))) rfl (og rfl (op_pick rfl rfl rfl rfl)) ?_
        refine rg_done rfl ?_
        refine a_condK rfl rfl ?_
        refine a_rseq ?_
        refine rg_put (d := 2) (v := .d (.fl (.int .i64 1))) rfl (og rfl (op_assign rfl rfl rfl)) ?_
        refine rg_done rfl ?_
        refine a_ret ?_
        show ∃ ds, ResL _ _ _ ds ∧ RV.of ds = _
        refine ⟨[.fl (.int .i64 1)], (.cons (.tmp rfl (.d _)) .nil), ?_⟩
        have hbd : bad (ix l k) = true := by unfold bad; simp only [h1, h4, h6, Bool.true_or, Bool.false_or, Bool.or_true, Bool.or_false, Bool.not_true, Bool.not_false, cond_true, cond_false, Bool.true_and, Bool.false_and, Bool.and_true, Bool.and_false] <;> rfl
        have hb := dv_bad (l := l) (k := k) hbd
        rw [chk_all h1, fe_yes (by omega) hc hb (by decide)]; rfl
    · skip
      have h31 := f_dec h4
      refine a_exit ?_
      show A _ _ _ _ _ _ _
      refine a_rseq ?_
      refine rg_put (d := 2) (v := .d (.fl (.int .i64 0))) rfl (og rfl (op_assign rfl rfl rfl)) ?_
      refine rg_done rfl ?_
      refine a_ret ?_
      show ∃ ds, ResL _ _ _ ds ∧ RV.of ds = _
      refine ⟨[.fl (.int .i64 0)], (.cons (.tmp rfl (.d _)) .nil), ?_⟩
      rw [fe_end (by omega)] at hc
      rw [chk_all h1, hc]; rfl
set_option maxHeartbeats 4000000 in
set_option maxRecDepth 100000 in
theorem chk7 (l : List Rl) (hl : l.length ≤ 14) : Ctr Try.prog 7 [.sl 2 (List.map eRl l)] (.d (.fl (.int .i64 (chk l)))) := by
  refine ctr (n := 60) (rs := #[.tmp 2]) (L := [(0, .d (.sl 2 (List.map eRl l)))]) Try.func7 rfl rfl rfl rfl rfl (fun w0 U0 => ?_)
  refine a_rseq ?_
  refine rg_put (d := 2) (v := .d (.fl (.int .i64 0))) rfl (og rfl (op_assign rfl rfl rfl)) ?_
  refine rg_done rfl ?_
  refine a_seq ?_
  refine a_rseq ?_
  refine rg_put (d := 5) (v := .d (.sl 2 (List.map eRl l))) rfl (og rfl (op_move rfl rfl rfl)) ?_
  refine rg_put (d := 6) (v := .d (.fl (.int .i64 (l.length : Int)))) rfl (og rfl (s_len rfl Try.underlying22 rfl rfl)) ?_
  refine rg_put (d := 7) (v := .d (.fl (.bool ((decide (12 < (l.length : Int))))))) rfl (og rfl (op_bin rfl rfl rfl (b_gtr _ _ _ _) rfl)) ?_
  refine rg_done rfl ?_
  refine a_cond rfl (fun h1 => ?_) (fun h1 => ?_)
  · skip
    have h2 := t_dec h1
    refine a_rseq ?_
    refine rg_put (d := 2) (v := .d (.fl (.int .i64 3))) rfl (og rfl (op_assign rfl rfl rfl)) ?_
    refine rg_done rfl ?_
    refine a_ret ?_
    show ∃ ds, ResL _ _ _ ds ∧ RV.of ds = _
    refine ⟨[.fl (.int .i64 3)], (.cons (.tmp rfl (.d _)) .nil), ?_⟩
    rw [chk_lim h1]; rfl
  · skip
    have h3 := f_dec h1
    refine a_skip ?_
    show A _ _ _ _ _ _ _
    refine a_seq ?_
    refine a_rseq ?_
    refine rg_put (d := 3) (v := .d (.fl (.int .i64 0))) rfl (og rfl (op_assign rfl rfl rfl)) ?_
    refine rg_done rfl ?_
    refine a_block ?_
    refine a_loop (ι := Nat) (fun k => SS [(0, .d (.sl 2 (List.map eRl l))), (7, .d (.fl (.bool ((decide (12 < (l.length : Int))))))), (3, .d (.fl (.int .i64 (k : Int))))] []) (fun k => k ≤ l.length ∧ dvE l = fe (dv1 l) k (l.length - k)) (fun k => l.length - k) 0 (⟨by omega, dvE_go l⟩) (imp_forget rfl ⟨rfl, rfl, (by first | rfl | exact ci (by omega) | exact ci (by simp) | exact cd (by simp) | simp), trivial⟩ trivial) (fun k hok => ?_)
    obtain ⟨hk, hc⟩ := hok
    refine a_seq ?_
    refine a_rseq ?_
    refine rg_put (d := 8) (v := .d (.fl (.int .i64 (k : Int)))) rfl (og rfl (op_move rfl rfl rfl)) ?_
    refine rg_put (d := 9) (v := .d (.sl 2 (List.map eRl l))) rfl (og rfl (op_move rfl rfl rfl)) ?_
    refine rg_put (d := 10) (v := .d (.fl (.int .i64 (l.length : Int)))) rfl (og rfl (s_len rfl Try.underlying22 rfl rfl)) ?_
    refine rg_put (d := 11) (v := .d (.fl (.bool ((decide ((k : Int) < (l.length : Int))))))) rfl (og rfl (op_bin rfl rfl rfl (b_lss _ _ _ _) rfl)) ?_
    refine rg_done rfl ?_
    refine a_cond rfl (fun h4 => ?_) (fun h4 => ?_)
    · skip
      have h5 := t_dec h4
      refine a_skip ?_
      show A _ _ _ _ _ _ _
      refine a_seq ?_
      refine a_block ?_
      refine a_seq ?_
      refine a_rseq ?_
      refine rg_put (d := 14) (v := .d (.sl 2 (List.map eRl l))) rfl (og rfl (op_move rfl rfl rfl)) ?_
      refine rg_put (d := 15) (v := .d (.fl (.int .i64 (k : Int)))) rfl (og rfl (op_move rfl rfl rfl)) ?_
      refine rg_put (d := 16) (v := .el ((eRl (ix l k)))) rfl (og rfl (s_index rfl Try.underlying22 ti31 rfl rfl (by omega) (row_at (by omega)) rfl)) ?_
      refine rg_put (d := 17) (v := .el ((List.drop 0 ((eRl (ix l k)))))) rfl (og rfl (of_eff (s_field_el rfl Try.underlying31 rfl ti3 rfl rfl rfl) rfl)) ?_
      refine rg_put (d := 18) (v := .d (.fl (.int .i64 ((ix l k).kind)))) rfl (og rfl (op_load_el rfl Try.underlying3 rfl rfl rfl rfl)) ?_
      refine rg_put (d := 19) (v := .d (.fl (.bool ((decide ((ix l k).kind < 0)))))) rfl (og rfl (op_bin rfl rfl rfl (b_lss _ _ _ _) rfl)) ?_
      refine rg_put (d := 20) (v := .d (.fl (.bool ((decide ((ix l k).kind < 0)))))) rfl (og rfl (op_move rfl rfl rfl)) ?_
      rcases fot ((decide ((ix l k).kind < 0))) with h6 | h6
      · skip
        have h7 := f_dec h6
        refine rg_put (d := 21) (v := .d (.sl 2 (List.map eRl l))) rfl (oy rfl rfl rfl h6 (op_move rfl rfl rfl)) ?_
        refine rg_put (d := 22) (v := .d (.fl (.int .i64 (k : Int)))) rfl (oy rfl rfl rfl h6 (op_move rfl rfl rfl)) ?_
        refine rg_put (d := 23) (v := .el ((eRl (ix l k)))) rfl (oy rfl rfl rfl h6 (s_index rfl Try.underlying22 ti31 rfl rfl (by omega) (row_at (by omega)) rfl)) ?_
        refine rg_put (d := 24) (v := .el ((List.drop 0 ((eRl (ix l k)))))) rfl (oy rfl rfl rfl h6 (of_eff (s_field_el rfl Try.underlying31 rfl ti3 rfl rfl rfl) rfl)) ?_
        refine rg_put (d := 25) (v := .d (.fl (.int .i64 ((ix l k).kind)))) rfl (oy rfl rfl rfl h6 (op_load_el rfl Try.underlying3 rfl rfl rfl rfl)) ?_
        refine rg_put (d := 26) (v := .d (.fl (.bool ((decide (3 < (ix l k).kind)))))) rfl (oy rfl rfl rfl h6 (op_bin rfl rfl rfl (b_gtr _ _ _ _) rfl)) ?_
        refine rg_put (d := 27) (v := .d (.fl (.bool ((decide (3 < (ix l k).kind)))))) rfl (og rfl (op_pick rfl rfl (by rw [h6]; rfl) rfl)) ?_
        refine rg_put (d := 28) (v := .d (.fl (.bool ((decide (3 < (ix l k).kind)))))) rfl (og rfl (op_move rfl rfl rfl)) ?_
        rcases fot ((decide (3 < (ix l k).kind))) with h8 | h8
        · skip
          have h9 := f_dec h8
          refine rg_put (d := 29) (v := .d (.sl 2 (List.map eRl l))) rfl (oy rfl rfl rfl h8 (op_move rfl rfl rfl)) ?_
          refine rg_put (d := 30) (v := .d (.fl (.int .i64 (k : Int)))) rfl (oy rfl rfl rfl h8 (op_move rfl rfl rfl)) ?_
          refine rg_put (d := 31) (v := .el ((eRl (ix l k)))) rfl (oy rfl rfl rfl h8 (s_index rfl Try.underlying22 ti31 rfl rfl (by omega) (row_at (by omega)) rfl)) ?_
          refine rg_put (d := 32) (v := .el ((List.drop 1 ((eRl (ix l k)))))) rfl (oy rfl rfl rfl h8 (of_eff (s_field_el rfl Try.underlying31 rfl ti3 rfl rfl rfl) rfl)) ?_
          refine rg_put (d := 33) (v := .d (.fl (.int .i64 ((ix l k).part)))) rfl (oy rfl rfl rfl h8 (op_load_el rfl Try.underlying3 rfl rfl rfl rfl)) ?_
          refine rg_put (d := 34) (v := .d (.fl (.bool ((decide ((ix l k).part < 0)))))) rfl (oy rfl rfl rfl h8 (op_bin rfl rfl rfl (b_lss _ _ _ _) rfl)) ?_
          refine rg_put (d := 35) (v := .d (.fl (.bool ((decide ((ix l k).part < 0)))))) rfl (og rfl (op_pick rfl rfl (by rw [h8]; rfl) rfl)) ?_
          refine rg_put (d := 36) (v := .d (.fl (.bool ((decide ((ix l k).part < 0)))))) rfl (og rfl (op_move rfl rfl rfl)) ?_
          rcases fot ((decide ((ix l k).part < 0))) with h10 | h10
          · skip
            have h11 := f_dec h10
            refine rg_put (d := 37) (v := .d (.sl 2 (List.map eRl l))) rfl (oy rfl rfl rfl h10 (op_move rfl rfl rfl)) ?_
            refine rg_put (d := 38) (v := .d (.fl (.int .i64 (k : Int)))) rfl (oy rfl rfl rfl h10 (op_move rfl rfl rfl)) ?_
            refine rg_put (d := 39) (v := .el ((eRl (ix l k)))) rfl (oy rfl rfl rfl h10 (s_index rfl Try.underlying22 ti31 rfl rfl (by omega) (row_at (by omega)) rfl)) ?_
            refine rg_put (d := 40) (v := .el ((List.drop 1 ((eRl (ix l k)))))) rfl (oy rfl rfl rfl h10 (of_eff (s_field_el rfl Try.underlying31 rfl ti3 rfl rfl rfl) rfl)) ?_
            refine rg_put (d := 41) (v := .d (.fl (.int .i64 ((ix l k).part)))) rfl (oy rfl rfl rfl h10 (op_load_el rfl Try.underlying3 rfl rfl rfl rfl)) ?_
            refine rg_put (d := 42) (v := .d (.fl (.bool ((decide (1000 < (ix l k).part)))))) rfl (oy rfl rfl rfl h10 (op_bin rfl rfl rfl (b_gtr _ _ _ _) rfl)) ?_
            refine rg_put (d := 43) (v := .d (.fl (.bool ((decide (1000 < (ix l k).part)))))) rfl (og rfl (op_pick rfl rfl (by rw [h10]; rfl) rfl)) ?_
            refine rg_done rfl ?_
            refine a_cond rfl (fun h12 => ?_) (fun h12 => ?_)
            · skip
              have h13 := t_dec h12
              refine a_rseq ?_
              refine rg_put (d := 2) (v := .d (.fl (.int .i64 1))) rfl (og rfl (op_assign rfl rfl rfl)) ?_
              refine rg_done rfl ?_
              refine a_ret ?_
              show ∃ ds, ResL _ _ _ ds ∧ RV.of ds = _
              refine ⟨[.fl (.int .i64 1)], (.cons (.tmp rfl (.d _)) .nil), ?_⟩
              have hbd : bad (ix l k) = true := by unfold bad; simp only [h1, h4, h6, h8, h10, h12, Bool.true_or, Bool.false_or, Bool.or_true, Bool.or_false, Bool.not_true, Bool.not_false, cond_true, cond_false, Bool.true_and, Bool.false_and, Bool.and_true, Bool.and_false] <;> rfl
              have hb := dv_bad (l := l) (k := k) hbd
              rw [chk_all h1, fe_yes (by omega) hc hb (by decide)]; rfl
            · skip
              have h14 := f_dec h12
              refine a_skip ?_
              show A _ _ _ _ _ _ _
              refine a_rseq ?_
              refine rg_put (d := 4) (v := .d (.fl (.int .i64 0))) rfl (og rfl (op_assign rfl rfl rfl)) ?_
              refine rg_done rfl ?_
              refine a_block ?_
              refine a_loop (ι := Nat) (fun j => SS [(0, .d (.sl 2 (List.map eRl l))), (3, .d (.fl (.int .i64 (k : Int)))), (7, .d (.fl (.bool ((decide (12 < (l.length : Int))))))), (11, .d (.fl (.bool ((decide ((k : Int) < (l.length : Int))))))), (43, .d (.fl (.bool ((decide (1000 < (ix l k).part)))))), (4, .d (.fl (.int .i64 (j : Int))))] []) (fun j => j ≤ k ∧ ∀ q, q < j → ((ix l q).kind == (ix l k).kind) = false) (fun j => k - j) 0 (⟨by omega, fun q h => by omega⟩) (imp_forget rfl ⟨rfl, rfl, rfl, rfl, rfl, (by first | rfl | exact ci (by omega) | exact ci (by simp) | exact cd (by simp) | simp), trivial⟩ trivial) (fun j hok => ?_)
              obtain ⟨hj, hq⟩ := hok
              refine a_seq ?_
              refine a_rseq ?_
              refine rg_put (d := 44) (v := .d (.fl (.int .i64 (j : Int)))) rfl (og rfl (op_move rfl rfl rfl)) ?_
              refine rg_put (d := 45) (v := .d (.fl (.int .i64 (k : Int)))) rfl (og rfl (op_move rfl rfl rfl)) ?_
              refine rg_put (d := 46) (v := .d (.fl (.bool ((decide ((j : Int) < (k : Int))))))) rfl (og rfl (op_bin rfl rfl rfl (b_lss _ _ _ _) rfl)) ?_
              refine rg_done rfl ?_
              refine a_cond rfl (fun h15 => ?_) (fun h15 => ?_)
              · skip
                have h16 := t_dec h15
                refine a_skip ?_
                show A _ _ _ _ _ _ _
                refine a_seq ?_
                refine a_block ?_
                refine a_dseq (by kernel_rfl) ?_
                refine dr_put (d := 49) (v := .d (.sl 2 (List.map eRl l))) rfl (og rfl (op_move rfl rfl rfl)) ?_
                refine dr_put (d := 50) (v := .d (.fl (.int .i64 (j : Int)))) rfl (og rfl (op_move rfl rfl rfl)) ?_
                refine dr_put (d := 51) (v := .el ((eRl (ix l j)))) rfl (og rfl (s_index rfl Try.underlying22 ti31 rfl rfl (by omega) (row_at (by omega)) rfl)) ?_
                refine dr_put (d := 52) (v := .el ((List.drop 0 ((eRl (ix l j)))))) rfl (og rfl (of_eff (s_field_el rfl Try.underlying31 rfl ti3 rfl rfl rfl) rfl)) ?_
                refine dr_put (d := 53) (v := .d (.fl (.int .i64 ((ix l j).kind)))) rfl (og rfl (op_load_el rfl Try.underlying3 rfl rfl rfl rfl)) ?_
                refine dr_put (d := 54) (v := .d (.sl 2 (List.map eRl l))) rfl (og rfl (op_move rfl rfl rfl)) ?_
                refine dr_put (d := 55) (v := .d (.fl (.int .i64 (k : Int)))) rfl (og rfl (op_move rfl rfl rfl)) ?_
                refine dr_put (d := 56) (v := .el ((eRl (ix l k)))) rfl (og rfl (s_index rfl Try.underlying22 ti31 rfl rfl (by omega) (row_at (by omega)) rfl)) ?_
                refine dr_put (d := 57) (v := .el ((List.drop 0 ((eRl (ix l k)))))) rfl (og rfl (of_eff (s_field_el rfl Try.underlying31 rfl ti3 rfl rfl rfl) rfl)) ?_
                refine dr_put (d := 58) (v := .d (.fl (.int .i64 ((ix l k).kind)))) rfl (og rfl (op_load_el rfl Try.underlying3 rfl rfl rfl rfl)) ?_
                refine dr_put (d := 59) (v := .d (.fl (.bool (((ix l j).kind == (ix l k).kind))))) rfl (og rfl (op_bin rfl rfl rfl (b_eql _ _ _ _) rfl)) ?_
                refine dr_done rfl (by kernel_rfl) (by kernel_rfl) ?_
                refine a_cond rfl (fun h17 => ?_) (fun h17 => ?_)
                · skip
                  have h18 := t_beq h17
                  refine a_rseq ?_
                  refine rg_put (d := 2) (v := .d (.fl (.int .i64 9))) rfl (og rfl (op_assign rfl rfl rfl)) ?_
                  refine rg_done rfl ?_
                  refine a_ret ?_
                  show ∃ ds, ResL _ _ _ ds ∧ RV.of ds = _
                  refine ⟨[.fl (.int .i64 9)], (.cons (.tmp rfl (.d _)) .nil), ?_⟩
                  have hbd : bad (ix l k) = false := by unfold bad; simp only [h1, h4, h6, h8, h10, h12, h15, h17, Bool.true_or, Bool.false_or, Bool.or_true, Bool.or_false, Bool.not_true, Bool.not_false, cond_true, cond_false, Bool.true_and, Bool.false_and, Bool.and_true, Bool.and_false] <;> rfl
                  have hb := dv_dup hbd rfl (sn_in (j := j) (by omega) (by omega) (t_beq h17))
                  rw [chk_all h1, fe_yes (by omega) hc hb (by decide)]; rfl
                · skip
                  have h19 := f_beq h17
                  refine a_skip ?_
                  show A _ _ _ _ _ _ _
                  refine a_region ?_
                  refine rg_put (d := 47) (v := .d (.fl (.int .i64 (j : Int)))) rfl (og rfl (op_move rfl rfl rfl)) ?_
                  refine rg_put (d := 48) (v := .d (.fl (.int .i64 (((j : Int) + 1))))) rfl (og rfl (op_bin rfl rfl rfl (fun x y w => b_add64 _ _ _ x y w (by omega)) rfl)) ?_
                  refine rg_put (d := 4) (v := .d (.fl (.int .i64 (((j : Int) + 1))))) rfl (og rfl (op_assign rfl rfl rfl)) ?_
                  refine rg_done rfl ?_
                  have hx : ((ix l j).kind == (ix l k).kind) = false := h17
                  show ∃ i, _ ∧ _ ∧ Imp _ _ _ _ _
                  refine ⟨j + 1, ⟨by omega, fun q h => (Nat.lt_succ_iff_lt_or_eq.1 h).elim (hq q) (fun e => by rw [e]; exact hx)⟩, by omega, imp_forget rfl ⟨rfl, rfl, rfl, rfl, rfl, (by first | rfl | exact ci (by omega) | exact ci (by simp) | exact cd (by simp) | simp), trivial⟩ trivial⟩
              · skip
                have h20 := f_dec h15
                refine a_exit ?_
                show A _ _ _ _ _ _ _
                refine a_region ?_
                have hdu : sn l k (ix l k).kind = false := sn_out (by omega) (fun q h => hq q (by omega))
                refine rg_put (d := 12) (v := .d (.fl (.int .i64 (k : Int)))) rfl (og rfl (op_move rfl rfl rfl)) ?_
                refine rg_put (d := 13) (v := .d (.fl (.int .i64 (((k : Int) + 1))))) rfl (og rfl (op_bin rfl rfl rfl (fun x y w => b_add64 _ _ _ x y w (by omega)) rfl)) ?_
                refine rg_put (d := 3) (v := .d (.fl (.int .i64 (((k : Int) + 1))))) rfl (og rfl (op_assign rfl rfl rfl)) ?_
                refine rg_done rfl ?_
                have hbd : bad (ix l k) = false := by unfold bad; simp only [h1, h4, h6, h8, h10, h12, h15, Bool.true_or, Bool.false_or, Bool.or_true, Bool.or_false, Bool.not_true, Bool.not_false, cond_true, cond_false, Bool.true_and, Bool.false_and, Bool.and_true, Bool.and_false] <;> rfl
                have hb : dv1 l k = 0 := dv_ok hbd rfl hdu
                show ∃ i, _ ∧ _ ∧ Imp _ _ _ _ _
                refine ⟨k + 1, ⟨by omega, fe_no (by omega) hc hb⟩, by omega, imp_forget rfl ⟨rfl, rfl, (by first | rfl | exact ci (by omega) | exact ci (by simp) | exact cd (by simp) | simp), trivial⟩ trivial⟩
          · skip
            have h21 := t_dec h10
            refine rg_put (d := 37) (v := .d (.fl undef)) rfl (on rfl rfl rfl h10) ?_
            refine rg_put (d := 38) (v := .d (.fl undef)) rfl (on rfl rfl rfl h10) ?_
            refine rg_put (d := 39) (v := .d (.fl undef)) rfl (on rfl rfl rfl h10) ?_
            refine rg_put (d := 40) (v := .d (.fl undef)) rfl (on rfl rfl rfl h10) ?_
            refine rg_put (d := 41) (v := .d (.fl undef)) rfl (on rfl rfl rfl h10) ?_
            refine rg_put (d := 42) (v := .d (.fl undef)) rfl (on rfl rfl rfl h10) ?_
            refine rg_put (d := 43) (v := .d (.fl (.bool true))) rfl (og rfl (op_pick rfl rfl (by rw [h10]; rfl) rfl)) ?_
            refine rg_done rfl ?_
            refine a_condK rfl rfl ?_
            refine a_rseq ?_
            refine rg_put (d := 2) (v := .d (.fl (.int .i64 1))) rfl (og rfl (op_assign rfl rfl rfl)) ?_
            refine rg_done rfl ?_
            refine a_ret ?_
            show ∃ ds, ResL _ _ _ ds ∧ RV.of ds = _
            refine ⟨[.fl (.int .i64 1)], (.cons (.tmp rfl (.d _)) .nil), ?_⟩
            have hbd : bad (ix l k) = true := by unfold bad; simp only [h1, h4, h6, h8, h10, Bool.true_or, Bool.false_or, Bool.or_true, Bool.or_false, Bool.not_true, Bool.not_false, cond_true, cond_false, Bool.true_and, Bool.false_and, Bool.and_true, Bool.and_false] <;> rfl
            have hb := dv_bad (l := l) (k := k) hbd
            rw [chk_all h1, fe_yes (by omega) hc hb (by decide)]; rfl
        · skip
          have h22 := t_dec h8
          refine rg_put (d := 29) (v := .d (.fl undef)) rfl (on rfl rfl rfl h8) ?_
          refine rg_put (d := 30) (v := .d (.fl undef)) rfl (on rfl rfl rfl h8) ?_
          refine rg_put (d := 31) (v := .d (.fl undef)) rfl (on rfl rfl rfl h8) ?_
          refine rg_put (d := 32) (v := .d (.fl undef)) rfl (on rfl rfl rfl h8) ?_
          refine rg_put (d := 33) (v := .d (.fl undef)) rfl (on rfl rfl rfl h8) ?_
          refine rg_put (d := 34) (v := .d (.fl undef)) rfl (on rfl rfl rfl h8) ?_
          refine rg_put (d := 35) (v := .d (.fl (.bool true))) rfl (og rfl (op_pick rfl rfl (by rw [h8]; rfl) rfl)) ?_
          refine rg_put (d := 36) (v := .d (.fl (.bool true))) rfl (og rfl (op_move rfl rfl rfl)) ?_
          refine rg_put (d := 37) (v := .d (.fl undef)) rfl (on rfl rfl rfl rfl) ?_
          refine rg_put (d := 38) (v := .d (.fl undef)) rfl (on rfl rfl rfl rfl) ?_
          refine rg_put (d := 39) (v := .d (.fl undef)) rfl (on rfl rfl rfl rfl) ?_
          refine rg_put (d := 40) (v := .d (.fl undef)) rfl (on rfl rfl rfl rfl) ?_
          refine rg_put (d := 41) (v := .d (.fl undef)) rfl (on rfl rfl rfl rfl) ?_
          refine rg_put (d := 42) (v := .d (.fl undef)) rfl (on rfl rfl rfl rfl) ?_
          refine rg_put (d := 43) (v := .d (.fl (.bool true))) rfl (og rfl (op_pick rfl rfl rfl rfl)) ?_
          refine rg_done rfl ?_
          refine a_condK rfl rfl ?_
          refine a_rseq ?_
          refine rg_put (d := 2) (v := .d (.fl (.int .i64 1))) rfl (og rfl (op_assign rfl rfl rfl)) ?_
          refine rg_done rfl ?_
          refine a_ret ?_
          show ∃ ds, ResL _ _ _ ds ∧ RV.of ds = _
          refine ⟨[.fl (.int .i64 1)], (.cons (.tmp rfl (.d _)) .nil), ?_⟩
          have hbd : bad (ix l k) = true := by unfold bad; simp only [h1, h4, h6, h8, Bool.true_or, Bool.false_or, Bool.or_true, Bool.or_false, Bool.not_true, Bool.not_false, cond_true, cond_false, Bool.true_and, Bool.false_and, Bool.and_true, Bool.and_false] <;> rfl
          have hb := dv_bad (l := l) (k := k) hbd
          rw [chk_all h1, fe_yes (by omega) hc hb (by decide)]; rfl
      · skip
        have h23 := t_dec h6
        refine rg_put (d := 21) (v := .d (.fl undef)) rfl (on rfl rfl rfl h6) ?_
        refine rg_put (d := 22) (v := .d (.fl undef)) rfl (on rfl rfl rfl h6) ?_
        refine rg_put (d := 23) (v := .d (.fl undef)) rfl (on rfl rfl rfl h6) ?_
        refine rg_put (d := 24) (v := .d (.fl undef)) rfl (on rfl rfl rfl h6) ?_
        refine rg_put (d := 25) (v := .d (.fl undef)) rfl (on rfl rfl rfl h6) ?_
        refine rg_put (d := 26) (v := .d (.fl undef)) rfl (on rfl rfl rfl h6) ?_
        refine rg_put (d := 27) (v := .d (.fl (.bool true))) rfl (og rfl (op_pick rfl rfl (by rw [h6]; rfl) rfl)) ?_
        refine rg_put (d := 28) (v := .d (.fl (.bool true))) rfl (og rfl (op_move rfl rfl rfl)) ?_
        refine rg_put (d := 29) (v := .d (.fl undef)) rfl (on rfl rfl rfl rfl) ?_
        refine rg_put (d := 30) (v := .d (.fl undef)) rfl (on rfl rfl rfl rfl) ?_
        refine rg_put (d := 31) (v := .d (.fl undef)) rfl (on rfl rfl rfl rfl) ?_
        refine rg_put (d := 32) (v := .d (.fl undef)) rfl (on rfl rfl rfl rfl) ?_
        refine rg_put (d := 33) (v := .d (.fl undef)) rfl (on rfl rfl rfl rfl) ?_
        refine rg_put (d := 34) (v := .d (.fl undef)) rfl (on rfl rfl rfl rfl) ?_
        refine rg_put (d := 35) (v := .d (.fl (.bool true))) rfl (og rfl (op_pick rfl rfl rfl rfl)) ?_
        refine rg_put (d := 36) (v := .d (.fl (.bool true))) rfl (og rfl (op_move rfl rfl rfl)) ?_
        refine rg_put (d := 37) (v := .d (.fl undef)) rfl (on rfl rfl rfl rfl) ?_
        refine rg_put (d := 38) (v := .d (.fl undef)) rfl (on rfl rfl rfl rfl) ?_
        refine rg_put (d := 39) (v := .d (.fl undef)) rfl (on rfl rfl rfl rfl) ?_
        refine rg_put (d := 40) (v := .d (.fl undef)) rfl (on rfl rfl rfl rfl) ?_
        refine rg_put (d := 41) (v := .d (.fl undef)) rfl (on rfl rfl rfl rfl) ?_
        refine rg_put (d := 42) (v := .d (.fl undef)) rfl (on rfl rfl rfl rfl) ?_
        refine rg_put (d := 43) (v := .d (.fl (.bool true))) rfl (og rfl (op_pick rfl rfl rfl rfl)) ?_
        refine rg_done rfl ?_
        refine a_condK rfl rfl ?_
        refine a_rseq ?_
        refine rg_put (d := 2) (v := .d (.fl (.int .i64 1))) rfl (og rfl (op_assign rfl rfl rfl)) ?_
        refine rg_done rfl ?_
        refine a_ret ?_
        show ∃ ds, ResL _ _ _ ds ∧ RV.of ds = _
        refine ⟨[.fl (.int .i64 1)], (.cons (.tmp rfl (.d _)) .nil), ?_⟩
        have hbd : bad (ix l k) = true := by unfold bad; simp only [h1, h4, h6, Bool.true_or, Bool.false_or, Bool.or_true, Bool.or_false, Bool.not_true, Bool.not_false, cond_true, cond_false, Bool.true_and, Bool.false_and, Bool.and_true, Bool.and_false] <;> rfl
        have hb := dv_bad (l := l) (k := k) hbd
        rw [chk_all h1, fe_yes (by omega) hc hb (by decide)]; rfl
    · skip
      have h24 := f_dec h4
      refine a_exit ?_
      show A _ _ _ _ _ _ _
      refine a_rseq ?_
      refine rg_put (d := 2) (v := .d (.fl (.int .i64 0))) rfl (og rfl (op_assign rfl rfl rfl)) ?_
      refine rg_done rfl ?_
      refine a_ret ?_
      show ∃ ds, ResL _ _ _ ds ∧ RV.of ds = _
      refine ⟨[.fl (.int .i64 0)], (.cons (.tmp rfl (.d _)) .nil), ?_⟩
      rw [fe_end (by omega)] at hc
      rw [chk_all h1, hc]; rfl
set_option maxHeartbeats 4000000 in
set_option maxRecDepth 100000 in
theorem prt8 (l : List Rl) (ks : List Int) (hl : l.length ≤ 14) (hs : ks.length ≤ 20) : Ctr Try.prog 8 [.sl 2 (List.map eRl l), .sl 1 (List.map (rI .i64) ks)] (.d (.fl (.int .i64 (prt l ks)))) := by
  refine ctr (n := 53) (rs := #[.tmp 4]) (L := [(0, .d (.sl 2 (List.map eRl l))), (1, .d (.sl 1 (List.map (rI .i64) ks)))]) Try.func8 rfl rfl rfl rfl rfl (fun w0 U0 => ?_)
  refine a_rseq ?_
  refine rg_put (d := 4) (v := .d (.fl (.int .i64 0))) rfl (og rfl (op_assign rfl rfl rfl)) ?_
  refine rg_done rfl ?_
  refine a_seq ?_
  refine a_rseq ?_
  refine rg_put (d := 11) (v := .d (.sl 2 (List.map eRl l))) rfl (og rfl (op_move rfl rfl rfl)) ?_
  refine rg_put (d := 12) (v := .d (.fl (.int .i64 (chk l)))) rfl (og rfl (op_call rfl Try.func6 nm6 rfl (.cons rfl (.d _) .nil) (chk6 l (by omega)) rfl)) ?_
  refine rg_put (d := 13) (v := .d (.fl (.bool (((chk l) != 0))))) rfl (og rfl (op_bin rfl rfl rfl (b_neq _ _ _ _) rfl)) ?_
  refine rg_done rfl ?_
  refine a_cond rfl (fun h1 => ?_) (fun h1 => ?_)
  · skip
    have h2 := t_bne h1
    refine a_rseq ?_
    refine rg_put (d := 4) (v := .d (.fl (.int .i64 0))) rfl (og rfl (op_assign rfl rfl rfl)) ?_
    refine rg_done rfl ?_
    refine a_ret ?_
    show ∃ ds, ResL _ _ _ ds ∧ RV.of ds = _
    refine ⟨[.fl (.int .i64 0)], (.cons (.tmp rfl (.d _)) .nil), ?_⟩
    rw [prt_no (t_bne h1)]; rfl
  · skip
    have h3 := f_bne h1
    refine a_skip ?_
    show A _ _ _ _ _ _ _
    refine a_rseq ?_
    have hce := chk_each (f_bne h1)
    refine rg_nam (d := 5) (v := .pt 101 0) (m := 101) (nw := [(101, .bx 81 [.fl (.int .i64 0), .fl (.int .i64 0), .fl (.int .i64 0), .fl (.int .i64 0)])]) rfl (og rfl (of_eff (s_alloc 101 rfl ti81 (by kernel_rfl) rfl) rfl)) rfl ?_
    refine rg_done rfl ?_
    refine a_seq ?_
    refine a_rseq ?_
    refine rg_put (d := 14) (v := .d (.sl 1 (List.map (rI .i64) ks))) rfl (og rfl (op_move rfl rfl rfl)) ?_
    refine rg_put (d := 15) (v := .d (.fl (.int .i64 (ks.length : Int)))) rfl (og rfl (s_len rfl Try.underlying23 rfl rfl)) ?_
    refine rg_put (d := 16) (v := .d (.fl (.int .i64 0))) rfl (og rfl (op_move rfl rfl rfl)) ?_
    refine rg_done rfl ?_
    refine a_block ?_
    refine a_loop (ι := Nat) (fun k => SS [(0, .d (.sl 2 (List.map eRl l))), (1, .d (.sl 1 (List.map (rI .i64) ks))), (4, .d (.fl (.int .i64 0))), (5, .pt 101 0), (13, .d (.fl (.bool (((chk l) != 0))))), (14, .d (.sl 1 (List.map (rI .i64) ks))), (15, .d (.fl (.int .i64 (ks.length : Int)))), (16, .d (.fl (.int .i64 (k : Int))))] [(101, .bx 81 [.fl (.int .i64 (cn ks 0 k)), .fl (.int .i64 (cn ks 1 k)), .fl (.int .i64 (cn ks 2 k)), .fl (.int .i64 (cn ks 3 k))])]) (fun k => k ≤ ks.length) (fun k => ks.length - k) 0 (by omega) (imp_forget rfl ⟨rfl, rfl, rfl, rfl, rfl, rfl, rfl, (by first | rfl | exact ci (by omega) | exact ci (by simp) | exact cd (by simp) | simp), trivial⟩ ⟨rfl, trivial⟩) (fun k hok => ?_)
    have hk := hok
    have hc0 := cn_in ks 0 k
    have hc1 := cn_in ks 1 k
    have hc2 := cn_in ks 2 k
    have hc3 := cn_in ks 3 k
    refine a_rseq ?_
    refine rg_put (d := 17) (v := .d (.fl (.bool ((decide ((k : Int) < (ks.length : Int))))))) rfl (og rfl (op_bin rfl rfl rfl (b_lss _ _ _ _) rfl)) ?_
    refine rg_done rfl ?_
    refine a_seq ?_
    refine a_cond rfl (fun h4 => ?_) (fun h4 => ?_)
    · skip
      have h5 := t_dec h4
      refine a_skip ?_
      show A _ _ _ _ _ _ _
      refine a_seq ?_
      refine a_block ?_
      refine a_rseq ?_
      refine rg_put (d := 18) (v := .el ((rI .i64 (ix ks k)))) rfl (og rfl (s_index rfl Try.underlying23 ti3 rfl rfl (by omega) (row_at (by omega)) rfl)) ?_
      refine rg_put (d := 19) (v := .d (.fl (.int .i64 (ix ks k)))) rfl (og rfl (op_load_el rfl Try.underlying3 rfl rfl rfl rfl)) ?_
      refine rg_put (d := 7) (v := .d (.fl (.int .i64 (ix ks k)))) rfl (og rfl (op_assign rfl rfl rfl)) ?_
      refine rg_done rfl ?_
      refine a_rseq ?_
      refine rg_put (d := 20) (v := .d (.fl (.int .i64 (ix ks k)))) rfl (og rfl (op_move rfl rfl rfl)) ?_
      refine rg_put (d := 21) (v := .d (.fl (.bool ((decide (1 ≤ (ix ks k))))))) rfl (og rfl (op_bin rfl rfl rfl (b_leq _ _ _ _) rfl)) ?_
      refine rg_put (d := 22) (v := .d (.fl (.bool ((decide (1 ≤ (ix ks k))))))) rfl (og rfl (op_move rfl rfl rfl)) ?_
      rcases fot ((decide (1 ≤ (ix ks k)))) with h6 | h6
      · skip
        have h7 := f_dec h6
        refine rg_put (d := 23) (v := .d (.fl undef)) rfl (on rfl rfl rfl h6) ?_
        refine rg_put (d := 24) (v := .d (.fl undef)) rfl (on rfl rfl rfl h6) ?_
        refine rg_put (d := 25) (v := .d (.fl (.bool false))) rfl (og rfl (op_pick rfl rfl (by rw [h6]; rfl) rfl)) ?_
        refine rg_done rfl ?_
        refine a_condF rfl rfl ?_
        refine a_skip ?_
        show A _ _ _ _ _ _ _
        refine a_region ?_
        refine rg_put (d := 35) (v := .d (.fl (.int .i64 (((k : Int) + 1))))) rfl (og rfl (op_bin rfl rfl rfl (fun x y w => b_add64 _ _ _ x y w (by omega)) rfl)) ?_
        refine rg_put (d := 16) (v := .d (.fl (.int .i64 (((k : Int) + 1))))) rfl (og rfl (op_move rfl rfl rfl)) ?_
        refine rg_done rfl ?_
        show ∃ i, _ ∧ _ ∧ Imp _ _ _ _ _
        refine ⟨k + 1, (by omega), by omega, imp_forget rfl ⟨rfl, rfl, rfl, rfl, rfl, rfl, rfl, (by first | rfl | exact ci (by omega) | exact ci (by simp) | exact cd (by simp) | simp), trivial⟩ ⟨(bxI (cn_no (.inl (by omega))) (cn_no (.inl (by omega))) (cn_no (.inl (by omega))) (cn_no (.inl (by omega)))), trivial⟩⟩
      · skip
        have h8 := t_dec h6
        refine rg_put (d := 23) (v := .d (.fl (.int .i64 (ix ks k)))) rfl (oy rfl rfl rfl h6 (op_move rfl rfl rfl)) ?_
        refine rg_put (d := 24) (v := .d (.fl (.bool ((decide ((ix ks k) ≤ 3)))))) rfl (oy rfl rfl rfl h6 (op_bin rfl rfl rfl (b_leq _ _ _ _) rfl)) ?_
        refine rg_put (d := 25) (v := .d (.fl (.bool ((decide ((ix ks k) ≤ 3)))))) rfl (og rfl (op_pick rfl rfl (by rw [h6]; rfl) rfl)) ?_
        refine rg_done rfl ?_
        refine a_cond rfl (fun h9 => ?_) (fun h9 => ?_)
        · skip
          have h10 := t_dec h9
          refine a_rseq ?_
          refine rg_put (d := 26) (v := .d (.fl (.int .i64 (ix ks k)))) rfl (og rfl (op_move rfl rfl rfl)) ?_
          rcases fot (((ix ks k) == 1)) with h11 | h11
          · skip
            have h12 := f_beq h11
            rcases fot (((ix ks k) == 2)) with h13 | h13
            · skip
              have h14 := f_beq h13
              refine rg_put (d := 27) (v := .pt 101 3) rfl (og rfl (op_index_arr (j := 3) rfl Try.underlying81 ti3 rfl rfl (by omega) (by omega) rfl)) ?_
              refine rg_put (d := 28) (v := .d (.fl (.int .i64 (cn ks 3 k)))) rfl (og rfl (op_load_pt rfl Try.underlying3 rfl rfl rfl rfl rfl)) ?_
              refine rg_put (d := 29) (v := .d (.fl (.int .i64 (((cn ks 3 k) + 1))))) rfl (og rfl (op_bin rfl rfl rfl (fun x y w => b_add64 _ _ _ x y w (by omega)) rfl)) ?_
              refine rg_put (d := 30) (v := .pt 101 3) rfl (og rfl (op_index_arr (j := 3) rfl Try.underlying81 ti3 rfl rfl (by omega) (by omega) rfl)) ?_
              refine rg_sto (nw := [(101, .bx 81 [.fl (.int .i64 (cn ks 0 k)), .fl (.int .i64 (cn ks 1 k)), .fl (.int .i64 (cn ks 2 k)), .fl (.int .i64 (((cn ks 3 k) + 1)))])]) rfl (og rfl (of_eff (s_store rfl rfl ti3 rfl rfl rfl rfl rfl rfl) rfl)) ?_
              refine rg_done rfl ?_
              refine a_region ?_
              refine rg_put (d := 31) (v := .pt 101 0) rfl (og rfl (op_index_arr (j := 0) rfl Try.underlying81 ti3 rfl rfl (by omega) (by omega) rfl)) ?_
              refine rg_put (d := 32) (v := .d (.fl (.int .i64 (cn ks 0 k)))) rfl (og rfl (op_load_pt rfl Try.underlying3 rfl rfl rfl rfl rfl)) ?_
              refine rg_put (d := 33) (v := .d (.fl (.int .i64 (((cn ks 0 k) + 1))))) rfl (og rfl (op_bin rfl rfl rfl (fun x y w => b_add64 _ _ _ x y w (by omega)) rfl)) ?_
              refine rg_put (d := 34) (v := .pt 101 0) rfl (og rfl (op_index_arr (j := 0) rfl Try.underlying81 ti3 rfl rfl (by omega) (by omega) rfl)) ?_
              refine rg_sto (nw := [(101, .bx 81 [.fl (.int .i64 (((cn ks 0 k) + 1))), .fl (.int .i64 (cn ks 1 k)), .fl (.int .i64 (cn ks 2 k)), .fl (.int .i64 (((cn ks 3 k) + 1)))])]) rfl (og rfl (of_eff (s_store rfl rfl ti3 rfl rfl rfl rfl rfl rfl) rfl)) ?_
              refine rg_done rfl ?_
              show A _ _ _ _ _ _ _
              refine a_region ?_
              refine rg_put (d := 35) (v := .d (.fl (.int .i64 (((k : Int) + 1))))) rfl (og rfl (op_bin rfl rfl rfl (fun x y w => b_add64 _ _ _ x y w (by omega)) rfl)) ?_
              refine rg_put (d := 16) (v := .d (.fl (.int .i64 (((k : Int) + 1))))) rfl (og rfl (op_move rfl rfl rfl)) ?_
              refine rg_done rfl ?_
              show ∃ i, _ ∧ _ ∧ Imp _ _ _ _ _
              refine ⟨k + 1, (by omega), by omega, imp_forget rfl ⟨rfl, rfl, rfl, rfl, rfl, rfl, rfl, (by first | rfl | exact ci (by omega) | exact ci (by simp) | exact cd (by simp) | simp), trivial⟩ ⟨(bxI (cn_yes (by omega) (.inl rfl)) (cn_no (.inr (by omega))) (cn_no (.inr (by omega))) (cn_yes (by omega) (.inr (by omega)))), trivial⟩⟩
            · skip
              have h15 := t_beq h13
              refine rg_put (d := 27) (v := .pt 101 2) rfl (og rfl (op_index_arr (j := 2) rfl Try.underlying81 ti3 rfl rfl (by omega) (by omega) rfl)) ?_
              refine rg_put (d := 28) (v := .d (.fl (.int .i64 (cn ks 2 k)))) rfl (og rfl (op_load_pt rfl Try.underlying3 rfl rfl rfl rfl rfl)) ?_
              refine rg_put (d := 29) (v := .d (.fl (.int .i64 (((cn ks 2 k) + 1))))) rfl (og rfl (op_bin rfl rfl rfl (fun x y w => b_add64 _ _ _ x y w (by omega)) rfl)) ?_
              refine rg_put (d := 30) (v := .pt 101 2) rfl (og rfl (op_index_arr (j := 2) rfl Try.underlying81 ti3 rfl rfl (by omega) (by omega) rfl)) ?_
              refine rg_sto (nw := [(101, .bx 81 [.fl (.int .i64 (cn ks 0 k)), .fl (.int .i64 (cn ks 1 k)), .fl (.int .i64 (((cn ks 2 k) + 1))), .fl (.int .i64 (cn ks 3 k))])]) rfl (og rfl (of_eff (s_store rfl rfl ti3 rfl rfl rfl rfl rfl rfl) rfl)) ?_
              refine rg_done rfl ?_
              refine a_region ?_
              refine rg_put (d := 31) (v := .pt 101 0) rfl (og rfl (op_index_arr (j := 0) rfl Try.underlying81 ti3 rfl rfl (by omega) (by omega) rfl)) ?_
              refine rg_put (d := 32) (v := .d (.fl (.int .i64 (cn ks 0 k)))) rfl (og rfl (op_load_pt rfl Try.underlying3 rfl rfl rfl rfl rfl)) ?_
              refine rg_put (d := 33) (v := .d (.fl (.int .i64 (((cn ks 0 k) + 1))))) rfl (og rfl (op_bin rfl rfl rfl (fun x y w => b_add64 _ _ _ x y w (by omega)) rfl)) ?_
              refine rg_put (d := 34) (v := .pt 101 0) rfl (og rfl (op_index_arr (j := 0) rfl Try.underlying81 ti3 rfl rfl (by omega) (by omega) rfl)) ?_
              refine rg_sto (nw := [(101, .bx 81 [.fl (.int .i64 (((cn ks 0 k) + 1))), .fl (.int .i64 (cn ks 1 k)), .fl (.int .i64 (((cn ks 2 k) + 1))), .fl (.int .i64 (cn ks 3 k))])]) rfl (og rfl (of_eff (s_store rfl rfl ti3 rfl rfl rfl rfl rfl rfl) rfl)) ?_
              refine rg_done rfl ?_
              show A _ _ _ _ _ _ _
              refine a_region ?_
              refine rg_put (d := 35) (v := .d (.fl (.int .i64 (((k : Int) + 1))))) rfl (og rfl (op_bin rfl rfl rfl (fun x y w => b_add64 _ _ _ x y w (by omega)) rfl)) ?_
              refine rg_put (d := 16) (v := .d (.fl (.int .i64 (((k : Int) + 1))))) rfl (og rfl (op_move rfl rfl rfl)) ?_
              refine rg_done rfl ?_
              show ∃ i, _ ∧ _ ∧ Imp _ _ _ _ _
              refine ⟨k + 1, (by omega), by omega, imp_forget rfl ⟨rfl, rfl, rfl, rfl, rfl, rfl, rfl, (by first | rfl | exact ci (by omega) | exact ci (by simp) | exact cd (by simp) | simp), trivial⟩ ⟨(bxI (cn_yes (by omega) (.inl rfl)) (cn_no (.inr (by omega))) (cn_yes (by omega) (.inr (by omega))) (cn_no (.inr (by omega)))), trivial⟩⟩
          · skip
            have h16 := t_beq h11
            refine rg_put (d := 27) (v := .pt 101 1) rfl (og rfl (op_index_arr (j := 1) rfl Try.underlying81 ti3 rfl rfl (by omega) (by omega) rfl)) ?_
            refine rg_put (d := 28) (v := .d (.fl (.int .i64 (cn ks 1 k)))) rfl (og rfl (op_load_pt rfl Try.underlying3 rfl rfl rfl rfl rfl)) ?_
            refine rg_put (d := 29) (v := .d (.fl (.int .i64 (((cn ks 1 k) + 1))))) rfl (og rfl (op_bin rfl rfl rfl (fun x y w => b_add64 _ _ _ x y w (by omega)) rfl)) ?_
            refine rg_put (d := 30) (v := .pt 101 1) rfl (og rfl (op_index_arr (j := 1) rfl Try.underlying81 ti3 rfl rfl (by omega) (by omega) rfl)) ?_
            refine rg_sto (nw := [(101, .bx 81 [.fl (.int .i64 (cn ks 0 k)), .fl (.int .i64 (((cn ks 1 k) + 1))), .fl (.int .i64 (cn ks 2 k)), .fl (.int .i64 (cn ks 3 k))])]) rfl (og rfl (of_eff (s_store rfl rfl ti3 rfl rfl rfl rfl rfl rfl) rfl)) ?_
            refine rg_done rfl ?_
            refine a_region ?_
            refine rg_put (d := 31) (v := .pt 101 0) rfl (og rfl (op_index_arr (j := 0) rfl Try.underlying81 ti3 rfl rfl (by omega) (by omega) rfl)) ?_
            refine rg_put (d := 32) (v := .d (.fl (.int .i64 (cn ks 0 k)))) rfl (og rfl (op_load_pt rfl Try.underlying3 rfl rfl rfl rfl rfl)) ?_
            refine rg_put (d := 33) (v := .d (.fl (.int .i64 (((cn ks 0 k) + 1))))) rfl (og rfl (op_bin rfl rfl rfl (fun x y w => b_add64 _ _ _ x y w (by omega)) rfl)) ?_
            refine rg_put (d := 34) (v := .pt 101 0) rfl (og rfl (op_index_arr (j := 0) rfl Try.underlying81 ti3 rfl rfl (by omega) (by omega) rfl)) ?_
            refine rg_sto (nw := [(101, .bx 81 [.fl (.int .i64 (((cn ks 0 k) + 1))), .fl (.int .i64 (((cn ks 1 k) + 1))), .fl (.int .i64 (cn ks 2 k)), .fl (.int .i64 (cn ks 3 k))])]) rfl (og rfl (of_eff (s_store rfl rfl ti3 rfl rfl rfl rfl rfl rfl) rfl)) ?_
            refine rg_done rfl ?_
            show A _ _ _ _ _ _ _
            refine a_region ?_
            refine rg_put (d := 35) (v := .d (.fl (.int .i64 (((k : Int) + 1))))) rfl (og rfl (op_bin rfl rfl rfl (fun x y w => b_add64 _ _ _ x y w (by omega)) rfl)) ?_
            refine rg_put (d := 16) (v := .d (.fl (.int .i64 (((k : Int) + 1))))) rfl (og rfl (op_move rfl rfl rfl)) ?_
            refine rg_done rfl ?_
            show ∃ i, _ ∧ _ ∧ Imp _ _ _ _ _
            refine ⟨k + 1, (by omega), by omega, imp_forget rfl ⟨rfl, rfl, rfl, rfl, rfl, rfl, rfl, (by first | rfl | exact ci (by omega) | exact ci (by simp) | exact cd (by simp) | simp), trivial⟩ ⟨(bxI (cn_yes (by omega) (.inl rfl)) (cn_yes (by omega) (.inr (by omega))) (cn_no (.inr (by omega))) (cn_no (.inr (by omega)))), trivial⟩⟩
        · skip
          have h17 := f_dec h9
          refine a_skip ?_
          show A _ _ _ _ _ _ _
          refine a_region ?_
          refine rg_put (d := 35) (v := .d (.fl (.int .i64 (((k : Int) + 1))))) rfl (og rfl (op_bin rfl rfl rfl (fun x y w => b_add64 _ _ _ x y w (by omega)) rfl)) ?_
          refine rg_put (d := 16) (v := .d (.fl (.int .i64 (((k : Int) + 1))))) rfl (og rfl (op_move rfl rfl rfl)) ?_
          refine rg_done rfl ?_
          show ∃ i, _ ∧ _ ∧ Imp _ _ _ _ _
          refine ⟨k + 1, (by omega), by omega, imp_forget rfl ⟨rfl, rfl, rfl, rfl, rfl, rfl, rfl, (by first | rfl | exact ci (by omega) | exact ci (by simp) | exact cd (by simp) | simp), trivial⟩ ⟨(bxI (cn_no (.inl (by omega))) (cn_no (.inl (by omega))) (cn_no (.inl (by omega))) (cn_no (.inl (by omega)))), trivial⟩⟩
    · skip
      have h18 := f_dec h4
      refine a_exit ?_
      show A _ _ _ _ _ _ _
      refine a_rseq ?_
      refine rg_put (d := 8) (v := .d (.fl (.int .i64 0))) rfl (og rfl (op_assign rfl rfl rfl)) ?_
      refine rg_done rfl ?_
      refine a_seq ?_
      refine a_rseq ?_
      refine rg_put (d := 36) (v := .d (.sl 2 (List.map eRl l))) rfl (og rfl (op_move rfl rfl rfl)) ?_
      refine rg_put (d := 37) (v := .d (.fl (.int .i64 (l.length : Int)))) rfl (og rfl (s_len rfl Try.underlying22 rfl rfl)) ?_
      refine rg_put (d := 38) (v := .d (.fl (.int .i64 0))) rfl (og rfl (op_move rfl rfl rfl)) ?_
      refine rg_done rfl ?_
      refine a_block ?_
      refine a_loop (ι := Nat) (fun i => SS [(0, .d (.sl 2 (List.map eRl l))), (1, .d (.sl 1 (List.map (rI .i64) ks))), (4, .d (.fl (.int .i64 0))), (5, .pt 101 0), (13, .d (.fl (.bool (((chk l) != 0))))), (14, .d (.sl 1 (List.map (rI .i64) ks))), (15, .d (.fl (.int .i64 (ks.length : Int)))), (16, .d (.fl (.int .i64 (k : Int)))), (17, .d (.fl (.bool ((decide ((k : Int) < (ks.length : Int))))))), (36, .d (.sl 2 (List.map eRl l))), (37, .d (.fl (.int .i64 (l.length : Int)))), (38, .d (.fl (.int .i64 (i : Int)))), (8, .d (.fl (.int .i64 (mx l ks i))))] [(101, .bx 81 [.fl (.int .i64 (cn ks 0 ks.length)), .fl (.int .i64 (cn ks 1 ks.length)), .fl (.int .i64 (cn ks 2 ks.length)), .fl (.int .i64 (cn ks 3 ks.length))])]) (fun i => i ≤ l.length) (fun i => l.length - i) 0 (by omega) (imp_forget rfl ⟨rfl, rfl, rfl, rfl, rfl, rfl, rfl, rfl, rfl, rfl, rfl, (by first | rfl | exact ci (by omega) | exact ci (by simp) | exact cd (by simp) | simp), rfl, trivial⟩ ⟨(by rw [show k = ks.length by omega]; rfl), trivial⟩) (fun i hok => ?_)
      have hi := hok
      refine a_rseq ?_
      refine rg_put (d := 39) (v := .d (.fl (.bool ((decide ((i : Int) < (l.length : Int))))))) rfl (og rfl (op_bin rfl rfl rfl (b_lss _ _ _ _) rfl)) ?_
      refine rg_done rfl ?_
      refine a_seq ?_
      refine a_cond rfl (fun h19 => ?_) (fun h19 => ?_)
      · skip
        have h20 := t_dec h19
        refine a_skip ?_
        show A _ _ _ _ _ _ _
        refine a_seq ?_
        refine a_block ?_
        refine a_rseq ?_
        have hke := hce.2 i (by omega)
        refine rg_put (d := 40) (v := .el ((eRl (ix l i)))) rfl (og rfl (s_index rfl Try.underlying22 ti31 rfl rfl (by omega) (row_at (by omega)) rfl)) ?_
        refine rg_put (d := 41) (v := .d (.ag (eRl (ix l i)))) rfl (og rfl (of_eff (s_load_els rfl Try.underlying31 rfl ti31 rfl rfl rfl) rfl)) ?_
        refine rg_nam (d := 10) (v := .pt 102 0) (m := 102) (nw := [(102, .bx 31 [.fl (.int .i64 0), .fl (.int .i64 0)])]) rfl (og rfl (of_eff (s_alloc 102 rfl ti31 (by kernel_rfl) rfl) rfl)) rfl ?_
        refine rg_sto (nw := [(102, .bx 31 ((eRl (ix l i))))]) rfl (og rfl (of_eff (s_store rfl rfl ti31 rfl rfl rfl rfl rfl rfl) rfl)) ?_
        refine rg_done rfl ?_
        refine a_rseq ?_
        refine rg_put (d := 42) (v := .pt 102 0) rfl (og rfl (of_eff (s_field_pt rfl Try.underlying31 rfl ti3 rfl rfl rfl) rfl)) ?_
        refine rg_put (d := 43) (v := .d (.fl (.int .i64 ((ix l i).kind)))) rfl (og rfl (op_load_pt rfl Try.underlying3 rfl rfl rfl rfl rfl)) ?_
        rcases fot (((ix l i).kind == 0)) with h21 | h21
        · skip
          have h22 := f_beq h21
          rcases fot (((ix l i).kind == 1)) with h23 | h23
          · skip
            have h24 := f_beq h23
            rcases fot (((ix l i).kind == 2)) with h25 | h25
            · skip
              have h26 := f_beq h25
              refine rg_put (d := 44) (v := .pt 101 3) rfl (og rfl (op_index_arr (j := 3) rfl Try.underlying81 ti3 rfl rfl (by omega) (by omega) rfl)) ?_
              refine rg_put (d := 45) (v := .d (.fl (.int .i64 (cn ks 3 ks.length)))) rfl (og rfl (op_load_pt rfl Try.underlying3 rfl rfl rfl rfl rfl)) ?_
              refine rg_put (d := 46) (v := .d (.fl (.bool ((decide (0 < (cn ks 3 ks.length))))))) rfl (og rfl (op_bin rfl rfl rfl (b_gtr _ _ _ _) rfl)) ?_
              refine rg_done rfl ?_
              refine a_cond rfl (fun h27 => ?_) (fun h27 => ?_)
              · skip
                have h28 := t_dec h27
                refine a_region ?_
                refine rg_put (d := 47) (v := .d (.fl (.int .i64 (mx l ks i)))) rfl (og rfl (op_move rfl rfl rfl)) ?_
                refine rg_put (d := 48) (v := .pt 102 1) rfl (og rfl (of_eff (s_field_pt rfl Try.underlying31 rfl ti3 rfl rfl rfl) rfl)) ?_
                refine rg_put (d := 49) (v := .d (.fl (.int .i64 ((ix l i).part)))) rfl (og rfl (op_load_pt rfl Try.underlying3 rfl rfl rfl rfl rfl)) ?_
                refine rg_put (d := 50) (v := .d (.fl (.int .i64 ((max (mx l ks i) ((ix l i).part)))))) rfl (og rfl (op_max rfl rfl rfl rfl)) ?_
                refine rg_put (d := 8) (v := .d (.fl (.int .i64 ((max (mx l ks i) ((ix l i).part)))))) rfl (og rfl (op_assign rfl rfl rfl)) ?_
                refine rg_done rfl ?_
                show A _ _ _ _ _ _ _
                refine a_region ?_
                refine rg_put (d := 51) (v := .d (.fl (.int .i64 (((i : Int) + 1))))) rfl (og rfl (op_bin rfl rfl rfl (fun x y w => b_add64 _ _ _ x y w (by omega)) rfl)) ?_
                refine rg_put (d := 38) (v := .d (.fl (.int .i64 (((i : Int) + 1))))) rfl (og rfl (op_move rfl rfl rfl)) ?_
                refine rg_done rfl ?_
                show ∃ i, _ ∧ _ ∧ Imp _ _ _ _ _
                refine ⟨i + 1, (by omega), by omega, imp_forget rfl ⟨rfl, rfl, rfl, rfl, rfl, rfl, rfl, rfl, rfl, rfl, rfl, (by first | rfl | exact ci (by omega) | exact ci (by simp) | exact cd (by simp) | simp), (congrArg (fun z => AV.d (.fl (.int .i64 z))) (mx_yes (q := 3) (by omega) (by omega))), trivial⟩ ⟨rfl, trivial⟩⟩
              · skip
                have h29 := f_dec h27
                refine a_skip ?_
                show A _ _ _ _ _ _ _
                refine a_region ?_
                refine rg_put (d := 51) (v := .d (.fl (.int .i64 (((i : Int) + 1))))) rfl (og rfl (op_bin rfl rfl rfl (fun x y w => b_add64 _ _ _ x y w (by omega)) rfl)) ?_
                refine rg_put (d := 38) (v := .d (.fl (.int .i64 (((i : Int) + 1))))) rfl (og rfl (op_move rfl rfl rfl)) ?_
                refine rg_done rfl ?_
                show ∃ i, _ ∧ _ ∧ Imp _ _ _ _ _
                refine ⟨i + 1, (by omega), by omega, imp_forget rfl ⟨rfl, rfl, rfl, rfl, rfl, rfl, rfl, rfl, rfl, rfl, rfl, (by first | rfl | exact ci (by omega) | exact ci (by simp) | exact cd (by simp) | simp), (congrArg (fun z => AV.d (.fl (.int .i64 z))) (mx_no (q := 3) (by omega) (by omega))), trivial⟩ ⟨rfl, trivial⟩⟩
            · skip
              have h30 := t_beq h25
              refine rg_put (d := 44) (v := .pt 101 2) rfl (og rfl (op_index_arr (j := 2) rfl Try.underlying81 ti3 rfl rfl (by omega) (by omega) rfl)) ?_
              refine rg_put (d := 45) (v := .d (.fl (.int .i64 (cn ks 2 ks.length)))) rfl (og rfl (op_load_pt rfl Try.underlying3 rfl rfl rfl rfl rfl)) ?_
              refine rg_put (d := 46) (v := .d (.fl (.bool ((decide (0 < (cn ks 2 ks.length))))))) rfl (og rfl (op_bin rfl rfl rfl (b_gtr _ _ _ _) rfl)) ?_
              refine rg_done rfl ?_
              refine a_cond rfl (fun h31 => ?_) (fun h31 => ?_)
              · skip
                have h32 := t_dec h31
                refine a_region ?_
                refine rg_put (d := 47) (v := .d (.fl (.int .i64 (mx l ks i)))) rfl (og rfl (op_move rfl rfl rfl)) ?_
                refine rg_put (d := 48) (v := .pt 102 1) rfl (og rfl (of_eff (s_field_pt rfl Try.underlying31 rfl ti3 rfl rfl rfl) rfl)) ?_
                refine rg_put (d := 49) (v := .d (.fl (.int .i64 ((ix l i).part)))) rfl (og rfl (op_load_pt rfl Try.underlying3 rfl rfl rfl rfl rfl)) ?_
                refine rg_put (d := 50) (v := .d (.fl (.int .i64 ((max (mx l ks i) ((ix l i).part)))))) rfl (og rfl (op_max rfl rfl rfl rfl)) ?_
                refine rg_put (d := 8) (v := .d (.fl (.int .i64 ((max (mx l ks i) ((ix l i).part)))))) rfl (og rfl (op_assign rfl rfl rfl)) ?_
                refine rg_done rfl ?_
                show A _ _ _ _ _ _ _
                refine a_region ?_
                refine rg_put (d := 51) (v := .d (.fl (.int .i64 (((i : Int) + 1))))) rfl (og rfl (op_bin rfl rfl rfl (fun x y w => b_add64 _ _ _ x y w (by omega)) rfl)) ?_
                refine rg_put (d := 38) (v := .d (.fl (.int .i64 (((i : Int) + 1))))) rfl (og rfl (op_move rfl rfl rfl)) ?_
                refine rg_done rfl ?_
                show ∃ i, _ ∧ _ ∧ Imp _ _ _ _ _
                refine ⟨i + 1, (by omega), by omega, imp_forget rfl ⟨rfl, rfl, rfl, rfl, rfl, rfl, rfl, rfl, rfl, rfl, rfl, (by first | rfl | exact ci (by omega) | exact ci (by simp) | exact cd (by simp) | simp), (congrArg (fun z => AV.d (.fl (.int .i64 z))) (mx_yes (q := 2) (by omega) (by omega))), trivial⟩ ⟨rfl, trivial⟩⟩
              · skip
                have h33 := f_dec h31
                refine a_skip ?_
                show A _ _ _ _ _ _ _
                refine a_region ?_
                refine rg_put (d := 51) (v := .d (.fl (.int .i64 (((i : Int) + 1))))) rfl (og rfl (op_bin rfl rfl rfl (fun x y w => b_add64 _ _ _ x y w (by omega)) rfl)) ?_
                refine rg_put (d := 38) (v := .d (.fl (.int .i64 (((i : Int) + 1))))) rfl (og rfl (op_move rfl rfl rfl)) ?_
                refine rg_done rfl ?_
                show ∃ i, _ ∧ _ ∧ Imp _ _ _ _ _
                refine ⟨i + 1, (by omega), by omega, imp_forget rfl ⟨rfl, rfl, rfl, rfl, rfl, rfl, rfl, rfl, rfl, rfl, rfl, (by first | rfl | exact ci (by omega) | exact ci (by simp) | exact cd (by simp) | simp), (congrArg (fun z => AV.d (.fl (.int .i64 z))) (mx_no (q := 2) (by omega) (by omega))), trivial⟩ ⟨rfl, trivial⟩⟩
          · skip
            have h34 := t_beq h23
            refine rg_put (d := 44) (v := .pt 101 1) rfl (og rfl (op_index_arr (j := 1) rfl Try.underlying81 ti3 rfl rfl (by omega) (by omega) rfl)) ?_
            refine rg_put (d := 45) (v := .d (.fl (.int .i64 (cn ks 1 ks.length)))) rfl (og rfl (op_load_pt rfl Try.underlying3 rfl rfl rfl rfl rfl)) ?_
            refine rg_put (d := 46) (v := .d (.fl (.bool ((decide (0 < (cn ks 1 ks.length))))))) rfl (og rfl (op_bin rfl rfl rfl (b_gtr _ _ _ _) rfl)) ?_
            refine rg_done rfl ?_
            refine a_cond rfl (fun h35 => ?_) (fun h35 => ?_)
            · skip
              have h36 := t_dec h35
              refine a_region ?_
              refine rg_put (d := 47) (v := .d (.fl (.int .i64 (mx l ks i)))) rfl (og rfl (op_move rfl rfl rfl)) ?_
              refine rg_put (d := 48) (v := .pt 102 1) rfl (og rfl (of_eff (s_field_pt rfl Try.underlying31 rfl ti3 rfl rfl rfl) rfl)) ?_
              refine rg_put (d := 49) (v := .d (.fl (.int .i64 ((ix l i).part)))) rfl (og rfl (op_load_pt rfl Try.underlying3 rfl rfl rfl rfl rfl)) ?_
              refine rg_put (d := 50) (v := .d (.fl (.int .i64 ((max (mx l ks i) ((ix l i).part)))))) rfl (og rfl (op_max rfl rfl rfl rfl)) ?_
              refine rg_put (d := 8) (v := .d (.fl (.int .i64 ((max (mx l ks i) ((ix l i).part)))))) rfl (og rfl (op_assign rfl rfl rfl)) ?_
              refine rg_done rfl ?_
              show A _ _ _ _ _ _ _
              refine a_region ?_
              refine rg_put (d := 51) (v := .d (.fl (.int .i64 (((i : Int) + 1))))) rfl (og rfl (op_bin rfl rfl rfl (fun x y w => b_add64 _ _ _ x y w (by omega)) rfl)) ?_
              refine rg_put (d := 38) (v := .d (.fl (.int .i64 (((i : Int) + 1))))) rfl (og rfl (op_move rfl rfl rfl)) ?_
              refine rg_done rfl ?_
              show ∃ i, _ ∧ _ ∧ Imp _ _ _ _ _
              refine ⟨i + 1, (by omega), by omega, imp_forget rfl ⟨rfl, rfl, rfl, rfl, rfl, rfl, rfl, rfl, rfl, rfl, rfl, (by first | rfl | exact ci (by omega) | exact ci (by simp) | exact cd (by simp) | simp), (congrArg (fun z => AV.d (.fl (.int .i64 z))) (mx_yes (q := 1) (by omega) (by omega))), trivial⟩ ⟨rfl, trivial⟩⟩
            · skip
              have h37 := f_dec h35
              refine a_skip ?_
              show A _ _ _ _ _ _ _
              refine a_region ?_
              refine rg_put (d := 51) (v := .d (.fl (.int .i64 (((i : Int) + 1))))) rfl (og rfl (op_bin rfl rfl rfl (fun x y w => b_add64 _ _ _ x y w (by omega)) rfl)) ?_
              refine rg_put (d := 38) (v := .d (.fl (.int .i64 (((i : Int) + 1))))) rfl (og rfl (op_move rfl rfl rfl)) ?_
              refine rg_done rfl ?_
              show ∃ i, _ ∧ _ ∧ Imp _ _ _ _ _
              refine ⟨i + 1, (by omega), by omega, imp_forget rfl ⟨rfl, rfl, rfl, rfl, rfl, rfl, rfl, rfl, rfl, rfl, rfl, (by first | rfl | exact ci (by omega) | exact ci (by simp) | exact cd (by simp) | simp), (congrArg (fun z => AV.d (.fl (.int .i64 z))) (mx_no (q := 1) (by omega) (by omega))), trivial⟩ ⟨rfl, trivial⟩⟩
        · skip
          have h38 := t_beq h21
          refine rg_put (d := 44) (v := .pt 101 0) rfl (og rfl (op_index_arr (j := 0) rfl Try.underlying81 ti3 rfl rfl (by omega) (by omega) rfl)) ?_
          refine rg_put (d := 45) (v := .d (.fl (.int .i64 (cn ks 0 ks.length)))) rfl (og rfl (op_load_pt rfl Try.underlying3 rfl rfl rfl rfl rfl)) ?_
          refine rg_put (d := 46) (v := .d (.fl (.bool ((decide (0 < (cn ks 0 ks.length))))))) rfl (og rfl (op_bin rfl rfl rfl (b_gtr _ _ _ _) rfl)) ?_
          refine rg_done rfl ?_
          refine a_cond rfl (fun h39 => ?_) (fun h39 => ?_)
          · skip
            have h40 := t_dec h39
            refine a_region ?_
            refine rg_put (d := 47) (v := .d (.fl (.int .i64 (mx l ks i)))) rfl (og rfl (op_move rfl rfl rfl)) ?_
            refine rg_put (d := 48) (v := .pt 102 1) rfl (og rfl (of_eff (s_field_pt rfl Try.underlying31 rfl ti3 rfl rfl rfl) rfl)) ?_
            refine rg_put (d := 49) (v := .d (.fl (.int .i64 ((ix l i).part)))) rfl (og rfl (op_load_pt rfl Try.underlying3 rfl rfl rfl rfl rfl)) ?_
            refine rg_put (d := 50) (v := .d (.fl (.int .i64 ((max (mx l ks i) ((ix l i).part)))))) rfl (og rfl (op_max rfl rfl rfl rfl)) ?_
            refine rg_put (d := 8) (v := .d (.fl (.int .i64 ((max (mx l ks i) ((ix l i).part)))))) rfl (og rfl (op_assign rfl rfl rfl)) ?_
            refine rg_done rfl ?_
            show A _ _ _ _ _ _ _
            refine a_region ?_
            refine rg_put (d := 51) (v := .d (.fl (.int .i64 (((i : Int) + 1))))) rfl (og rfl (op_bin rfl rfl rfl (fun x y w => b_add64 _ _ _ x y w (by omega)) rfl)) ?_
            refine rg_put (d := 38) (v := .d (.fl (.int .i64 (((i : Int) + 1))))) rfl (og rfl (op_move rfl rfl rfl)) ?_
            refine rg_done rfl ?_
            show ∃ i, _ ∧ _ ∧ Imp _ _ _ _ _
            refine ⟨i + 1, (by omega), by omega, imp_forget rfl ⟨rfl, rfl, rfl, rfl, rfl, rfl, rfl, rfl, rfl, rfl, rfl, (by first | rfl | exact ci (by omega) | exact ci (by simp) | exact cd (by simp) | simp), (congrArg (fun z => AV.d (.fl (.int .i64 z))) (mx_yes (q := 0) (by omega) (by omega))), trivial⟩ ⟨rfl, trivial⟩⟩
          · skip
            have h41 := f_dec h39
            refine a_skip ?_
            show A _ _ _ _ _ _ _
            refine a_region ?_
            refine rg_put (d := 51) (v := .d (.fl (.int .i64 (((i : Int) + 1))))) rfl (og rfl (op_bin rfl rfl rfl (fun x y w => b_add64 _ _ _ x y w (by omega)) rfl)) ?_
            refine rg_put (d := 38) (v := .d (.fl (.int .i64 (((i : Int) + 1))))) rfl (og rfl (op_move rfl rfl rfl)) ?_
            refine rg_done rfl ?_
            show ∃ i, _ ∧ _ ∧ Imp _ _ _ _ _
            refine ⟨i + 1, (by omega), by omega, imp_forget rfl ⟨rfl, rfl, rfl, rfl, rfl, rfl, rfl, rfl, rfl, rfl, rfl, (by first | rfl | exact ci (by omega) | exact ci (by simp) | exact cd (by simp) | simp), (congrArg (fun z => AV.d (.fl (.int .i64 z))) (mx_no (q := 0) (by omega) (by omega))), trivial⟩ ⟨rfl, trivial⟩⟩
      · skip
        have h42 := f_dec h19
        refine a_exit ?_
        show A _ _ _ _ _ _ _
        refine a_rseq ?_
        refine rg_put (d := 52) (v := .d (.fl (.int .i64 (mx l ks i)))) rfl (og rfl (op_move rfl rfl rfl)) ?_
        refine rg_put (d := 4) (v := .d (.fl (.int .i64 (mx l ks i)))) rfl (og rfl (op_assign rfl rfl rfl)) ?_
        refine rg_done rfl ?_
        refine a_ret ?_
        show ∃ ds, ResL _ _ _ ds ∧ RV.of ds = _
        refine ⟨[.fl (.int .i64 (mx l ks i))], (.cons (.tmp rfl (.d _)) .nil), ?_⟩
        rw [prt_yes (f_bne h1), show l.length = i by omega]; rfl
end Go.Proofs.Ytacbipoplnfmoaa.Wk
