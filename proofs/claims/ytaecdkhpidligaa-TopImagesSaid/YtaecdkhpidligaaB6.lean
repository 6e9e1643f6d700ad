/- Images checked; searches. No condition. -/
import Derived.Test.YtaecdkhpidligaaB5
set_option linter.unusedSimpArgs false
set_option linter.unusedVariables false
namespace Go.Proofs.Ytaecdkhpidligaa.Wk
open Go Go.RowKit Go.Proofs.Ytaecdkhpidligaa.Av
def idx {α : Type} (p : α → Bool) (l : List α) : Int := match l.findIdx? p with
  | some i => (i : Int)
  | none => -1
theorem ix_eq {α : Type} [Inhabited α] {l : List α} {i : Nat} (h : i < l.length) : l[i] = ix l i := by
  have := ix_get h
  rw [List.getElem?_eq_getElem h] at this
  injection this
theorem idx_at {α : Type} [Inhabited α] {p : α → Bool} {l : List α} {k : Nat} (hk : k < l.length) (h : ∀ q, q < k → p (ix l q) = false) (hp : p (ix l k) = true) : idx p l = (k : Int) := by
  have : l.findIdx? p = some k := by
    rw [List.findIdx?_eq_some_iff_getElem]
    refine ⟨hk, by rw [ix_eq hk]; exact hp, fun j hj => ?_⟩
    rw [ix_eq (by omega), h j hj]; simp
  unfold idx; rw [this]
theorem idx_no {α : Type} [Inhabited α] {p : α → Bool} {l : List α} (h : ∀ q, q < l.length → p (ix l q) = false) : idx p l = -1 := by
  have : l.findIdx? p = none := by
    rw [List.findIdx?_eq_none_iff]
    intro x hx
    obtain ⟨j, hj, he⟩ := List.mem_iff_getElem.1 hx
    rw [ix_eq hj] at he
    rw [← he]; exact h j hj
  unfold idx; rw [this]

def ifind (l : List Im) (id : ByteArray) : Int := idx (fun x : Im => sEq x.id id) l
def isT (t : Int) : Bool := !(decide (t < 0) || decide (68719476736 ≤ t))
def chI (im : Im) : Int := if (!(isF im.id)) = true then 5 else if (!(isT im.time)) = true then 12 else if (decide (im.purpose < 1) || decide (4 < im.purpose)) = true then 1 else if (decide ((1024 : Int) < (im.hold.length : Int))) = true then 3 else 0
def dupI (l : List Im) (id : ByteArray) : Bool := l.any fun x => sEq x.id id
def chB (l : List Im) (im : Im) : Int := if (chI im != 0) = true then chI im else if dupI l im.id = true then 9 else 0
def bk (l : List Im) (k : Nat) : Int := chB (l.take k) (ix l k)
def fe (f : Nat → Int) : Nat → Nat → Int
  | _, 0 => 0
  | i, n + 1 => if f i = 0 then fe f (i + 1) n else f i
theorem fe_at {f : Nat → Int} {k n : Nat} (h : k < n) : fe f k (n - k) = if f k = 0 then fe f (k + 1) (n - (k + 1)) else f k := by
  rw [show n - k = (n - (k + 1)) + 1 by omega]; rfl
theorem fe_end {f : Nat → Int} {k n : Nat} (h : ¬ k < n) : fe f k (n - k) = 0 := by
  rw [show n - k = 0 by omega]; rfl
theorem fe_no {f : Nat → Int} {k n : Nat} {c : Int} (h : k < n) (hc : c = fe f k (n - k)) (hb : f k = 0) : c = fe f (k + 1) (n - (k + 1)) := by rw [hc, fe_at h, if_pos hb]
theorem fe_yes {f : Nat → Int} {k n : Nat} {c e : Int} (h : k < n) (hc : c = fe f k (n - k)) (hb : f k = e) (he : e ≠ 0) : c = e := by rw [hc, fe_at h, hb, if_neg he]
def bE (l : List Im) : Int := fe (bk l) 0 l.length
theorem dup_no {l : List Im} {id : ByteArray} (h : ∀ q, q < l.length → sEq (ix l q).id id = false) : dupI l id = false := by
  unfold dupI
  rw [List.any_eq_false]
  intro x hx
  obtain ⟨j, hj, he⟩ := List.mem_iff_getElem.1 hx
  rw [ix_eq hj] at he
  rw [← he, h j hj]; simp
theorem dup_yes {l : List Im} {id : ByteArray} {q : Nat} (hq : q < l.length) (h : sEq (ix l q).id id = true) : dupI l id = true := by
  unfold dupI
  rw [List.any_eq_true]
  exact ⟨ix l q, ix_mem hq, h⟩
theorem dup_idx (l : List Im) (id : ByteArray) : decide (0 ≤ ifind l id) = dupI l id := by
  unfold ifind idx
  cases h : l.findIdx? (fun x => sEq x.id id) with
  | none =>
    rw [List.findIdx?_eq_none_iff] at h
    have : dupI l id = false := by
      unfold dupI; rw [List.any_eq_false]
      intro x hx; rw [h x hx]; simp
    rw [this]; decide
  | some i =>
    rw [List.findIdx?_eq_some_iff_getElem] at h
    obtain ⟨h1, h2, _⟩ := h
    have : dupI l id = true := by
      unfold dupI; rw [List.any_eq_true]
      exact ⟨l[i], List.getElem_mem h1, h2⟩
    rw [this]; simp
def setI (l : List Im) : List (Value × DV) := l.map fun x => (Value.string x.id, DV.fl (.bool true))
theorem setI_take {l : List Im} {k : Nat} (h : k < l.length) : setI (l.take k) ++ [(Value.string (ix l k).id, DV.fl (.bool true))] = setI (l.take (k + 1)) := by unfold setI; rw [take_ix h, List.map_append]; rfl
def zPk : Pk := ⟨⟨#[]⟩, [], []⟩
def bld (id : ByteArray) (l : List Im) : Pk × Int := if (!(isF id)) = true then (zPk, 5) else if (decide ((1024 : Int) < (l.length : Int))) = true then (zPk, 3) else if bE l ≠ 0 then (zPk, bE l) else (⟨id, l, fits id l⟩, 0)
def add (p : Pk) (im : Im) : Pk × Int := if (!(lEq p.chain (fits p.case p.images))) = true then (p, 8) else if (decide ((1024 : Int) ≤ (p.images.length : Int))) = true then (p, 3) else if chB p.images im ≠ 0 then (p, chB p.images im) else (⟨p.case, p.images ++ [im], fits p.case (p.images ++ [im])⟩, 0)

set_option maxHeartbeats 4000000 in
set_option maxRecDepth 100000 in
theorem check33 (im : Im) : Ctr Try.prog 12 [.ag (eIm im)] (.d (.fl (.int .i64 (chI im)))) := by
  refine ctr (n := 31) (rs := #[.tmp 2]) (L := [(0, .d (.ag (eIm im)))]) Try.func12 rfl rfl rfl rfl rfl (fun w0 U0 => ?_)
  refine a_rseq ?_
  refine rg_nam (d := 1) (v := .pt 101 0) (m := 101) (nw := [(101, .bx 40 (eIm im))]) rfl (og rfl (of_eff (op_box 101 rfl rfl rfl rfl) rfl)) rfl ?_
  refine rg_put (d := 2) (v := .d (.fl (.int .i64 0))) rfl (og rfl (op_assign rfl rfl rfl)) ?_
  refine rg_done rfl ?_
  refine a_seq ?_
  refine a_block ?_
  refine a_rseq ?_
  refine rg_put (d := 4) (v := .pt 101 0) rfl (og rfl (of_eff (s_field_pt rfl Try.underlying40 rfl ti9 rfl rfl rfl) rfl)) ?_
  refine rg_put (d := 5) (v := .d (.fl (.string im.id))) rfl (og rfl (op_load_pt rfl Try.underlying9 rfl rfl rfl rfl rfl)) ?_
  refine rg_put (d := 6) (v := .d (.fl (.bool (isF im.id)))) rfl (og rfl (op_call rfl Try.func11 nm11 rfl (.cons rfl (.d _) .nil) (isF32 im.id) rfl)) ?_
  refine rg_put (d := 7) (v := .d (.fl (.bool ((!(isF im.id)))))) rfl (og rfl (op_un rfl rfl (u_not _) rfl)) ?_
  refine rg_put (d := 3) (v := .d (.fl (.bool ((!(isF im.id)))))) rfl (og rfl (op_assign rfl rfl rfl)) ?_
  refine rg_done rfl ?_
  refine a_cond rfl (fun h1 => ?_) (fun h1 => ?_)
  · skip
    have h2 := t_not h1
    refine a_rseq ?_
    refine rg_put (d := 2) (v := .d (.fl (.int .i64 5))) rfl (og rfl (op_assign rfl rfl rfl)) ?_
    refine rg_done rfl ?_
    refine a_ret ?_
    show ∃ ds, ResL _ _ _ ds ∧ RV.of ds = _
    refine ⟨[.fl (.int .i64 5)], (.cons (.tmp rfl (.d _)) .nil), ?_⟩
    have hu : chI im = 5 := by
      unfold chI; simp only [h1, h2]; rfl
    rw [hu]; rfl
  · skip
    have h3 := f_not h1
    refine a_rseq ?_
    refine rg_put (d := 9) (v := .pt 101 1) rfl (og rfl (of_eff (s_field_pt rfl Try.underlying40 rfl ti3 rfl rfl rfl) rfl)) ?_
    refine rg_put (d := 10) (v := .d (.fl (.int .i64 im.time))) rfl (og rfl (op_load_pt rfl Try.underlying3 rfl rfl rfl rfl rfl)) ?_
    refine rg_put (d := 11) (v := .d (.fl (.bool ((decide (im.time < 0)))))) rfl (og rfl (op_bin rfl rfl rfl (b_lss _ _ _ _) rfl)) ?_
    refine rg_put (d := 12) (v := .d (.fl (.bool ((decide (im.time < 0)))))) rfl (og rfl (op_move rfl rfl rfl)) ?_
    rcases fot ((decide (im.time < 0))) with h4 | h4
    · skip
      have h5 := f_dec h4
      refine rg_put (d := 13) (v := .pt 101 1) rfl (oy rfl rfl rfl h4 (of_eff (s_field_pt rfl Try.underlying40 rfl ti3 rfl rfl rfl) rfl)) ?_
      refine rg_put (d := 14) (v := .d (.fl (.int .i64 im.time))) rfl (oy rfl rfl rfl h4 (op_load_pt rfl Try.underlying3 rfl rfl rfl rfl rfl)) ?_
      refine rg_put (d := 15) (v := .d (.fl (.bool ((decide (68719476736 ≤ im.time)))))) rfl (oy rfl rfl rfl h4 (op_bin rfl rfl rfl (b_geq _ _ _ _) rfl)) ?_
      refine rg_put (d := 16) (v := .d (.fl (.bool ((decide (68719476736 ≤ im.time)))))) rfl (og rfl (op_pick rfl rfl (by rw [h4]; rfl) rfl)) ?_
      refine rg_put (d := 8) (v := .d (.fl (.bool ((decide (68719476736 ≤ im.time)))))) rfl (og rfl (op_assign rfl rfl rfl)) ?_
      refine rg_done rfl ?_
      refine a_cond rfl (fun h6 => ?_) (fun h6 => ?_)
      · skip
        have h7 := t_dec h6
        refine a_rseq ?_
        refine rg_put (d := 2) (v := .d (.fl (.int .i64 12))) rfl (og rfl (op_assign rfl rfl rfl)) ?_
        refine rg_done rfl ?_
        refine a_ret ?_
        show ∃ ds, ResL _ _ _ ds ∧ RV.of ds = _
        refine ⟨[.fl (.int .i64 12)], (.cons (.tmp rfl (.d _)) .nil), ?_⟩
        have hT : isT im.time = false := by unfold isT; simp only [h4, h6]; rfl
        have hu : chI im = 12 := by
          unfold chI; simp only [h1, h3, hT]; rfl
        rw [hu]; rfl
      · skip
        have h8 := f_dec h6
        refine a_rseq ?_
        refine rg_put (d := 18) (v := .pt 101 2) rfl (og rfl (of_eff (s_field_pt rfl Try.underlying40 rfl ti3 rfl rfl rfl) rfl)) ?_
        refine rg_put (d := 19) (v := .d (.fl (.int .i64 im.purpose))) rfl (og rfl (op_load_pt rfl Try.underlying3 rfl rfl rfl rfl rfl)) ?_
        refine rg_put (d := 20) (v := .d (.fl (.bool ((decide (im.purpose < 1)))))) rfl (og rfl (op_bin rfl rfl rfl (b_lss _ _ _ _) rfl)) ?_
        refine rg_put (d := 21) (v := .d (.fl (.bool ((decide (im.purpose < 1)))))) rfl (og rfl (op_move rfl rfl rfl)) ?_
        rcases fot ((decide (im.purpose < 1))) with h9 | h9
        · skip
          have h10 := f_dec h9
          refine rg_put (d := 22) (v := .pt 101 2) rfl (oy rfl rfl rfl h9 (of_eff (s_field_pt rfl Try.underlying40 rfl ti3 rfl rfl rfl) rfl)) ?_
          refine rg_put (d := 23) (v := .d (.fl (.int .i64 im.purpose))) rfl (oy rfl rfl rfl h9 (op_load_pt rfl Try.underlying3 rfl rfl rfl rfl rfl)) ?_
          refine rg_put (d := 24) (v := .d (.fl (.bool ((decide (4 < im.purpose)))))) rfl (oy rfl rfl rfl h9 (op_bin rfl rfl rfl (b_gtr _ _ _ _) rfl)) ?_
          refine rg_put (d := 25) (v := .d (.fl (.bool ((decide (4 < im.purpose)))))) rfl (og rfl (op_pick rfl rfl (by rw [h9]; rfl) rfl)) ?_
          refine rg_put (d := 17) (v := .d (.fl (.bool ((decide (4 < im.purpose)))))) rfl (og rfl (op_assign rfl rfl rfl)) ?_
          refine rg_done rfl ?_
          refine a_cond rfl (fun h11 => ?_) (fun h11 => ?_)
          · skip
            have h12 := t_dec h11
            refine a_rseq ?_
            refine rg_put (d := 2) (v := .d (.fl (.int .i64 1))) rfl (og rfl (op_assign rfl rfl rfl)) ?_
            refine rg_done rfl ?_
            refine a_ret ?_
            show ∃ ds, ResL _ _ _ ds ∧ RV.of ds = _
            refine ⟨[.fl (.int .i64 1)], (.cons (.tmp rfl (.d _)) .nil), ?_⟩
            have hT : isT im.time = true := by unfold isT; simp only [h4, h6]; rfl
            have hu : chI im = 1 := by
              unfold chI; simp only [h1, h3, h9, h11, hT]; rfl
            rw [hu]; rfl
          · skip
            have h13 := f_dec h11
            refine a_rseq ?_
            refine rg_put (d := 27) (v := .pt 101 3) rfl (og rfl (of_eff (s_field_pt rfl Try.underlying40 rfl ti33 rfl rfl rfl) rfl)) ?_
            refine rg_put (d := 28) (v := .d (.sl 1 (List.map rS im.hold))) rfl (og rfl (op_load_pt rfl Try.underlying33 rfl rfl rfl rfl rfl)) ?_
            refine rg_put (d := 29) (v := .d (.fl (.int .i64 (im.hold.length : Int)))) rfl (og rfl (s_len rfl Try.underlying33 rfl rfl)) ?_
            refine rg_put (d := 30) (v := .d (.fl (.bool ((decide (1024 < (im.hold.length : Int))))))) rfl (og rfl (op_bin rfl rfl rfl (b_gtr _ _ _ _) rfl)) ?_
            refine rg_put (d := 26) (v := .d (.fl (.bool ((decide (1024 < (im.hold.length : Int))))))) rfl (og rfl (op_assign rfl rfl rfl)) ?_
            refine rg_done rfl ?_
            refine a_cond rfl (fun h14 => ?_) (fun h14 => ?_)
            · skip
              have h15 := t_dec h14
              refine a_rseq ?_
              refine rg_put (d := 2) (v := .d (.fl (.int .i64 3))) rfl (og rfl (op_assign rfl rfl rfl)) ?_
              refine rg_done rfl ?_
              refine a_ret ?_
              show ∃ ds, ResL _ _ _ ds ∧ RV.of ds = _
              refine ⟨[.fl (.int .i64 3)], (.cons (.tmp rfl (.d _)) .nil), ?_⟩
              have hT : isT im.time = true := by unfold isT; simp only [h4, h6]; rfl
              have hu : chI im = 3 := by
                unfold chI; simp only [h1, h3, h9, h11, h14, hT]; rfl
              rw [hu]; rfl
            · skip
              have h16 := f_dec h14
              refine a_skip ?_
              show A _ _ _ _ _ _ _
              refine a_rseq ?_
              refine rg_put (d := 2) (v := .d (.fl (.int .i64 0))) rfl (og rfl (op_assign rfl rfl rfl)) ?_
              refine rg_done rfl ?_
              refine a_ret ?_
              show ∃ ds, ResL _ _ _ ds ∧ RV.of ds = _
              refine ⟨[.fl (.int .i64 0)], (.cons (.tmp rfl (.d _)) .nil), ?_⟩
              have hT : isT im.time = true := by unfold isT; simp only [h4, h6]; rfl
              have hu : chI im = 0 := by
                unfold chI; simp only [h1, h3, h9, h11, h14, hT]; rfl
              rw [hu]; rfl
        · skip
          have h17 := t_dec h9
          refine rg_put (d := 22) (v := .d (.fl undef)) rfl (on rfl rfl rfl h9) ?_
          refine rg_put (d := 23) (v := .d (.fl undef)) rfl (on rfl rfl rfl h9) ?_
          refine rg_put (d := 24) (v := .d (.fl undef)) rfl (on rfl rfl rfl h9) ?_
          refine rg_put (d := 25) (v := .d (.fl (.bool true))) rfl (og rfl (op_pick rfl rfl (by rw [h9]; rfl) rfl)) ?_
          refine rg_put (d := 17) (v := .d (.fl (.bool true))) rfl (og rfl (op_assign rfl rfl rfl)) ?_
          refine rg_done rfl ?_
          refine a_condK rfl rfl ?_
          refine a_rseq ?_
          refine rg_put (d := 2) (v := .d (.fl (.int .i64 1))) rfl (og rfl (op_assign rfl rfl rfl)) ?_
          refine rg_done rfl ?_
          refine a_ret ?_
          show ∃ ds, ResL _ _ _ ds ∧ RV.of ds = _
          refine ⟨[.fl (.int .i64 1)], (.cons (.tmp rfl (.d _)) .nil), ?_⟩
          have hT : isT im.time = true := by unfold isT; simp only [h4, h6]; rfl
          have hu : chI im = 1 := by
            unfold chI; simp only [h1, h3, h9, hT]; rfl
          rw [hu]; rfl
    · skip
      have h18 := t_dec h4
      refine rg_put (d := 13) (v := .d (.fl undef)) rfl (on rfl rfl rfl h4) ?_
      refine rg_put (d := 14) (v := .d (.fl undef)) rfl (on rfl rfl rfl h4) ?_
      refine rg_put (d := 15) (v := .d (.fl undef)) rfl (on rfl rfl rfl h4) ?_
      refine rg_put (d := 16) (v := .d (.fl (.bool true))) rfl (og rfl (op_pick rfl rfl (by rw [h4]; rfl) rfl)) ?_
      refine rg_put (d := 8) (v := .d (.fl (.bool true))) rfl (og rfl (op_assign rfl rfl rfl)) ?_
      refine rg_done rfl ?_
      refine a_condK rfl rfl ?_
      refine a_rseq ?_
      refine rg_put (d := 2) (v := .d (.fl (.int .i64 12))) rfl (og rfl (op_assign rfl rfl rfl)) ?_
      refine rg_done rfl ?_
      refine a_ret ?_
      show ∃ ds, ResL _ _ _ ds ∧ RV.of ds = _
      refine ⟨[.fl (.int .i64 12)], (.cons (.tmp rfl (.d _)) .nil), ?_⟩
      have hT : isT im.time = false := by unfold isT; simp only [h4]; rfl
      have hu : chI im = 12 := by
        unfold chI; simp only [h1, h3, hT]; rfl
      rw [hu]; rfl
end Go.Proofs.Ytaecdkhpidligaa.Wk
