/- Spans: its words, its plain mathematics and its contract in the layer. No condition. -/
import Derived.Test.YtfpndiacbpinpaaDoorInr
set_option linter.unusedSimpArgs false
set_option linter.unusedVariables false
namespace Go.Proofs.YtfpndiacbpinpaaDoor.Mt
def push (l : List (Int × Int)) (a b : Int) : List (Int × Int) :=
  match l.getLast? with
  | some p => if p.2 = a then l.dropLast ++ [(p.1, b)] else l ++ [(a, b)]
  | none => [(a, b)]
theorem push_nil (a b : Int) : push [] a b = [(a, b)] := rfl
theorem push_join {l : List (Int × Int)} {p : Int × Int} {a b : Int} (h : p.2 = a) : push (l ++ [p]) a b = l ++ [(p.1, b)] := by simp [push, h]
theorem push_more {l : List (Int × Int)} {p : Int × Int} {a b : Int} (h : p.2 ≠ a) : push (l ++ [p]) a b = l ++ [p] ++ [(a, b)] := by simp [push, h]
theorem snoc_cases {α : Type} (l : List α) : l = [] ∨ ∃ l' p, l = l' ++ [p] := by
  rcases l with _ | ⟨x, t⟩
  · exact .inl rfl
  · exact .inr ⟨(x :: t).dropLast, (x :: t).getLast (by simp), (List.dropLast_concat_getLast (by simp)).symm⟩
def frm (f a y : Int) : Int := max a (y * 86400 + f * 60)
def tot (t b y : Int) : Int := min b (y * 86400 + t * 60)
def spS (d f t a b y : Int) (l : List (Int × Int)) : List (Int × Int) := if bt d (y % 7) = true ∧ frm f a y < tot t b y then push l (frm f a y) (tot t b y) else l
def spn (d f t a b F : Int) : Nat → List (Int × Int)
  | 0 => []
  | k + 1 => spS d f t a b (F + (k : Int)) (spn d f t a b F k)
def spansS (d f t a b : Int) : List (Int × Int) × Int :=
  if vi a b = false then ([], 12) else if 366 ≤ (b - 1) / 86400 - a / 86400 then ([], 3) else if vw d f t = false then ([], 0)
  else (spn d f t a b (a / 86400) ((b - 1) / 86400 - a / 86400 + 1).toNat, 0)
theorem push_len (l : List (Int × Int)) (a b : Int) : (push l a b).length ≤ l.length + 1 := by
  rcases snoc_cases l with rfl | ⟨l', p, rfl⟩
  · simp [push]
  · by_cases h : p.2 = a
    · rw [push_join h]; simp
    · rw [push_more h]; simp
theorem spn_len (d f t a b F : Int) (k : Nat) : (spn d f t a b F k).length ≤ k := by
  induction k with
  | zero => simp [spn]
  | succ k ih =>
    unfold spn spS
    split
    · exact Nat.le_trans (push_len _ _ _) (by omega)
    · omega
theorem spn_skip {d f t a b F y : Int} {k : Nat} {l : List (Int × Int)} (hy : F + (k : Int) = y) (hl : spn d f t a b F k = l) (h : ¬ (bt d (y % 7) = true ∧ frm f a y < tot t b y)) : spn d f t a b F (k + 1) = l := by
  rw [spn, hy, spS, if_neg h, hl]
theorem spn_push {d f t a b F y : Int} {k : Nat} {l : List (Int × Int)} (hy : F + (k : Int) = y) (hl : spn d f t a b F k = l) (h : bt d (y % 7) = true ∧ frm f a y < tot t b y) : spn d f t a b F (k + 1) = push l (frm f a y) (tot t b y) := by
  rw [spn, hy, spS, if_pos h, hl]
theorem sp_time {d f t a b : Int} (h : vi a b = false) : spansS d f t a b = ([], 12) := by rw [spansS, if_pos h]
theorem sp_limit {d f t a b : Int} (h : vi a b = true) (h2 : 366 ≤ (b - 1) / 86400 - a / 86400) : spansS d f t a b = ([], 3) := by rw [spansS, if_neg (by simp [h]), if_pos h2]
theorem sp_none {d f t a b : Int} (h : vi a b = true) (h2 : ¬ 366 ≤ (b - 1) / 86400 - a / 86400) (h3 : vw d f t = false) : spansS d f t a b = ([], 0) := by rw [spansS, if_neg (by simp [h]), if_neg h2, if_pos h3]
theorem sp_ok {d f t a b F L : Int} (h : vi a b = true) (h2 : ¬ 366 ≤ (b - 1) / 86400 - a / 86400) (h3 : vw d f t = true) (hF : a / 86400 = F) (hL : (b - 1) / 86400 = L) : spansS d f t a b = (spn d f t a b F (L - F + 1).toNat, 0) := by
  rw [spansS, if_neg (by simp [h]), if_neg h2, if_neg (by simp [h3]), hF, hL]
theorem vi_iff (a b : Int) : vi a b = true ↔ 0 ≤ a ∧ a < b ∧ b ≤ 68719476736 := by simp [vi]
end Go.Proofs.YtfpndiacbpinpaaDoor.Mt
namespace Go.Proofs.YtfpndiacbpinpaaDoor.Wk
open Go.RowKit
open Go.Proofs.YtfpndiacbpinpaaDoor.Mt
def flat (l : List (Int × Int)) : List Value := l.flatMap fun p => [.int .i64 p.1, .int .i64 p.2]
theorem flat_snoc (l : List (Int × Int)) (p : Int × Int) : flat (l ++ [p]) = flat l ++ [.int .i64 p.1, .int .i64 p.2] := by simp [flat]
theorem flat_len (l : List (Int × Int)) : (flat l).length = l.length * 2 := by
  induction l with
  | nil => rfl
  | cons p l ih => simp only [flat, List.flatMap_cons, List.length_append, List.length_cons, List.length_nil] at ih ⊢; omega
def pat (l : List (Int × Int)) (i : Nat) : Int × Int := l.getD i (0, 0)
theorem flat_at (l : List (Int × Int)) : ∀ i, i < l.length → (flat l)[i * 2]? = some (.int .i64 (pat l i).1) ∧ (flat l)[i * 2 + 1]? = some (.int .i64 (pat l i).2) := by
  induction l with
  | nil => intro i h; simp at h
  | cons p l ih =>
    intro i h
    cases i with
    | zero => exact ⟨rfl, rfl⟩
    | succ i =>
      have := ih i (by simpa using h)
      simp only [flat, List.flatMap_cons, pat, List.getD_cons_succ] at this ⊢
      refine ⟨?_, ?_⟩
      · rw [show (i + 1) * 2 = i * 2 + 2 by omega, List.getElem?_append_right (by simp)]; simpa using this.1
      · rw [show (i + 1) * 2 + 1 = i * 2 + 1 + 2 by omega, List.getElem?_append_right (by simp)]; simpa using this.2
/-- a slice value of n intervals reads as the list l -/
def Rv (w : World) (B : Nat) (A : Option Addr) (n : Nat) (l : List (Int × Int)) : Prop :=
  l.length = n ∧ n ≤ 9223372036854775807 ∧ (0 < n → ∃ b off, A = some ⟨b, off, none⟩ ∧ b < B ∧ ∀ i, i < n → w.cell? ⟨b, off + i * 2, none⟩ = some (.int .i64 (pat l i).1) ∧ w.cell? ⟨b, off + i * 2 + 1, none⟩ = some (.int .i64 (pat l i).2))
theorem Rv.nil_ (w : World) (B : Nat) : Rv w B none 0 [] := ⟨rfl, by omega, fun h => by omega⟩
theorem Rv.up {w w' : World} {A : Option Addr} {n : Nat} {l : List (Int × Int)} (h : Rv w w.heap.size A n l) (hb : Below w.heap.size w w') : Rv w' w'.heap.size A n l := by
  refine ⟨h.1, h.2.1, fun hn => ?_⟩
  obtain ⟨b, off, e, hlt, hc⟩ := h.2.2 hn
  exact ⟨b, off, e, Nat.lt_of_lt_of_le hlt hb.size, fun i hi => ⟨(hb.cell (p := ⟨b, _, _⟩) hlt).trans (hc i hi).1, (hb.cell (p := ⟨b, _, _⟩) hlt).trans (hc i hi).2⟩⟩
theorem Rv.get {w : World} {B : Nat} {A : Option Addr} {n : Nat} {l : List (Int × Int)} (h : Rv w B A n l) {i : Nat} (hi : i < n) : ∃ b off, A = some ⟨b, off, none⟩ ∧ b < B ∧ w.cell? ⟨b, off + i * 2, none⟩ = some (.int .i64 (pat l i).1) ∧ w.cell? ⟨b, off + i * 2 + 1, none⟩ = some (.int .i64 (pat l i).2) := by
  obtain ⟨b, off, e, hb, hc⟩ := h.2.2 (by omega)
  exact ⟨b, off, e, hb, hc i hi⟩
theorem Rv.of_own {w : World} {base : Nat} {v : Value} {l : List (Int × Int)} (h : w.ownsRow base 38 2 v l.length (flat l)) (hl : l.length ≤ 9223372036854775807) : ∃ A n c, v = .slice A n c ∧ Rv w w.heap.size A n l := by
  rcases h.2 with ⟨hv, h0⟩ | ⟨g, cap, cur, hv, hbs, hg, _, _, _, _⟩
  · exact ⟨none, 0, 0, hv, by simpa using h0, by omega, fun h => by omega⟩
  · have hlt : g < w.heap.size := Bx.lt (t := 38) (cs := cur) hg
    subst hv
    refine ⟨_, _, _, rfl, rfl, hl, fun _ => ⟨g, 0, rfl, hlt, fun i hi => ?_⟩⟩
    have := flat_at l i hi
    rw [Nat.zero_add, h.cellAt (i * 2) (by omega), h.cellAt (i * 2 + 1) (by omega)]
    exact this
structure Ro (w0 wr : World) (cw ci : Array Value) (v : Value) (l : List (Int × Int)) : Prop where
  bel : Below w0.heap.size w0 wr
  bw : Bx wr w0.heap.size 35 cw
  bi : Bx wr (w0.heap.size + 1) 38 ci
  ow : wr.ownsRow (w0.heap.size + 2) 38 2 v l.length (flat l)
  nl : l = [] → v = .slice none 0 0
section
variable {w0 wr w1 : World} {cw ci : Array Value} {v v' : Value} {l : List (Int × Int)} {p : Int × Int}
theorem Ro.next (h : Ro w0 wr cw ci v l) (hb : Below wr.heap.size wr w1) : Ro w0 w1 cw ci v l := ⟨upB h.bel hb, h.bw.next hb, h.bi.next hb, own_below h.ow hb, h.nl⟩
theorem Ro.nextN {k : Nat} (h : Ro w0 wr cw ci v l) (hb : Below (wr.drewN k).heap.size (wr.drewN k) w1) : Ro w0 w1 cw ci v l := (h.next (below_drewN (Below.refl _ _) k)).next hb
theorem Ro.start (w : World) (cw ci : Array Value) : Ro w ((w.alloc (.cells cw 35)).alloc (.cells ci 38)) cw ci (.slice none 0 0) [] :=
  ⟨(b1 _ _).alloc (by simp) _, (Bx.new _ _ _).alloc _, Bx.newAt (by simp), World.ownsRow_nil _ _ _ _, fun _ => rfl⟩
theorem Ro.app {a b : Int} {o : Obj} (h : Ro w0 wr cw ci v l) (ho : w1.ownsRow (w0.heap.size + 2) 38 2 v' (l.length + 1) (flat l ++ [Value.int .i64 a, Value.int .i64 b])) (hg : (wr.alloc o).grownBy w1 v.ownBlock) : Ro w0 w1 cw ci v' (l ++ [(a, b)]) := by
  have hlt := h.ow.lt
  have hN := h.bel.size
  have keep : ∀ {g : Nat} {t : TypeId} {cs : Array Value}, Bx wr g t cs → g ≤ w0.heap.size + 1 → Bx w1 g t cs := by
    intro g t cs hB hgq
    have h1 : Bx (wr.alloc o) g t cs := (Below.heap_alloc wr o g hB.lt).trans hB
    refine (hg.block g h1.lt (fun e => ?_)).trans h1
    have := (hlt g e.symm).1
    omega
  refine ⟨(h.bel.alloc hN o).grown hg (by simp; omega) (fun k hk => ?_), keep h.bw (by omega), keep h.bi (Nat.le_refl _), by rw [flat_snoc]; simpa using ho, by simp⟩
  have := (hlt k hk).1
  omega
theorem Ro.form (h : Ro w0 wr cw ci v (l ++ [p])) : ∃ g cap, v = .slice (some ⟨g, 0, none⟩) (l.length + 1) cap ∧ w0.heap.size + 2 ≤ g ∧ g < wr.heap.size ∧ wr.cell? ⟨g, l.length * 2 + 1, none⟩ = some (.int .i64 p.2) ∧ wr.frozen? ⟨g, l.length * 2 + 1, none⟩ = false := by
  have how := h.ow
  simp only [List.length_append, List.length_cons, List.length_nil, Nat.zero_add] at how
  obtain ⟨g, cap, hv, hb, hlt⟩ := how.form (by omega)
  subst hv
  refine ⟨g, cap, rfl, hb, hlt, ?_, how.frozenAt _⟩
  rw [how.cellAt _ (by omega), flat_snoc, List.getElem?_append_right (by rw [flat_len]; omega), flat_len]
  simp
theorem Ro.stored {g cap : Nat} {b : Int} (h : Ro w0 wr cw ci (.slice (some ⟨g, 0, none⟩) (l.length + 1) cap) (l ++ [p])) (hg : w0.heap.size + 2 ≤ g) :
    Ro w0 (wr.setCell ⟨g, l.length * 2 + 1, none⟩ (.int .i64 b)) cw ci (.slice (some ⟨g, 0, none⟩) (l.length + 1) cap) (l ++ [(p.1, b)]) := by
  have how := h.ow
  simp only [List.length_append, List.length_cons, List.length_nil, Nat.zero_add] at how
  have hst := (how.stored (l.length * 2 + 1) (.int .i64 b)).1
  refine ⟨h.bel.setCell (p := ⟨g, _, none⟩) (by show w0.heap.size ≤ g; omega) _, h.bw.far (by omega) _ _, h.bi.far (by omega) _ _, ?_, by simp⟩
  simp only [List.length_append, List.length_cons, List.length_nil, Nat.zero_add]
  rw [flat_snoc]
  rw [flat_snoc, List.set_append_right _ _ (by rw [flat_len]; omega), flat_len] at hst
  simpa using hst
end
theorem day_q (t : Int) (w : World) (h0 : 0 ≤ t) (h1 : t < 68719476736) : Calls Tryd.prog 13 #[.int .i64 t] w fun e w' => e = .returned (.int .i64 (t / 86400)) ∧ w' = w :=
  (day_any t w).mono fun e w' ⟨h2, h3⟩ => ⟨by rw [h2, dayS_in ((isT_iff t).2 ⟨h0, h1⟩)], h3.symm⟩
theorem ivl_info : (Tryd.prog.info? 38).map (fun i => (i.zero, i.size, i.bytes)) = some (some (.agg #[.int .i64 0, .int .i64 0]), 2, 16) := by kernel_rfl
end Go.Proofs.YtfpndiacbpinpaaDoor.Wk
