/- Two rows of a call's own, that grow and are written; who has the greatest rest. No condition. -/
import Derived.Test.YtjipcopfggnlkaaDoorDd
import Derived.Test.YtjipcopfggnlkaaDoorSy
set_option linter.unusedSimpArgs false
set_option linter.unusedVariables false
namespace Go.Proofs.YtjipcopfggnlkaaDoor.Mt
open Go
/-- the rests, when the first k in order are spent -/
def rz (rf : Nat → Nat) (o : List Nat) (k i : Nat) : Nat := if i ∈ o.take k then 0 else rf i
/-- the first k places' numbers as a list -/
def ml (f : Nat → Nat) (n : Nat) : List Int := (List.range n).map (fun i => ((f i : Nat) : Int))
theorem ml_len (f : Nat → Nat) (n : Nat) : (ml f n).length = n := by simp [ml]
theorem ml_at (f : Nat → Nat) {n i : Nat} (h : i < n) : iat (ml f n) i = ((f i : Nat) : Int) := by
  unfold iat ml
  rw [List.getD_eq_getElem?_getD, List.getElem?_map, List.getElem?_range h]
  rfl
theorem ml_succ (f : Nat → Nat) (n : Nat) : ml f (n + 1) = ml f n ++ [((f n : Nat) : Int)] := by
  unfold ml
  rw [List.range_succ, List.map_append]
  rfl
theorem rz_zero (rf : Nat → Nat) (o : List Nat) (n : Nat) : ml (rz rf o 0) n = ml rf n := by
  unfold ml
  apply List.map_congr_left
  intro i _
  unfold rz
  simp
theorem bump_ml (qf : Nat → Nat) (n : Nat) (o : List Nat) : bump qf n o 0 = ml qf n := bump_zero qf n o
/-- the one that is chosen -/
def Top (f : Nat → Nat) (n a : Nat) : Prop := a < n ∧ (∀ j, j < n → f j ≤ f a) ∧ ∀ j, j < a → f j < f a
theorem Top.uniq {f : Nat → Nat} {n a b : Nat} (ha : Top f n a) (hb : Top f n b) : a = b := by
  rcases Nat.lt_trichotomy a b with h | h | h
  · have := hb.2.2 a h; have := ha.2.1 b hb.1; omega
  · exact h
  · have := ha.2.2 b h; have := hb.2.1 a ha.1; omega
theorem Top.keep {f : Nat → Nat} {n a : Nat} (h : Top f n a) (hn : f n ≤ f a) : Top f (n + 1) a := ⟨Nat.lt_succ_of_lt h.1, fun j hj => by
  rcases Nat.lt_or_ge j n with h1 | h1
  · exact h.2.1 j h1
  · rw [show j = n by omega]; exact hn, h.2.2⟩
theorem Top.move {f : Nat → Nat} {n a : Nat} (h : Top f n a) (hn : f a < f n) : Top f (n + 1) n := ⟨Nat.lt_succ_self n, fun j hj => by
  rcases Nat.lt_or_ge j n with h1 | h1
  · exact Nat.le_of_lt (Nat.lt_of_le_of_lt (h.2.1 j h1) hn)
  · rw [show j = n by omega]; exact Nat.le_refl _, fun j hj => Nat.lt_of_le_of_lt (h.2.1 j hj) hn⟩
theorem OrdOk.top {rf : Nat → Nat} {n : Nat} {o : List Nat} (h : OrdOk rf n o) {S L k : Nat} (hS : 0 < S) (hlt : ∀ i, i < n → rf i < S) (hs : sm rf n = S * L) (hL : L ≤ n) (hk : k < L) (hko : k < o.length) : Top (rz rf o k) n o[k] := by
  have hok : o[k] < n := h.mem.1 (List.getElem_mem hko)
  have hnot : o[k] ∉ o.take k := by
    intro hm
    obtain ⟨j, hj, e⟩ := List.getElem_of_mem hm
    rw [List.length_take] at hj
    rw [List.getElem_take] at e
    exact (List.pairwise_iff_getElem.1 h.nodup) j k (by omega) hko (by omega) e
  have hpos : 0 < rf o[k] := by
    refine h.some hS hlt hs ?_
    have : (o.take L)[k]'(by rw [List.length_take]; omega) = o[k] := by rw [List.getElem_take]
    rw [← this]
    exact List.getElem_mem _
  have e0 : rz rf o k o[k] = rf o[k] := if_neg hnot
  have key : ∀ j, j < n → rz rf o k j ≤ rf o[k] ∧ (j < o[k] → rz rf o k j < rf o[k]) := by
    intro j hj
    by_cases hm : j ∈ o.take k
    · have : rz rf o k j = 0 := if_pos hm
      omega
    · have e : rz rf o k j = rf j := if_neg hm
      obtain ⟨x, hx, ex⟩ := List.getElem_of_mem (h.mem.2 hj)
      have hxk : k ≤ x := by
        rcases Nat.lt_or_ge x k with h1 | h1
        · exfalso
          apply hm
          have : (o.take k)[x]'(by rw [List.length_take]; omega) = j := by rw [List.getElem_take]; exact ex
          rw [← this]
          exact List.getElem_mem _
        · exact h1
      rcases Nat.eq_or_lt_of_le hxk with h1 | h1
      · subst h1
        rw [ex] at *
        rw [e]
        exact ⟨Nat.le_refl _, fun h => absurd h (Nat.lt_irrefl _)⟩
      · have := List.pairwise_iff_getElem.1 h.sorted k x hko hx h1
        rw [ex] at this
        unfold rlt at this
        rw [e]
        omega
  refine ⟨hok, fun j hj => by rw [e0]; exact (key j hj).1, fun j hj => by rw [e0]; exact (key j (by omega)).2 hj⟩
theorem rz_step {rf : Nat → Nat} {n : Nat} {o : List Nat} (h : OrdOk rf n o) {k : Nat} (hk : k < o.length) : ml (rz rf o (k + 1)) n = (ml (rz rf o k) n).set o[k] 0 := by
  have hok : o[k] < n := h.mem.1 (List.getElem_mem hk)
  apply list_ext_iat
  · rw [List.length_set, ml_len, ml_len]
  · intro i hi
    rw [ml_len] at hi
    rw [iat_set (by rw [ml_len]; exact hok), ml_at _ hi, ml_at _ hi]
    unfold rz
    rw [List.take_succ_eq_append_getElem hk]
    by_cases hik : o[k] = i
    · subst hik
      rw [if_pos rfl, if_pos (List.mem_append.2 (.inr (List.mem_singleton.2 rfl)))]
      rfl
    · rw [if_neg hik]
      by_cases hm : i ∈ o.take k
      · rw [if_pos hm, if_pos (List.mem_append.2 (.inl hm))]
      · rw [if_neg hm, if_neg (fun h9 => by
          rcases List.mem_append.1 h9 with h8 | h8
          · exact hm h8
          · exact hik (List.mem_singleton.1 h8).symm)]
end Go.Proofs.YtjipcopfggnlkaaDoor.Mt
namespace Go.Proofs.YtjipcopfggnlkaaDoor.Wk
open Go.RowKit
open Go.Proofs.YtjipcopfggnlkaaDoor.Mt
theorem new_cell (W : World) (x : Value) (t : TypeId) (n : Nat) (h : n = W.heap.size) : ∀ j u, [x][j]? = some u → (W.alloc (.cells #[x] t)).cell? ((⟨n, 0, none⟩ : Addr).add j) = some u := by
  subst h; exact cell_one_new _ _ _
theorem one_int (k : IntKind) (x : Int) : ∀ u ∈ [Value.int k x], u.oneCell' = true := by
  intro u hu; simp at hu; subst hu; rfl
theorem own_grown {w w' : World} {base : Nat} {e : TypeId} {size : Nat} {v : Value} {n : Nat} {xs : List Value} {b : Option Nat} (h : w.ownsRow base e size v n xs) (hg : w.grownBy w' b) (hne : ∀ g, v.ownBlock = some g → b ≠ some g) : w'.ownsRow base e size v n xs := by
  refine ⟨h.1, ?_⟩
  rcases h.2 with h0 | ⟨g, cap, cur, h1, h2, h3, h4⟩
  · exact .inl h0
  · have hlt : g < w.heap.size := Bx.lt (cs := cur) (t := e) h3
    exact .inr ⟨g, cap, cur, h1, h2, (hg.block g hlt (fun e => hne g (by rw [h1]; rfl) e.symm)).trans h3, h4⟩
structure Two (w0 w : World) (v1 v2 : Value) (x1 bs : List Int) : Prop where
  o1 : w.ownsRow w0.heap.size 3 1 v1 x1.length (vk .i64 x1)
  o2 : w.ownsRow w0.heap.size 52 1 v2 bs.length (vk .u64 bs)
  ne : ∀ g, v1.ownBlock = some g → v2.ownBlock ≠ some g
  bl : Below w0.heap.size w0 w
section
variable {w0 w w9 : World} {v1 v2 : Value} {x1 bs : List Int}
theorem Two.start (w : World) : Two w w (.slice none 0 0) (.slice none 0 0) [] [] := ⟨World.ownsRow_nil _ _ _ _, World.ownsRow_nil _ _ _ _, fun g h => (by cases h), Below.refl _ _⟩
theorem Two.next (h : Two w0 w v1 v2 x1 bs) (hb : Below w.heap.size w w9) : Two w0 w9 v1 v2 x1 bs := ⟨own_below h.o1 hb, own_below h.o2 hb, h.ne, h.bl.trans (hb.mono h.bl.size)⟩
theorem Two.app1 (h : Two w0 w v1 v2 x1 bs) {x : Int} {o : Obj} {g cap n : Nat} (hn : x1.length = n) (ho : w9.ownsRow w0.heap.size 3 1 (.slice (some ⟨g, 0, none⟩) (n + 1) cap) (n + 1) (vk .i64 x1 ++ [Value.int .i64 x])) (hg : (w.alloc o).grownBy w9 v1.ownBlock) (hat : v1.ownBlock = some g ∨ g = w.heap.size + 1) :
    Two w0 w9 (.slice (some ⟨g, 0, none⟩) (n + 1) cap) v2 (x1 ++ [x]) bs := by
  subst hn
  have ha := h.next (b1 w o)
  have hne2 : ∀ g', v2.ownBlock = some g' → v1.ownBlock ≠ some g' := fun g' h2 h1 => h.ne g' h1 h2
  refine ⟨?_, own_grown ha.o2 hg hne2, ?_, ?_⟩
  · have e : vk .i64 (x1 ++ [x]) = vk .i64 x1 ++ [Value.int .i64 x] := by simp [vk]
    rw [e, List.length_append]
    exact ho
  · intro g' h1 h2
    have e : some g = some g' := h1
    injection e with e
    subst e
    rcases hat with h3 | h3
    · exact h.ne g h3 h2
    · have := (h.o2.lt g h2).2
      omega
  · exact ha.bl.grown hg ha.bl.size (fun q hq => (h.o1.lt q hq).1)
theorem Two.app2 (h : Two w0 w v1 v2 x1 bs) {x : Int} {o : Obj} {g cap n : Nat} (hn : bs.length = n) (ho : w9.ownsRow w0.heap.size 52 1 (.slice (some ⟨g, 0, none⟩) (n + 1) cap) (n + 1) (vk .u64 bs ++ [Value.int .u64 x])) (hg : (w.alloc o).grownBy w9 v2.ownBlock) (hat : v2.ownBlock = some g ∨ g = w.heap.size + 1) :
    Two w0 w9 v1 (.slice (some ⟨g, 0, none⟩) (n + 1) cap) x1 (bs ++ [x]) := by
  subst hn
  have ha := h.next (b1 w o)
  refine ⟨own_grown ha.o1 hg (fun g' h1 h2 => h.ne g' h1 h2), ?_, ?_, ?_⟩
  · have e : vk .u64 (bs ++ [x]) = vk .u64 bs ++ [Value.int .u64 x] := by simp [vk]
    rw [e, List.length_append]
    exact ho
  · intro g' h1 h2
    have e : some g = some g' := h2
    injection e with e
    subst e
    rcases hat with h3 | h3
    · exact h.ne g h1 h3
    · have := (h.o1.lt g h1).2
      omega
  · exact ha.bl.grown hg ha.bl.size (fun q hq => (h.o2.lt q hq).1)
end
/-- block g holds the numbers ys -/
def Wq (k : IntKind) (t : TypeId) (w : World) (g n : Nat) (ys : List Int) : Prop := ∃ cur, Bx w g t cur ∧ ∀ i, i < n → cur[i]? = some (.int k (iat ys i))
section
variable {k : IntKind} {t : TypeId} {w w' : World} {g n : Nat} {ys : List Int}
theorem Wq.lt (h : Wq k t w g n ys) : g < w.heap.size := by obtain ⟨_, hb, _⟩ := h; exact hb.lt
theorem Wq.cell (h : Wq k t w g n ys) {i : Nat} (hi : i < n) : w.cell? ⟨g, i, none⟩ = some (.int k (iat ys i)) := by obtain ⟨_, hb, hc⟩ := h; rw [hb.cell, hc i hi]
theorem Wq.free (h : Wq k t w g n ys) (i : Nat) : w.frozen? ⟨g, i, none⟩ = false := by obtain ⟨_, hb, _⟩ := h; exact hb.free i
theorem Wq.next (h : Wq k t w g n ys) (hb : Below w.heap.size w w') : Wq k t w' g n ys := by obtain ⟨cur, hx, hc⟩ := h; exact ⟨cur, hx.next hb, hc⟩
theorem Wq.far (h : Wq k t w g n ys) {g' : Nat} (hne : g ≠ g') (i : Nat) (u : Value) : Wq k t (w.setCell ⟨g', i, none⟩ u) g n ys := by obtain ⟨cur, hx, hc⟩ := h; exact ⟨cur, hx.far hne i u, hc⟩
theorem Wq.set {p : Nat} {v : Int} (h : Wq k t w g n ys) (hl : ys.length = n) (hp : p < n) : Wq k t (w.setCell ⟨g, p, none⟩ (.int k v)) g n (ys.set p v) := by
  obtain ⟨cur, hx, hc⟩ := h
  refine ⟨_, hx.set p _, fun i hi => ?_⟩
  have hps : p < cur.size := (Array.getElem?_eq_some_iff.1 (hc p hp)).1
  rw [iat_set (by omega)]
  by_cases hi2 : p = i
  · subst hi2
    rw [Array.getElem?_setIfInBounds_self_of_lt hps, if_pos rfl]
  · rw [Array.getElem?_setIfInBounds_ne hi2, if_neg hi2, hc i hi]
theorem Wq.rk (h : Wq k t w g n ys) (hl : ys.length = n) (hn : n ≤ 9223372036854775807) (hw : ∀ i, (Lit.int k (iat ys i)).wf = true) : Rk k w w.heap.size (some ⟨g, 0, none⟩) n ys := ⟨hl, hn, fun _ => ⟨g, 0, rfl, h.lt, fun i hi => by rw [Nat.zero_add]; exact h.cell hi⟩, hw⟩
theorem own_wq {base : Nat} {v : Value} {l : List Int} (h : w.ownsRow base t 1 v l.length (vk k l)) (h0 : 0 < l.length) : ∃ g c, v = .slice (some ⟨g, 0, none⟩) l.length c ∧ base ≤ g ∧ l.length ≤ c ∧ c ≤ 9223372036854775807 ∧ Wq k t w g l.length l := by
  rcases h.2 with ⟨hv, h1⟩ | ⟨g, cap, cur, hv, hb, hg, hcap, hmax, _, _⟩
  · omega
  · refine ⟨g, cap, hv, hb, hcap, by unfold maxLen at hmax; omega, cur, hg, fun i hi => ?_⟩
    have hx : Bx w g t cur := hg
    rw [← hx.cell]
    have := World.ownsRow.cells (g := g) h (by rw [hv]; rfl) i (.int k (iat l i)) (vk_at k l i hi)
    have e : (⟨g, 0, Option.none⟩ : Addr).add i = ⟨g, i, Option.none⟩ := by unfold Addr.add; by_cases h : i = 0 <;> simp [h]
    rw [e] at this
    exact this
end
end Go.Proofs.YtjipcopfggnlkaaDoor.Wk
