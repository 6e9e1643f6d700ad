/- Lists of numbers in blocks; same; the counts by periods. Conditions: the slices read as lists. -/
import Derived.Test.YtcobolmagjlbeaaNxr
import Derived.OwnWalk
import Derived.Laws.MakeOwn
namespace Go.Proofs.Ytcobolmagjlbeaa.Mt
/-- one time counted -/
def cstep (p from_ : Int) (L : List Int) (t : Int) : List Int :=
  if t < from_ then L else if (L.length : Int) ≤ (t - from_) / p then L else L.set ((t - from_) / p).toNat (at_ L ((t - from_) / p).toNat + 1)
/-- the first k times counted -/
def cn (p from_ : Int) (n : Nat) (ts : List Int) : Nat → List Int
  | 0 => List.replicate n 0
  | k + 1 => cstep p from_ (cn p from_ n ts k) (at_ ts k)
theorem cstep_len (p f : Int) (L : List Int) (t : Int) : (cstep p f L t).length = L.length := by
  unfold cstep
  split
  · rfl
  · split <;> simp
theorem cn_len (p f : Int) (n : Nat) (ts : List Int) (k : Nat) : (cn p f n ts k).length = n := by
  induction k with
  | zero => simp [cn]
  | succ k ih => rw [cn, cstep_len, ih]
theorem at_set (L : List Int) (j i : Nat) (v : Int) : at_ (L.set j v) i = if j = i ∧ i < L.length then v else at_ L i := by
  unfold at_
  by_cases h : j = i <;> by_cases h2 : i < L.length <;> simp [h, h2]
theorem cn_bound (p f : Int) (n : Nat) (ts : List Int) (k : Nat) : ∀ i, 0 ≤ at_ (cn p f n ts k) i ∧ at_ (cn p f n ts k) i ≤ k := by
  induction k with
  | zero =>
    intro i
    have : at_ (cn p f n ts 0) i = 0 := by
      unfold at_ cn
      by_cases hi : i < n <;> simp [hi]
    rw [this]; omega
  | succ k ih =>
    intro i
    rw [cn]
    have h0 := ih i
    unfold cstep
    split
    · omega
    · split
      · omega
      · rw [at_set]
        have h1 := ih ((at_ ts k - f) / p).toNat
        split <;> omega
theorem cn_low {p f : Int} {n : Nat} {ts : List Int} {k : Nat} (h : at_ ts k < f) : cn p f n ts (k + 1) = cn p f n ts k := by rw [cn, cstep, if_pos h]
theorem cn_high {p f : Int} {n : Nat} {ts : List Int} {k : Nat} (h : ¬ at_ ts k < f) (h2 : (n : Int) ≤ (at_ ts k - f) / p) : cn p f n ts (k + 1) = cn p f n ts k := by
  rw [cn, cstep, if_neg h, if_pos (by rw [cn_len]; exact h2)]
theorem cn_hit {p f : Int} {n : Nat} {ts : List Int} {k q : Nat} (h : ¬ at_ ts k < f) (h2 : (at_ ts k - f) / p = q) (h3 : q < n) : cn p f n ts (k + 1) = (cn p f n ts k).set q (at_ (cn p f n ts k) q + 1) := by
  rw [cn, cstep, if_neg h, if_neg (by rw [cn_len, h2]; omega), h2]; rfl
end Go.Proofs.Ytcobolmagjlbeaa.Mt
namespace Go.Proofs.Ytcobolmagjlbeaa.Wk
open Go.RowKit
open Go.Proofs.Ytcobolmagjlbeaa.Mt
def ints (l : List Int) : List Value := l.map (Value.int .i64)
theorem ints_at (l : List Int) (i : Nat) (h : i < l.length) : (ints l)[i]? = some (.int .i64 (at_ l i)) := by
  simp [ints, at_, h]
theorem Bx.bcell {w : World} {g : Nat} {t : TypeId} {l : List Int} (h : Bx w g t (ints l).toArray) {i : Nat} (hi : i < l.length) : w.cell? ⟨g, i, none⟩ = some (.int .i64 (at_ l i)) := by
  rw [h.cell]; simpa using ints_at l i hi
theorem Bx.free {w : World} {g : Nat} {t : TypeId} {cs : Array Value} (h : Bx w g t cs) (i : Nat) : w.frozen? ⟨g, i, none⟩ = false := frozen_of_row w g i cs t h
theorem Bx.far {w : World} {g g' : Nat} {t : TypeId} {cs : Array Value} (h : Bx w g t cs) (hne : g ≠ g') (i : Nat) (u : Value) : Bx (w.setCell ⟨g', i, none⟩ u) g t cs := (heap_setCell_other w _ g u hne).trans h
theorem Bx.put {w : World} {g : Nat} {t : TypeId} {l : List Int} (h : Bx w g t (ints l).toArray) (i : Nat) (v : Int) : Bx (w.setCell ⟨g, i, none⟩ (.int .i64 v)) g t (ints (l.set i v)).toArray := by
  have h1 := heap_setCell_same w g i _ t (.int .i64 v) h
  unfold Bx
  rw [h1]
  simp [ints, List.map_set]
theorem Bx.old {w : World} {g : Nat} {t : TypeId} {cs : Array Value} (h : Bx w g t cs) (o : Obj) : Bx (w.alloc o) g t cs := (heap_alloc_old w o h.lt).trans h
theorem Ri.of_block {w : World} {g B : Nat} {t : TypeId} {zs : List Int} (h : Bx w g t (ints zs).toArray) (hB : g < B) (hl : zs.length ≤ 9223372036854775807) : Ri w B (some ⟨g, 0, none⟩) zs.length zs := by
  refine ⟨rfl, hl, fun _ => ⟨g, 0, rfl, hB, fun i hi => ?_⟩⟩
  rw [Nat.zero_add]
  exact h.bcell hi
theorem info3 : (Try.prog.info? 3).map (fun i => (i.zero, i.size, i.bytes)) = some (some (.int .i64 0), 1, 8) := by kernel_rfl
theorem make_ints (w : World) (n : Nat) (h : n ≤ 1048576) : (Instr.makeSlice 22 (.int .i64 (n : Int)) (.int .i64 (n : Int))).run Try.prog w = .ok (.slice (some ⟨w.heap.size, 0, none⟩) n n) (w.alloc (.cells (ints (List.replicate n 0)).toArray 3)) := by
  obtain ⟨i, hi, hz, hs, hb⟩ := info_parts info3
  rw [run_make w 22 3 i _ Try.underlying22 hi hz .i64 .i64 n n (by omega) (Int.le_refl _) (by rw [hb]; omega) (by omega)]
  have e : madeCells (Value.int .i64 0).cells ((n : Int).toNat * i.size) = (ints (List.replicate n 0)).toArray := by
    rw [hs]
    apply Array.ext
    · simp [madeCells, ints]
    · intro j h1 h2
      simp [madeCells, ints, Value.cells, Nat.mod_one]
  rw [e]; simp
theorem same_any (A A' : Option Addr) (n c c' : Nat) (zs : List Int) (w : World) (h1 : Ri w w.heap.size A n zs) (h2 : Ri w w.heap.size A' n zs) :
    Calls Try.prog 18 #[.slice A n c, .slice A' n c'] w fun e w' => e = .returned (.bool true) ∧ Below w.heap.size w w' := by
  have hn := h1.2.1
  have H1 := Lib.hid h1
  have H2 := Lib.hid h2
  have e1 : ((n : Int) == (n : Int)) = true := by simp
  have e2 : ((n : Int) != (n : Int)) = false := by simp
  clear h1 h2
  go_enter Try.func18, Try.ntmps18
  go_wp2_with fail
  clear e1 e2
  go_loopw [13] (fun i wr => ∃ k : Nat, k ≤ n ∧ i = .int .i64 k ∧ Below w.heap.size w wr) (fun i _ => n - (intOf i).toNat)
  case atStart => exact ⟨0, Nat.zero_le _, rfl, Below.refl _ _⟩
  case round =>
    obtain ⟨k, hk, rfl, hb⟩ := hrel
    by_cases hlt : k < n
    · obtain ⟨b1, o1, rfl, _, d1⟩ := (H1.out.up hb).get hlt
      obtain ⟨b2, o2, rfl, _, d2⟩ := (H2.out.up hb).get hlt
      have hltI : (k : Int) < (n : Int) := by omega
      have e1 : (at_ zs k == at_ zs k) = true := by simp
      have e2 : (at_ zs k != at_ zs k) = false := by simp
      go_wp2_with fail
      go_quiet (fail)
      go_wp2_with fail
      go_roundw
      case rel => exact ⟨k + 1, by omega, by go_num, below_drewN hb _⟩
      case measure => simp [intOf]; omega
    · go_wp2_with fail
      go_ret
      exact ⟨rfl, hb⟩

set_option maxHeartbeats 4000000 in
set_option maxRecDepth 100000 in
theorem count_any (p : Int) (A1 A2 A3 : Option Addr) (n1 n2 n3 c1 c2 c3 : Nat) (A : Option Addr) (m c : Nat) (ts : List Int) (from_ : Int) (n : Nat) (w : World) (ht : Ri w w.heap.size A m ts) (hR : ∀ i, at_ ts i ≤ 9223372036854775807) (hp : 1 ≤ p) (hf : 0 ≤ from_) (hn : n ≤ 1024) :
    Calls Try.prog 27 #[.agg #[.int .i64 p, .slice A1 n1 c1, .slice A2 n2 c2, .slice A3 n3 c3], .slice A m c, .int .i64 from_, .int .i64 (n : Int)] w fun e w' => (∃ g, e = .returned (.slice (some ⟨g, 0, none⟩) n n) ∧ Bx w' g 3 (ints (cn p from_ n ts m)).toArray) ∧ Below w.heap.size w w' := by
  have hmm := ht.2.1
  have hA0 := b1 w (.cells #[.int .i64 p, .slice A1 n1 c1, .slice A2 n2 c2, .slice A3 n3 c3] 24)
  have HT := Lib.hid ht
  have HR := Lib.hid hR
  have hmk := fun w' => make_ints w' n (by omega)
  clear ht hR
  go_enter Try.func27, Try.ntmps27
  go_wp2_with fail
  clear hmk
  go_loopw [17] (fun i wr => ∃ k : Nat, k ≤ m ∧ i = .int .i64 k ∧ Below w.heap.size w wr ∧ Hid (Bx wr w.heap.size 24 #[.int .i64 p, .slice A1 n1 c1, .slice A2 n2 c2, .slice A3 n3 c3]) ∧ Hid (Bx wr (w.heap.size + 1) 3 (ints (cn p from_ n ts k)).toArray)) (fun i _ => m - (intOf i).toNat)
  case atStart => exact ⟨0, Nat.zero_le _, rfl, hA0.alloc (by simp) _, Lib.hid ((Bx.new w 24 #[.int .i64 p, .slice A1 n1 c1, .slice A2 n2 c2, .slice A3 n3 c3]).old _), Lib.hid (by have := Bx.new (w.alloc (.cells #[.int .i64 p, .slice A1 n1 c1, .slice A2 n2 c2, .slice A3 n3 c3] 24)) 3 (ints (List.replicate n 0)).toArray; simpa [cn] using this)⟩
  case round =>
    obtain ⟨k, hk, rfl, hb, HB, HC⟩ := hrel
    by_cases hlt : k < m
    · obtain ⟨bb, off, rfl, _, d1⟩ := (HT.out.below hb (Nat.le_refl _)).get hlt
      have hltI : (k : Int) < (m : Int) := by omega
      by_cases q1 : at_ ts k < from_
      · have HE := Lib.hid (cn_low (p := p) (n := n) q1)
        go_wp2_with fail
        go_roundw
        case rel => exact ⟨k + 1, by omega, by go_num, hb, HB, by rw [HE.out]; exact HC⟩
        case measure => simp [intOf]; omega
      · have q1' : decide (at_ ts k < from_) = false := decide_eq_false q1
        have hx := HR.out k
        obtain ⟨b0, b1', b2, b3⟩ := HB.out.cells4
        have hdv : 0 ≤ (at_ ts k - from_) / p := Int.ediv_nonneg (by omega) (by omega)
        by_cases q2 : (n : Int) ≤ (at_ ts k - from_) / p
        · have HE := Lib.hid (cn_high (p := p) (n := n) q1 q2)
          have q2' : decide ((at_ ts k - from_) / p < (n : Int)) = false := decide_eq_false (by omega)
          go_wp2_with fail
          go_roundw
          case rel => exact ⟨k + 1, by omega, by go_num, hb, HB, by rw [HE.out]; exact HC⟩
          case measure => simp [intOf]; omega
        · obtain ⟨q, hq⟩ : ∃ q : Nat, (at_ ts k - from_) / p = (q : Int) := ⟨((at_ ts k - from_) / p).toNat, by omega⟩
          have hqn : q < n := by omega
          have HE := Lib.hid (cn_hit (p := p) q1 hq hqn)
          have hqI : (q : Int) < (n : Int) := by omega
          have hcl := HC.out.bcell (i := q) (by rw [cn_len]; exact hqn)
          have hfr := HC.out.free q
          have hbd := cn_bound p from_ n ts k q
          have HS := Lib.hid (HC.out.put q (at_ (cn p from_ n ts k) q + 1))
          have HS2 := Lib.hid (HB.out.far (g' := w.heap.size + 1) (by omega) q (.int .i64 (at_ (cn p from_ n ts k) q + 1)))
          have HS3 := Lib.hid (hb.setCell (p := ⟨w.heap.size + 1, q, none⟩) (by show w.heap.size ≤ w.heap.size + 1; omega) (.int .i64 (at_ (cn p from_ n ts k) q + 1)))
          clear hdv q2
          go_wp2_with fail
          go_roundw
          case rel => exact ⟨k + 1, by omega, by go_num, HS3.out, HS2, by rw [HE.out]; exact HS⟩
          case measure => simp [intOf]; omega
    · have hkm : k = m := by omega
      subst hkm
      go_wp2_with fail
      go_ret
      exact ⟨⟨_, rfl, HC.out⟩, hb⟩
end Go.Proofs.Ytcobolmagjlbeaa.Wk
