/- Names, both sides. No condition. -/
import Derived.Test.YtniefocnfcaebaaProg
import Derived.Below
import Derived.BigQuiet
import Derived.Deep.AppendLies
import Derived.Deep.Onto
import Derived.Deep.QuietTactic
import Derived.Deep.RegionHeld3
import Derived.Handy
import Derived.IntWalk
import Derived.Laws.AppendOwn
import Derived.Laws.Bits64
import Derived.Laws.OwnMore
import Derived.Laws.RangeAny
import Derived.Laws.Rows
import Derived.Lib.Hide
import Derived.Lib.OthersKept
import Derived.LoopTactic
import Derived.Outline
import Derived.OwnWalk
import Derived.WalkKit
import Derived.WalkSmall
set_option linter.unusedSimpArgs false
set_option linter.unusedVariables false
set_option linter.unusedSimpArgs false
set_option linter.unusedVariables false
namespace Go.Proofs.Ytniefocnfcaebaa.Nm
open Go
def bt (s : ByteArray) (i : Nat) : Int := if h : i < s.size then ((s[i]'h).toNat : Int) else 0
theorem bt_at {s : ByteArray} {i : Nat} (h : i < s.size) : ((s[i]'h).toNat : Int) = bt s i := by unfold bt; rw [dif_pos h]
theorem get_bt {s : ByteArray} {i : Nat} (h : i < s.size) : (((s.get! i).toNat : Nat) : Int) = bt s i := by
  have := get_at s i h
  rw [← bt_at h]
  have h2 : s.get! i = s[i]'h := this
  rw [h2]
theorem dec_step (s : ByteArray) (pos : Nat) (h : pos < s.size) : 1 ≤ (Utf8.decode s pos).2 ∧ pos + (Utf8.decode s pos).2 ≤ s.size ∧ ∀ j, pos < j → j < pos + (Utf8.decode s pos).2 → 128 ≤ bt s j := by
  have key : ∀ k, pos + k < s.size → (s.get! (pos + k)).toNat / 64 = 2 → 128 ≤ bt s (pos + k) := by
    intro k hk h2
    have := get_bt hk
    omega
  unfold Utf8.decode
  simp only
  split
  · exact ⟨by simp, by simp; omega, fun j h1 h2 => by simp at h2; omega⟩
  · split
    · next hc =>
      simp only [Bool.and_eq_true, decide_eq_true_eq, beq_iff_eq] at hc
      split
      · refine ⟨by simp, by simp only; omega, fun j h1 h2 => ?_⟩
        simp only at h2
        obtain rfl : j = pos + 1 := by omega
        exact key 1 hc.2.1 hc.2.2
      · exact ⟨by simp, by simp only; omega, fun j h1 h2 => by simp only at h2; omega⟩
    · split
      · next hc =>
        simp only [Bool.and_eq_true, decide_eq_true_eq, beq_iff_eq] at hc
        split
        · refine ⟨by simp, by simp only; omega, fun j h1 h2 => ?_⟩
          simp only at h2
          rcases (by omega : j = pos + 1 ∨ j = pos + 2) with rfl | rfl
          · exact key 1 hc.1.2.1 hc.1.2.2
          · exact key 2 hc.2.1 hc.2.2
        · exact ⟨by simp, by simp only; omega, fun j h1 h2 => by simp only at h2; omega⟩
      · split
        · next hc =>
          simp only [Bool.and_eq_true, decide_eq_true_eq, beq_iff_eq] at hc
          split
          · refine ⟨by simp, by simp only; omega, fun j h1 h2 => ?_⟩
            simp only at h2
            rcases (by omega : j = pos + 1 ∨ j = pos + 2 ∨ j = pos + 3) with rfl | rfl | rfl
            · exact key 1 hc.1.1.2.1 hc.1.1.2.2
            · exact key 2 hc.1.2.1 hc.1.2.2
            · exact key 3 hc.2.1 hc.2.2
          · exact ⟨by simp, by simp only; omega, fun j h1 h2 => by simp only at h2; omega⟩
        · exact ⟨by simp, by simp only; omega, fun j h1 h2 => by simp only at h2; omega⟩
theorem next_ascii {P : Program} (w : World) (k : Nat) (s : ByteArray) (pos : Nat) (hk : w.heap[k]? = some (.stringIter s pos)) (h : pos < s.size) (hd : bt s pos < 128) (ty : TypeId) :
    (Instr.next (.pointer (some ⟨k, 0, none⟩)) true ty).run P w = .ok (.tuple #[.bool true, .int .i64 pos, .int .i32 (bt s pos)]) (w.iterAt k s (pos + 1)) := by
  have e := bt_at h
  rw [Lib.run_next_ascii_at w k s pos ty hk h (by omega), ← e]
theorem next_high {P : Program} (w : World) (k : Nat) (s : ByteArray) (pos : Nat) (hk : w.heap[k]? = some (.stringIter s pos)) (h : pos < s.size) (hd : 128 ≤ bt s pos) :
    ∃ (c : Int) (p : Nat), 128 ≤ c ∧ c ≤ 2147483647 ∧ pos < p ∧ p ≤ s.size ∧ (∀ j, pos ≤ j → j < p → 128 ≤ bt s j) ∧ ∀ ty, (Instr.next (.pointer (some ⟨k, 0, none⟩)) true ty).run P w = .ok (.tuple #[.bool true, .int .i64 pos, .int .i32 c]) (w.iterAt k s p) := by
  obtain ⟨d1, d2, d3⟩ := dec_step s pos h
  have e := bt_at h
  refine ⟨((Utf8.decode s pos).1 : Int), pos + (Utf8.decode s pos).2, ?_, ?_, by omega, d2, fun j h1 h2 => ?_, fun ty => Lib.run_next_any_at w k s pos ty hk h⟩
  · have := (decode_high s pos h (by omega)).1
    omega
  · have := decode_le s pos
    omega
  · rcases Nat.eq_or_lt_of_le h1 with h3 | h3
    · subst h3; exact hd
    · exact d3 j h3 h2
end Go.Proofs.Ytniefocnfcaebaa.Nm
set_option linter.unusedSimpArgs false
set_option linter.unusedVariables false
namespace Go.Proofs.Ytniefocnfcaebaa.Nm
def iat (l : List Int) (i : Nat) : Int := l.getD i 0
end Go.Proofs.Ytniefocnfcaebaa.Nm
namespace Go.Proofs.Ytniefocnfcaebaa.Nw
open Go.RowKit
open Go.Proofs.Ytniefocnfcaebaa.Nm
theorem b1 (w : World) (o1 : Obj) : Below w.heap.size w (w.alloc o1) := (Below.refl _ _).alloc (Nat.le_refl _) _
def Bx (w : World) (g : Nat) (t : TypeId) (cs : Array Value) : Prop := w.heap[g]? = some (.cells cs t (0, 0))
theorem Bx.lt {w : World} {g : Nat} {t : TypeId} {cs : Array Value} (h : Bx w g t cs) : g < w.heap.size := by
  rcases Nat.lt_or_ge g w.heap.size with hlt | hge
  · exact hlt
  · unfold Bx at h; rw [Array.getElem?_eq_none hge] at h; cases h
theorem Bx.next {w w' : World} {g : Nat} {t : TypeId} {cs : Array Value} (h : Bx w g t cs) (hb : Below w.heap.size w w') : Bx w' g t cs := (hb.block g h.lt).trans h
theorem Bx.cell {w : World} {g : Nat} {t : TypeId} {cs : Array Value} (h : Bx w g t cs) (i : Nat) : w.cell? ⟨g, i, none⟩ = cs[i]? := cell_of_row w g i cs t (0, 0) h
theorem Bx.alloc {w : World} {g : Nat} {t : TypeId} {cs : Array Value} (h : Bx w g t cs) (o : Obj) : Bx (w.alloc o) g t cs := h.next (b1 _ _)
def Rk (k : IntKind) (w : World) (B : Nat) (A : Option Addr) (n : Nat) (zs : List Int) : Prop :=
  zs.length = n ∧ n ≤ 9223372036854775807 ∧ (0 < n → ∃ b off, A = some ⟨b, off, none⟩ ∧ b < B ∧ ∀ i, i < n → w.cell? ⟨b, off + i, none⟩ = some (.int k (iat zs i))) ∧ ∀ i, (Lit.int k (iat zs i)).wf = true
section
variable {k : IntKind} {w w' : World} {B B' : Nat} {A : Option Addr} {n : Nat} {zs : List Int}
theorem Rk.get (h : Rk k w B A n zs) {i : Nat} (hi : i < n) : ∃ b off, A = some ⟨b, off, none⟩ ∧ b < B ∧ w.cell? ⟨b, off + i, none⟩ = some (.int k (iat zs i)) := by
  obtain ⟨b, off, e, hb, hc⟩ := h.2.2.1 (by omega)
  exact ⟨b, off, e, hb, hc i hi⟩
end
def vk (k : IntKind) (l : List Int) : List Value := l.map (Value.int k)
theorem vk_at (k : IntKind) (l : List Int) (i : Nat) (h : i < l.length) : (vk k l)[i]? = some (.int k (iat l i)) := by simp [vk, iat, h]
theorem Bx.kcell {k : IntKind} {w : World} {g : Nat} {t : TypeId} {l : List Int} (h : Bx w g t (vk k l).toArray) {i : Nat} (hi : i < l.length) : w.cell? ⟨g, i, none⟩ = some (.int k (iat l i)) := by
  rw [h.cell]; simpa using vk_at k l i hi
theorem Rk.block {k : IntKind} {w : World} {g : Nat} {t : TypeId} {zs : List Int} (h : Bx w g t (vk k zs).toArray) (hl : zs.length ≤ 9223372036854775807) (hw : ∀ i, (Lit.int k (iat zs i)).wf = true) : Rk k w w.heap.size (some ⟨g, 0, none⟩) zs.length zs :=
  ⟨rfl, hl, fun _ => ⟨g, 0, rfl, h.lt, fun i hi => by rw [Nat.zero_add]; exact h.kcell hi⟩, hw⟩
end Go.Proofs.Ytniefocnfcaebaa.Nw
set_option linter.unusedSimpArgs false
set_option linter.unusedVariables false
namespace Go.Proofs.Ytniefocnfcaebaa.Nm
open Go
def sat (l : List ByteArray) (i : Nat) : ByteArray := l.getD i ⟨#[]⟩
def vst (l : List ByteArray) : List Go.Value := l.map Go.Value.string
theorem vst_at (l : List ByteArray) (i : Nat) (h : i < l.length) : (vst l)[i]? = some (.string (sat l i)) := by simp [vst, sat, h]
end Go.Proofs.Ytniefocnfcaebaa.Nm
namespace Go.Proofs.Ytniefocnfcaebaa.Nw
open Go.RowKit
open Go.Proofs.Ytniefocnfcaebaa.Nm
def Rs (w : World) (B : Nat) (A : Option Addr) (n : Nat) (l : List ByteArray) : Prop :=
  l.length = n ∧ n ≤ 9223372036854775807 ∧ (0 < n → ∃ b off, A = some ⟨b, off, none⟩ ∧ b < B ∧ ∀ i, i < n → w.cell? ⟨b, off + i, none⟩ = some (.string (sat l i)))
def Os (base : Nat) (w : World) (v : Value) (l : List ByteArray) : Prop := w.ownsRow base 9 1 v l.length (vst l)
theorem Os.nil (base : Nat) (w : World) : Os base w (.slice none 0 0) [] := World.ownsRow_nil _ _ _ _
theorem Os.keep {base : Nat} {w w' : World} {v : Value} {l : List ByteArray} (h : Os base w v l) (hk : ∀ k, base ≤ k → k < w.heap.size → w'.heap[k]? = w.heap[k]?) : Os base w' v l := by
  refine ⟨h.1, ?_⟩
  rcases h.2 with h0 | ⟨g, cap, cur, h1, h2, h3, h4⟩
  · exact .inl h0
  · have hlt : g < w.heap.size := (Array.getElem?_eq_some_iff.1 h3).1
    exact .inr ⟨g, cap, cur, h1, h2, (hk g h2 hlt).trans h3, h4⟩
theorem Os.iterAt {base k pos : Nat} {w : World} {v : Value} {l : List ByteArray} {s : ByteArray} (h : Os base w v l) (hk : k < base) : Os base (w.iterAt k s pos) v l :=
  h.keep (fun j hj _ => Lib.iterAt_other w k j s pos (by omega))
theorem Os.out {base : Nat} {w : World} {v : Value} {l : List ByteArray} (h : Os base w v l) (hl : l.length ≤ 9223372036854775807) : ∃ A c, v = .slice A l.length c ∧ l.length ≤ c ∧ Rs w w.heap.size A l.length l := by
  rcases Nat.eq_zero_or_pos l.length with h0 | h0
  · rcases h.2 with ⟨e, _⟩ | ⟨g, cap, cur, e, _⟩
    · exact ⟨none, 0, by rw [h0]; exact e, by omega, rfl, hl, fun h => by omega⟩
    · exact ⟨_, cap, e, by omega, rfl, hl, fun h => by omega⟩
  · rcases h.2 with ⟨_, h2⟩ | ⟨g, cap, cur, e, hb, hg, hc, hm, hs, ht⟩
    · omega
    · refine ⟨_, cap, e, hc, rfl, hl, fun _ => ⟨g, 0, rfl, (Array.getElem?_eq_some_iff.1 hg).1, fun i hi => ?_⟩⟩
      have h1 := vst_at l i hi
      rw [← ht, List.getElem?_take, if_pos (by omega)] at h1
      have c1 := cell_of_row w g i cur 9 (0, 0) hg
      rw [← Array.getElem?_toList] at c1
      rw [Nat.zero_add]
      exact c1.trans h1
end Go.Proofs.Ytniefocnfcaebaa.Nw
set_option linter.unusedSimpArgs false
set_option linter.unusedVariables false
namespace Go.Proofs.Ytniefocnfcaebaa.Nm
open Go
def Okn (i : Nat) (x : Int) : Prop := (97 ≤ x ∧ x ≤ 122) ∨ (i ≠ 0 ∧ ((48 ≤ x ∧ x ≤ 57) ∨ x = 45))
def Nmp (s : ByteArray) : Prop := 1 ≤ s.size ∧ s.size ≤ 12 ∧ ∀ i, i < s.size → Okn i (bt s i)
noncomputable def nmB (s : ByteArray) : Bool := by
  classical
  exact decide (Nmp s)
theorem nmB_yes {s : ByteArray} (h : Nmp s) : nmB s = true := by unfold nmB; exact @decide_eq_true _ (Classical.propDecidable _) h
theorem nmB_no {s : ByteArray} (h : ¬ Nmp s) : nmB s = false := by unfold nmB; exact @decide_eq_false _ (Classical.propDecidable _) h
theorem seven (x : Int) : x < 45 ∨ x = 45 ∨ (45 < x ∧ x < 48) ∨ (48 ≤ x ∧ x ≤ 57) ∨ (57 < x ∧ x < 97) ∨ (97 ≤ x ∧ x ≤ 122) ∨ 122 < x := by omega
end Go.Proofs.Ytniefocnfcaebaa.Nm
namespace Go.Proofs.Ytniefocnfcaebaa.Nw
open Go.RowKit
open Go.Proofs.Ytniefocnfcaebaa.Nm
set_option maxHeartbeats 4000000 in
set_option maxRecDepth 100000 in
theorem name14 (s : ByteArray) (w : World) : Calls Try.prog 32 #[.string s] w fun e w' => e = .returned (.bool (nmB s)) ∧ Below w.heap.size w w' := by
  obtain ⟨n, hn⟩ : ∃ n, s.size = n := ⟨_, rfl⟩
  have HN := Lib.hid hn
  have hsz : ((s.size : Nat) : Int) = (n : Int) := by omega
  by_cases h0 : n = 0
  · have he : s = { data := #[] } := by
      apply ByteArray.ext
      exact Array.eq_empty_of_size_eq_zero (show s.size = 0 by omega)
    have HE := Lib.hid (nmB_no (s := s) (fun h => by have := h.1; omega))
    have e0b : s.toList = [] := by rw [he, ByteArray.toList_eq]
    have e0 : s.toList.isEmpty = true := by rw [e0b]; rfl
    clear he hn h0
    go_enter Try.func32, Try.ntmps32
    go_wp2_with fail
    go_ret
    exact ⟨by rw [HE.out]; rfl, Below.refl _ _⟩
  · have e0b : ¬ s.toList = [] := by
      intro h
      have h2 := congrArg List.length h
      rw [ByteArray.toList_eq, Array.length_toList] at h2
      have h3 : s.size = 0 := h2
      omega
    have e0 : s.toList.isEmpty = false := by
      cases h : s.toList with
      | nil => exact absurd h e0b
      | cons => rfl
    by_cases h12 : 12 < n
    · have q1 : (12 : Int) < (n : Int) := by omega
      have HE := Lib.hid (nmB_no (s := s) (fun h => by have := h.2.1; omega))
      clear hn
      go_enter Try.func32, Try.ntmps32
      go_wp2_with fail
      go_ret
      exact ⟨by rw [HE.out]; rfl, Below.refl _ _⟩
    · have q1 : decide ((12 : Int) < (n : Int)) = false := decide_eq_false (by omega)
      clear hn
      go_enter Try.func32, Try.ntmps32
      go_wp2_with fail
      clear e0 e0b q1
      go_loopw [3] (fun _ wr => ∃ pos : Nat, pos ≤ n ∧ (∀ i, i < pos → Okn i (bt s i)) ∧ wr.heap[w.heap.size]? = some (.stringIter s pos) ∧ Hid (Below w.heap.size w wr)) (fun _ wr => n - wr.iterPos w.heap.size)
      case atStart => exact ⟨0, Nat.zero_le _, fun i hi => by omega, World.iter_heap w s 0, Lib.hid (b1 _ _)⟩
      case round =>
        obtain ⟨pos, hpos, hD, hit, HB⟩ := hrel
        have HD := Lib.hid hD
        clear hD
        have hgl : w.heap.size < wr.heap.size := (Array.getElem?_eq_some_iff.1 hit).1
        by_cases hlt : pos < n
        · have hlt2 : Hid (pos < s.size) := Lib.hid (by rw [HN.out]; exact hlt)
          have HNX : Hid (Okn pos (bt s pos) → ∀ i, i < pos + 1 → Okn i (bt s i)) := Lib.hid (fun h i hi => by
            rcases Nat.lt_or_ge i pos with h1 | h1
            · exact HD.out i h1
            · obtain rfl : i = pos := by omega
              exact h)
          have HNO : Hid (¬ Okn pos (bt s pos) → nmB s = false) := Lib.hid (fun h => nmB_no (fun h2 => h (h2.2.2 pos hlt2.out)))
          by_cases h128 : bt s pos < 128
          · have hnx : ∀ ty, (Instr.next (.pointer (some ⟨w.heap.size, 0, none⟩)) true ty).run Try.prog wr = _ := fun ty => next_ascii wr w.heap.size s pos hit hlt2.out h128 ty
            have hit2 := Lib.iterAt_heap wr w.heap.size s pos (pos + 1) hit
            have HB2 := Lib.hid (Lib.below_iterAt HB.out (k := w.heap.size) (Nat.le_refl _) s (pos + 1))
            obtain ⟨x, hx⟩ : ∃ x, bt s pos = x := ⟨_, rfl⟩
            rw [hx] at hnx HNX HNO
            clear hx h128
            rcases seven x with hx | hx | hx | hx | hx | hx | hx
            · have HE := Lib.hid (HNO.out (fun h => by unfold Okn at h; omega))
              have d1 : decide (97 ≤ x) = false := decide_eq_false (by omega)
              have d2 : x ≤ 122 := by omega
              have d3 : decide (48 ≤ x) = false := decide_eq_false (by omega)
              have d4 : x ≤ 57 := by omega
              have d5 : (x == 45) = false := by simp; omega
              by_cases hp0 : pos = 0
              · have e0 : ((pos : Int) == 0) = true := by simp [hp0]
                clear hp0 hx
                go_wp2_with fail
                go_ret
                exact ⟨by rw [HE.out]; rfl, HB2.out⟩
              · have e0 : ((pos : Int) == 0) = false := by simp; omega
                clear hp0 hx
                go_wp2_with fail
                go_ret
                exact ⟨by rw [HE.out]; rfl, HB2.out⟩
            · by_cases hp0 : pos = 0
              · have HE := Lib.hid (HNO.out (fun h => by unfold Okn at h; omega))
                have e0 : ((pos : Int) == 0) = true := by simp [hp0]
                have d1 : decide (97 ≤ x) = false := decide_eq_false (by omega)
                have d2 : x ≤ 122 := by omega
                have d3 : decide (48 ≤ x) = false := decide_eq_false (by omega)
                have d4 : x ≤ 57 := by omega
                have d5 : (x == 45) = true := by simp; omega
                clear hp0 hx
                go_wp2_with fail
                go_ret
                exact ⟨by rw [HE.out]; rfl, HB2.out⟩
              · have HD2 := Lib.hid (HNX.out (.inr ⟨hp0, .inr hx⟩))
                have e0 : ((pos : Int) == 0) = false := by simp; omega
                have d1 : decide (97 ≤ x) = false := decide_eq_false (by omega)
                have d2 : x ≤ 122 := by omega
                have d3 : decide (48 ≤ x) = false := decide_eq_false (by omega)
                have d4 : x ≤ 57 := by omega
                have d5 : (x == 45) = true := by simp; omega
                clear hp0 hx
                go_wp2_with fail
                go_roundw
                case rel => exact ⟨pos + 1, by omega, HD2.out, hit2, HB2⟩
                case measure =>
                  simp only [World.iterPos, hit2, hit]
                  omega
            · have HE := Lib.hid (HNO.out (fun h => by unfold Okn at h; omega))
              have d1 : decide (97 ≤ x) = false := decide_eq_false (by omega)
              have d2 : x ≤ 122 := by omega
              have d3 : decide (48 ≤ x) = false := decide_eq_false (by omega)
              have d4 : x ≤ 57 := by omega
              have d5 : (x == 45) = false := by simp; omega
              by_cases hp0 : pos = 0
              · have e0 : ((pos : Int) == 0) = true := by simp [hp0]
                clear hp0 hx
                go_wp2_with fail
                go_ret
                exact ⟨by rw [HE.out]; rfl, HB2.out⟩
              · have e0 : ((pos : Int) == 0) = false := by simp; omega
                clear hp0 hx
                go_wp2_with fail
                go_ret
                exact ⟨by rw [HE.out]; rfl, HB2.out⟩
            · by_cases hp0 : pos = 0
              · have HE := Lib.hid (HNO.out (fun h => by unfold Okn at h; omega))
                have e0 : ((pos : Int) == 0) = true := by simp [hp0]
                have d1 : decide (97 ≤ x) = false := decide_eq_false (by omega)
                have d2 : x ≤ 122 := by omega
                have d3 : 48 ≤ x := by omega
                have d4 : x ≤ 57 := by omega
                have d5 : (x == 45) = false := by simp; omega
                clear hp0 hx
                go_wp2_with fail
                go_ret
                exact ⟨by rw [HE.out]; rfl, HB2.out⟩
              · have HD2 := Lib.hid (HNX.out (.inr ⟨hp0, .inl hx⟩))
                have e0 : ((pos : Int) == 0) = false := by simp; omega
                have d1 : decide (97 ≤ x) = false := decide_eq_false (by omega)
                have d2 : x ≤ 122 := by omega
                have d3 : 48 ≤ x := by omega
                have d4 : x ≤ 57 := by omega
                have d5 : (x == 45) = false := by simp; omega
                clear hp0 hx
                go_wp2_with fail
                go_roundw
                case rel => exact ⟨pos + 1, by omega, HD2.out, hit2, HB2⟩
                case measure =>
                  simp only [World.iterPos, hit2, hit]
                  omega
            · have HE := Lib.hid (HNO.out (fun h => by unfold Okn at h; omega))
              have d1 : decide (97 ≤ x) = false := decide_eq_false (by omega)
              have d2 : x ≤ 122 := by omega
              have d3 : 48 ≤ x := by omega
              have d4 : decide (x ≤ 57) = false := decide_eq_false (by omega)
              have d5 : (x == 45) = false := by simp; omega
              by_cases hp0 : pos = 0
              · have e0 : ((pos : Int) == 0) = true := by simp [hp0]
                clear hp0 hx
                go_wp2_with fail
                go_ret
                exact ⟨by rw [HE.out]; rfl, HB2.out⟩
              · have e0 : ((pos : Int) == 0) = false := by simp; omega
                clear hp0 hx
                go_wp2_with fail
                go_ret
                exact ⟨by rw [HE.out]; rfl, HB2.out⟩
            · have HD2 := Lib.hid (HNX.out (.inl hx))
              have d1 : 97 ≤ x := by omega
              have d2 : x ≤ 122 := by omega
              have d3 : 48 ≤ x := by omega
              have d4 : decide (x ≤ 57) = false := decide_eq_false (by omega)
              have d5 : (x == 45) = false := by simp; omega
              go_wp2_with fail
              go_roundw
              case rel => exact ⟨pos + 1, by omega, HD2.out, hit2, HB2⟩
              case measure =>
                simp only [World.iterPos, hit2, hit]
                omega
            · have HE := Lib.hid (HNO.out (fun h => by unfold Okn at h; omega))
              have d1 : 97 ≤ x := by omega
              have d2 : decide (x ≤ 122) = false := decide_eq_false (by omega)
              have d3 : 48 ≤ x := by omega
              have d4 : decide (x ≤ 57) = false := decide_eq_false (by omega)
              have d5 : (x == 45) = false := by simp; omega
              by_cases hp0 : pos = 0
              · have e0 : ((pos : Int) == 0) = true := by simp [hp0]
                clear hp0 hx
                go_wp2_with fail
                go_ret
                exact ⟨by rw [HE.out]; rfl, HB2.out⟩
              · have e0 : ((pos : Int) == 0) = false := by simp; omega
                clear hp0 hx
                go_wp2_with fail
                go_ret
                exact ⟨by rw [HE.out]; rfl, HB2.out⟩
          · obtain ⟨x, p, hc1, hc2, hp1, hp2, hp3, hnx⟩ := next_high (P := Try.prog) wr w.heap.size s pos hit hlt2.out (by omega)
            have HE := Lib.hid (HNO.out (fun h => by unfold Okn at h; omega))
            have HB2 := Lib.hid (Lib.below_iterAt HB.out (k := w.heap.size) (Nat.le_refl _) s p)
            have d1 : 97 ≤ x := by omega
            have d2 : decide (x ≤ 122) = false := decide_eq_false (by omega)
            have d3 : 48 ≤ x := by omega
            have d4 : decide (x ≤ 57) = false := decide_eq_false (by omega)
            have d5 : (x == 45) = false := by simp; omega
            clear h128 hp3
            by_cases hp0 : pos = 0
            · have e0 : ((pos : Int) == 0) = true := by simp [hp0]
              clear hp0
              go_wp2_with fail
              go_ret
              exact ⟨by rw [HE.out]; rfl, HB2.out⟩
            · have e0 : ((pos : Int) == 0) = false := by simp; omega
              clear hp0
              go_wp2_with fail
              go_ret
              exact ⟨by rw [HE.out]; rfl, HB2.out⟩
        · have hnx : ∀ ty, (Instr.next (.pointer (some ⟨w.heap.size, 0, none⟩)) true ty).run Try.prog wr = _ := fun ty => Lib.run_next_end_at wr w.heap.size s pos ty hit (by rw [HN.out]; exact hlt)
          have hp : pos = n := by omega
          have HE := Lib.hid (nmB_yes (s := s) ⟨by rw [HN.out]; omega, by rw [HN.out]; omega, fun i hi => HD.out i (by rw [HN.out] at hi; omega)⟩)
          go_wp2_with fail
          go_ret
          exact ⟨by rw [HE.out]; rfl, HB.out⟩
end Go.Proofs.Ytniefocnfcaebaa.Nw
