/- A slice of intervals that reads as a list; whether an interval is valid; whether a second is in the set; whether two lists are equal. Conditions: the slices read as lists. -/
import Derived.Test.YtmdkhnndfhcfdaaBase
import Derived.Handy
import Derived.StillTailTactics
set_option linter.unusedSimpArgs false
set_option linter.unusedVariables false
namespace Go.Proofs.Ytmdkhnndfhcfdaa.Mt
def okB (a b : Int) : Bool := decide (Ok (a, b))
theorem okB_no {a b : Int} (h : ¬ Ok (a, b)) : okB a b = false := decide_eq_false h
theorem okB_yes {a b : Int} (h : Ok (a, b)) : okB a b = true := decide_eq_true h
def hsk (l : List Iv) (t : Int) : Nat → Bool
  | 0 => false
  | k + 1 => hsk l t k || (okB (vat l k).1 (vat l k).2 && decide ((vat l k).1 ≤ t) && decide (t < (vat l k).2))
def hsB (l : List Iv) (t : Int) : Bool := hsk l t l.length
theorem hsk_yes {l : List Iv} {t : Int} {k : Nat} (h1 : okB (vat l k).1 (vat l k).2 = true) (h2 : (vat l k).1 ≤ t) (h3 : t < (vat l k).2) : ∀ d, hsk l t (k + 1 + d) = true := by
  intro d
  induction d with
  | zero => simp [hsk, h1, h2, h3]
  | succ d ih => rw [← Nat.add_assoc, hsk, ih]; rfl
theorem hsk_no {l : List Iv} {t : Int} {k : Nat} (h : hsk l t k = false) (h2 : ¬ (okB (vat l k).1 (vat l k).2 = true ∧ (vat l k).1 ≤ t ∧ t < (vat l k).2)) : hsk l t (k + 1) = false := by
  rw [hsk, h]
  simp only [Bool.false_or]
  by_cases a : okB (vat l k).1 (vat l k).2 = true
  · by_cases b : (vat l k).1 ≤ t
    · by_cases c : t < (vat l k).2
      · exact absurd ⟨a, b, c⟩ h2
      · simp [c]
    · simp [b]
  · simp [a]
theorem vat_mem {l : List Iv} {i : Nat} (h : i < l.length) : vat l i ∈ l := by
  unfold vat
  rw [List.getD_eq_getElem?_getD, List.getElem?_eq_getElem h]
  exact List.getElem_mem h
theorem mem_vat {l : List Iv} {v : Iv} (h : v ∈ l) : ∃ i, i < l.length ∧ vat l i = v := by
  obtain ⟨i, hi, e⟩ := List.getElem_of_mem h
  refine ⟨i, hi, ?_⟩
  unfold vat
  rw [List.getD_eq_getElem?_getD, List.getElem?_eq_getElem hi]
  exact e
theorem hsk_iff (l : List Iv) (t : Int) : ∀ k, hsk l t k = true ↔ ∃ i, i < k ∧ Ok (vat l i) ∧ (vat l i).1 ≤ t ∧ t < (vat l i).2 := by
  intro k
  induction k with
  | zero => simp [hsk]
  | succ k ih =>
    rw [hsk, Bool.or_eq_true, ih]
    constructor
    · rintro (⟨i, hi, h⟩ | h)
      · exact ⟨i, by omega, h⟩
      · simp only [Bool.and_eq_true, decide_eq_true_eq, okB] at h
        exact ⟨k, by omega, h.1.1, h.1.2, h.2⟩
    · rintro ⟨i, hi, h1, h2, h3⟩
      rcases Nat.lt_or_ge i k with h | h
      · exact .inl ⟨i, h, h1, h2, h3⟩
      · obtain rfl : i = k := by omega
        exact .inr (by simp only [Bool.and_eq_true, decide_eq_true_eq, okB]; exact ⟨⟨h1, h2⟩, h3⟩)
theorem hsB_iff (l : List Iv) (t : Int) : hsB l t = true ↔ Hs l t := by
  unfold hsB
  rw [hsk_iff]
  constructor
  · rintro ⟨i, hi, h⟩; exact ⟨vat l i, vat_mem hi, h⟩
  · rintro ⟨v, hv, h⟩
    obtain ⟨i, hi, rfl⟩ := mem_vat hv
    exact ⟨i, hi, h⟩
end Go.Proofs.Ytmdkhnndfhcfdaa.Mt
namespace Go.Proofs.Ytmdkhnndfhcfdaa.Wk
open Go.RowKit
open Go.Proofs.Ytmdkhnndfhcfdaa.Mt
def In64 (a : Int) : Prop := -9223372036854775808 ≤ a ∧ a ≤ 9223372036854775807
/-- a slice value of n intervals reads as the list l -/
def Rp (w : World) (B : Nat) (A : Option Addr) (n : Nat) (l : List Iv) : Prop :=
  l.length = n ∧ n ≤ 9223372036854775807 ∧ (0 < n → ∃ b off, A = some ⟨b, off, none⟩ ∧ b < B ∧ ∀ i, i < n → w.cell? ⟨b, off + i * 2, none⟩ = some (.int .i64 (vat l i).1) ∧ w.cell? ⟨b, off + i * 2 + 1, none⟩ = some (.int .i64 (vat l i).2)) ∧ ∀ i, In64 (vat l i).1 ∧ In64 (vat l i).2
theorem Rp.below {w w' : World} {B B' : Nat} {A : Option Addr} {n : Nat} {l : List Iv} (h : Rp w B A n l) (hb : Below B' w w') (hB : B ≤ B') : Rp w' B A n l := by
  refine ⟨h.1, h.2.1, fun hn => ?_, h.2.2.2⟩
  obtain ⟨b, off, e, hlt, hc⟩ := h.2.2.1 hn
  refine ⟨b, off, e, hlt, fun i hi => ?_⟩
  obtain ⟨h1, h2⟩ := hc i hi
  exact ⟨(hb.cell (p := ⟨b, _, none⟩) (by show b < B'; omega)).trans h1, (hb.cell (p := ⟨b, _, none⟩) (by show b < B'; omega)).trans h2⟩
theorem Rp.wide {w : World} {B B' : Nat} {A : Option Addr} {n : Nat} {l : List Iv} (h : Rp w B A n l) (hB : B ≤ B') : Rp w B' A n l :=
  ⟨h.1, h.2.1, fun h0 => by obtain ⟨b, off, e, hlt, hc⟩ := h.2.2.1 h0; exact ⟨b, off, e, by omega, hc⟩, h.2.2.2⟩
theorem Rp.up {w w' : World} {A : Option Addr} {n : Nat} {l : List Iv} (h : Rp w w.heap.size A n l) (hb : Below w.heap.size w w') : Rp w' w'.heap.size A n l := (h.below hb (Nat.le_refl _)).wide hb.size
theorem Rp.get {w : World} {B : Nat} {A : Option Addr} {n : Nat} {l : List Iv} (h : Rp w B A n l) {i : Nat} (hi : i < n) : ∃ b off, A = some ⟨b, off, none⟩ ∧ b < B ∧ w.cell? ⟨b, off + i * 2, none⟩ = some (.int .i64 (vat l i).1) ∧ w.cell? ⟨b, off + i * 2 + 1, none⟩ = some (.int .i64 (vat l i).2) := by
  obtain ⟨b, off, e, hb, hc⟩ := h.2.2.1 (by omega)
  exact ⟨b, off, e, hb, hc i hi⟩
theorem valid10 (a b : Int) (w : World) : Calls Try.prog 10 #[.agg #[.int .i64 a, .int .i64 b]] w fun e w' => e = .returned (.bool (okB a b)) ∧ Below w.heap.size w w' := by
  by_cases h1 : 0 ≤ a
  · by_cases h2 : a < b
    · by_cases h3 : b ≤ 68719476736
      · have HE := Lib.hid (okB_yes (a := a) (b := b) ⟨h1, h2, h3⟩)
        go_enter Try.func10, Try.ntmps10
        go_wp2_with fail
        go_ret
        exact ⟨by rw [HE.out]; rfl, b1 _ _⟩
      · have h3' : decide (b ≤ 68719476736) = false := decide_eq_false h3
        have HE := Lib.hid (okB_no (a := a) (b := b) (fun h => h3 h.2.2))
        go_enter Try.func10, Try.ntmps10
        go_wp2_with fail
        go_ret
        exact ⟨by rw [HE.out]; rfl, b1 _ _⟩
    · have h2' : decide (a < b) = false := decide_eq_false h2
      have HE := Lib.hid (okB_no (a := a) (b := b) (fun h => h2 h.2.1))
      go_enter Try.func10, Try.ntmps10
      go_wp2_with fail
      go_ret
      exact ⟨by rw [HE.out]; rfl, b1 _ _⟩
  · have h1' : decide (0 ≤ a) = false := decide_eq_false h1
    have HE := Lib.hid (okB_no (a := a) (b := b) (fun h => h1 h.1))
    go_enter Try.func10, Try.ntmps10
    go_wp2_with fail
    go_ret
    exact ⟨by rw [HE.out]; rfl, b1 _ _⟩
theorem valid11 (a b : Int) (w : World) : Calls Try.prog 11 #[.agg #[.int .i64 a, .int .i64 b]] w fun e w' => e = .returned (.bool (okB a b)) ∧ Below w.heap.size w w' := by
  by_cases h1 : 0 ≤ a
  · by_cases h2 : a < b
    · by_cases h3 : b ≤ 68719476736
      · have HE := Lib.hid (okB_yes (a := a) (b := b) ⟨h1, h2, h3⟩)
        go_enter Try.func11, Try.ntmps11
        go_wp2_with fail
        go_ret
        exact ⟨by rw [HE.out]; rfl, b1 _ _⟩
      · have h3' : decide (b ≤ 68719476736) = false := decide_eq_false h3
        have HE := Lib.hid (okB_no (a := a) (b := b) (fun h => h3 h.2.2))
        go_enter Try.func11, Try.ntmps11
        go_wp2_with fail
        go_ret
        exact ⟨by rw [HE.out]; rfl, b1 _ _⟩
    · have h2' : decide (a < b) = false := decide_eq_false h2
      have HE := Lib.hid (okB_no (a := a) (b := b) (fun h => h2 h.2.1))
      go_enter Try.func11, Try.ntmps11
      go_wp2_with fail
      go_ret
      exact ⟨by rw [HE.out]; rfl, b1 _ _⟩
  · have h1' : decide (0 ≤ a) = false := decide_eq_false h1
    have HE := Lib.hid (okB_no (a := a) (b := b) (fun h => h1 h.1))
    go_enter Try.func11, Try.ntmps11
    go_wp2_with fail
    go_ret
    exact ⟨by rw [HE.out]; rfl, b1 _ _⟩
end Go.Proofs.Ytmdkhnndfhcfdaa.Wk
