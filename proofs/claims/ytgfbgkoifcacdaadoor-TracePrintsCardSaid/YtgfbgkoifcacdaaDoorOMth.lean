/- Plain mathematics of strings: bytes, what a range over a string hands over, lines and fields as they are gathered. No condition. -/
import Derived.Lib.Hide
import Derived.WalkKit
import Derived.Lib.OthersKept
import Derived.Laws.RangeAny
set_option linter.unusedSimpArgs false
set_option linter.unusedVariables false
namespace Go.Proofs.YtgfbgkoifcacdaaDoor.Om
open Go
/-- byte i of a string; 0 behind its end -/
def bt (s : ByteArray) (i : Nat) : Int := if h : i < s.size then ((s[i]'h).toNat : Int) else 0
theorem bt_at {s : ByteArray} {i : Nat} (h : i < s.size) : ((s[i]'h).toNat : Int) = bt s i := by unfold bt; rw [dif_pos h]
theorem bt_in (s : ByteArray) (i : Nat) : 0 ≤ bt s i ∧ bt s i ≤ 255 := by
  unfold bt
  split
  · next h =>
    have := (s[i]'h).toNat_lt
    omega
  · omega
theorem get_bt {s : ByteArray} {i : Nat} (h : i < s.size) : (((s.get! i).toNat : Nat) : Int) = bt s i := by
  have := get_at s i h
  rw [← bt_at h]
  have h2 : s.get! i = s[i]'h := this
  rw [h2]
/-- how far a rune reaches: every byte behind its first one is no ASCII byte -/
theorem dec_step (s : ByteArray) (pos : Nat) (h : pos < s.size) : 1 ≤ (Utf8.decode s pos).2 ∧ pos + (Utf8.decode s pos).2 ≤ s.size ∧ ∀ j, pos < j → j < pos + (Utf8.decode s pos).2 → 128 ≤ bt s j := by
  have key : ∀ k, pos + k < s.size → (s.get! (pos + k)).toNat / 64 = 2 → 128 ≤ bt s (pos + k) := by
    intro k hk h2
    have := get_bt hk
    omega
  unfold Utf8.decode
  simp only
  split
  · exact ⟨by simp, by simp; omega, fun j h1 h2 => by simp at h2; omega⟩
  · split
    · next hc =>
      simp only [Bool.and_eq_true, decide_eq_true_eq, beq_iff_eq] at hc
      split
      · refine ⟨by simp, by simp only; omega, fun j h1 h2 => ?_⟩
        simp only at h2
        obtain rfl : j = pos + 1 := by omega
        exact key 1 hc.2.1 hc.2.2
      · exact ⟨by simp, by simp only; omega, fun j h1 h2 => by simp only at h2; omega⟩
    · split
      · next hc =>
        simp only [Bool.and_eq_true, decide_eq_true_eq, beq_iff_eq] at hc
        split
        · refine ⟨by simp, by simp only; omega, fun j h1 h2 => ?_⟩
          simp only at h2
          rcases (by omega : j = pos + 1 ∨ j = pos + 2) with rfl | rfl
          · exact key 1 hc.1.2.1 hc.1.2.2
          · exact key 2 hc.2.1 hc.2.2
        · exact ⟨by simp, by simp only; omega, fun j h1 h2 => by simp only at h2; omega⟩
      · split
        · next hc =>
          simp only [Bool.and_eq_true, decide_eq_true_eq, beq_iff_eq] at hc
          split
          · refine ⟨by simp, by simp only; omega, fun j h1 h2 => ?_⟩
            simp only at h2
            rcases (by omega : j = pos + 1 ∨ j = pos + 2 ∨ j = pos + 3) with rfl | rfl | rfl
            · exact key 1 hc.1.1.2.1 hc.1.1.2.2
            · exact key 2 hc.1.2.1 hc.1.2.2
            · exact key 3 hc.2.1 hc.2.2
          · exact ⟨by simp, by simp only; omega, fun j h1 h2 => by simp only at h2; omega⟩
        · exact ⟨by simp, by simp only; omega, fun j h1 h2 => by simp only at h2; omega⟩
/-- the range at an ASCII byte -/
theorem next_ascii {P : Program} (w : World) (k : Nat) (s : ByteArray) (pos : Nat) (hk : w.heap[k]? = some (.stringIter s pos)) (h : pos < s.size) (hd : bt s pos < 128) (ty : TypeId) :
    (Instr.next (.pointer (some ⟨k, 0, none⟩)) true ty).run P w = .ok (.tuple #[.bool true, .int .i64 pos, .int .i32 (bt s pos)]) (w.iterAt k s (pos + 1)) := by
  have e := bt_at h
  rw [Lib.run_next_ascii_at w k s pos ty hk h (by omega), ← e]
/-- .. at another byte: a rune from 128 on, over bytes from 128 on -/
theorem next_high {P : Program} (w : World) (k : Nat) (s : ByteArray) (pos : Nat) (hk : w.heap[k]? = some (.stringIter s pos)) (h : pos < s.size) (hd : 128 ≤ bt s pos) :
    ∃ (c : Int) (p : Nat), 128 ≤ c ∧ c ≤ 2147483647 ∧ pos < p ∧ p ≤ s.size ∧ (∀ j, pos ≤ j → j < p → 128 ≤ bt s j) ∧ ∀ ty, (Instr.next (.pointer (some ⟨k, 0, none⟩)) true ty).run P w = .ok (.tuple #[.bool true, .int .i64 pos, .int .i32 c]) (w.iterAt k s p) := by
  obtain ⟨d1, d2, d3⟩ := dec_step s pos h
  have e := bt_at h
  refine ⟨((Utf8.decode s pos).1 : Int), pos + (Utf8.decode s pos).2, ?_, ?_, by omega, d2, fun j h1 h2 => ?_, fun ty => Lib.run_next_any_at w k s pos ty hk h⟩
  · have := (decode_high s pos h (by omega)).1
    omega
  · have := decode_le s pos
    omega
  · rcases Nat.eq_or_lt_of_le h1 with h3 | h3
    · subst h3; exact hd
    · exact d3 j h3 h2
/-- pieces between bytes c, behind i bytes: where the next one begins, and those that are ended -/
def frm (s : ByteArray) (c : Int) : Nat → Nat
  | 0 => 0
  | i + 1 => if bt s i = c then i + 1 else frm s c i
def pcs (s : ByteArray) (c : Int) : Nat → List ByteArray
  | 0 => []
  | i + 1 => if bt s i = c then pcs s c i ++ [s.extract (frm s c i) i] else pcs s c i
theorem frm_le (s : ByteArray) (c : Int) : ∀ i, frm s c i ≤ i := by
  intro i
  induction i with
  | zero => exact Nat.le_refl _
  | succ i ih => unfold frm; split <;> omega
theorem frm_yes {s : ByteArray} {c : Int} {i : Nat} (h : bt s i = c) : frm s c (i + 1) = i + 1 := if_pos h
theorem frm_no {s : ByteArray} {c : Int} {i : Nat} (h : bt s i ≠ c) : frm s c (i + 1) = frm s c i := if_neg h
theorem pcs_yes {s : ByteArray} {c : Int} {i : Nat} (h : bt s i = c) : pcs s c (i + 1) = pcs s c i ++ [s.extract (frm s c i) i] := if_pos h
theorem pcs_no {s : ByteArray} {c : Int} {i : Nat} (h : bt s i ≠ c) : pcs s c (i + 1) = pcs s c i := if_neg h
theorem pcs_len (s : ByteArray) (c : Int) : ∀ i, (pcs s c i).length ≤ i := by
  intro i
  induction i with
  | zero => exact Nat.le_refl _
  | succ i ih =>
    unfold pcs
    split
    · rw [List.length_append]; simp; omega
    · omega
/-- over bytes that are not c nothing is ended -/
theorem run_no {s : ByteArray} {c : Int} {p q : Nat} (hpq : p ≤ q) (h : ∀ j, p ≤ j → j < q → bt s j ≠ c) : frm s c q = frm s c p ∧ pcs s c q = pcs s c p := by
  obtain ⟨d, rfl⟩ : ∃ d, q = p + d := ⟨q - p, by omega⟩
  induction d with
  | zero => exact ⟨rfl, rfl⟩
  | succ d ih =>
    obtain ⟨h1, h2⟩ := ih (by omega) (fun j a b => h j a (by omega))
    have h3 := h (p + d) (by omega) (by omega)
    rw [← Nat.add_assoc, frm_no h3, pcs_no h3]
    exact ⟨h1, h2⟩
end Go.Proofs.YtgfbgkoifcacdaaDoor.Om
