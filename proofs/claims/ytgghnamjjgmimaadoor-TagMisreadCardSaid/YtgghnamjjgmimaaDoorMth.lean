/- Plain mathematics of transponder numbers: bytes, digits, the weighted sum. No condition. -/
import Derived.Lib.Hide
import Derived.WalkKit
import Derived.Lib.OthersKept
import Derived.Laws.RangeAny
set_option linter.unusedSimpArgs false
set_option linter.unusedVariables false
namespace Go.Proofs.YtgghnamjjgmimaaDoor.Mt
open Go
/-- byte i of a string; 0 behind its end -/
def bt (s : ByteArray) (i : Nat) : Int := if h : i < s.size then ((s[i]'h).toNat : Int) else 0
theorem bt_at {s : ByteArray} {i : Nat} (h : i < s.size) : ((s[i]'h).toNat : Int) = bt s i := by unfold bt; rw [dif_pos h]
theorem bt_in (s : ByteArray) (i : Nat) : 0 ≤ bt s i ∧ bt s i ≤ 255 := by
  unfold bt
  split
  · next h =>
    have := (s[i]'h).toNat_lt
    omega
  · omega
def Dg (b : Int) : Prop := 48 ≤ b ∧ b ≤ 57
instance (b : Int) : Decidable (Dg b) := by unfold Dg; infer_instance
def lu (i : Nat) (d : Int) : Int := if i % 2 = 1 then d else if 4 < d then 2 * d - 9 else 2 * d
theorem lu_in {i : Nat} {d : Int} (h : 0 ≤ d ∧ d ≤ 9) : 0 ≤ lu i d ∧ lu i d ≤ 9 := by
  unfold lu
  split
  · omega
  · split <;> omega
def sm (s : ByteArray) : Nat → Int
  | 0 => 0
  | k + 1 => sm s k + lu k (bt s k - 48)
def Dgs (s : ByteArray) (k : Nat) : Prop := ∀ i, i < k → Dg (bt s i)
instance (s : ByteArray) (k : Nat) : Decidable (Dgs s k) := by unfold Dgs; infer_instance
theorem Dgs.next {s : ByteArray} {k : Nat} (h : Dgs s k) (hd : Dg (bt s k)) : Dgs s (k + 1) := fun i hi => by
  rcases Nat.lt_or_ge i k with h1 | h1
  · exact h i h1
  · obtain rfl : i = k := by omega
    exact hd
theorem sm_in {s : ByteArray} : ∀ {k : Nat}, Dgs s k → 0 ≤ sm s k ∧ sm s k ≤ 9 * (k : Int) := by
  intro k
  induction k with
  | zero => intro _; simp [sm]
  | succ k ih =>
    intro h
    have h1 := ih (fun i hi => h i (by omega))
    have h2 := h k (by omega)
    unfold Dg at h2
    have h3 := lu_in (i := k) (d := bt s k - 48) (by omega)
    rw [sm]
    omega
/-- a transponder number -/
def Tg (s : ByteArray) : Prop := s.size = 12 ∧ Dgs s 12 ∧ sm s 12 % 10 = 0
instance (s : ByteArray) : Decidable (Tg s) := by unfold Tg; infer_instance
def ck (s : ByteArray) : Int := if Tg s then 0 else 18
theorem ck_yes {s : ByteArray} (h : Tg s) : ck s = 0 := if_pos h
theorem ck_no {s : ByteArray} (h : ¬ Tg s) : ck s = 18 := if_neg h
/-- the reference's sum: -1 where a byte is no digit -/
def smB (s : ByteArray) : Int := if Dgs s s.size then sm s s.size else -1
theorem mod10 {x : Int} (h : 0 ≤ x) : Int.tmod x 10 = x % 10 := Int.tmod_eq_emod_of_nonneg h
/-- what the range over a string hands over at a digit -/
theorem next_digit {P : Program} (w : World) (k : Nat) (s : ByteArray) (pos : Nat) (hk : w.heap[k]? = some (.stringIter s pos)) (h : pos < s.size) (hd : Dg (bt s pos)) (ty : TypeId) :
    (Instr.next (.pointer (some ⟨k, 0, none⟩)) true ty).run P w = .ok (.tuple #[.bool true, .int .i64 pos, .int .i32 (bt s pos)]) (w.iterAt k s (pos + 1)) := by
  have e := bt_at h
  unfold Dg at hd
  rw [Lib.run_next_ascii_at w k s pos ty hk h (by omega), ← e]
/-- .. at a byte that is no digit: a rune that is none -/
theorem next_other {P : Program} (w : World) (k : Nat) (s : ByteArray) (pos : Nat) (hk : w.heap[k]? = some (.stringIter s pos)) (h : pos < s.size) (hd : ¬ Dg (bt s pos)) :
    ∃ (c : Int) (p : Nat), ¬ Dg c ∧ 0 ≤ c ∧ c ≤ 2147483647 ∧ ∀ ty, (Instr.next (.pointer (some ⟨k, 0, none⟩)) true ty).run P w = .ok (.tuple #[.bool true, .int .i64 pos, .int .i32 c]) (w.iterAt k s p) := by
  refine ⟨((Utf8.decode s pos).1 : Int), pos + (Utf8.decode s pos).2, ?_, by omega, ?_, fun ty => Lib.run_next_any_at w k s pos ty hk h⟩
  · have e := bt_at h
    by_cases ha : (s[pos]'h).toNat < 128
    · rw [decode_ascii s pos h ha]
      simp only
      rw [e]; exact hd
    · have := (decode_high s pos h (by omega)).1
      unfold Dg
      omega
  · have := decode_le s pos
    omega
end Go.Proofs.YtgghnamjjgmimaaDoor.Mt
