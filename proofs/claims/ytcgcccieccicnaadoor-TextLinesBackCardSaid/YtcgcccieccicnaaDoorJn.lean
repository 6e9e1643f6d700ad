/- Join, in the layer and in its reference. Conditions: the slice reads as the list; what is joined has at most a million bytes. -/
import Derived.Test.YtcgcccieccicnaaDoorRw
import Derived.Test.YtcgcccieccicnaaDoorLaid
set_option linter.unusedSimpArgs false
set_option linter.unusedVariables false
namespace Go.Proofs.YtcgcccieccicnaaDoor.Mt
open Go
/-- the first k strings, joined with blanks -/
def js (l : List ByteArray) : Nat → ByteArray
  | 0 => ⟨#[]⟩
  | k + 1 => (if 0 < k then js l k ++ ⟨#[32]⟩ else js l k) ++ sat l k
theorem js_zero (l : List ByteArray) : js l 0 = ⟨#[]⟩ := rfl
theorem js_one (l : List ByteArray) : js l 1 = sat l 0 := by
  show (if 0 < 0 then _ else (⟨#[]⟩ : ByteArray)) ++ sat l 0 = _
  rw [if_neg (by decide)]
  exact ByteArray.empty_append
theorem js_next (l : List ByteArray) {k : Nat} (h : 0 < k) : js l (k + 1) = js l k ++ ⟨#[32]⟩ ++ sat l k := by
  show (if 0 < k then _ else _) ++ _ = _
  rw [if_pos h]
theorem js_step (l : List ByteArray) (k : Nat) : (js l k).size + (if k = 0 then 0 else 1) ≤ (js l (k + 1)).size := by
  rcases k with _ | k
  · have h0 : (js l 0).size = 0 := rfl
    rw [if_pos rfl, h0]
    exact Nat.zero_le _
  · have e := congrArg ByteArray.size (js_next l (k := k + 1) (by omega))
    rw [ByteArray.size_append, ByteArray.size_append] at e
    have h1 : (ByteArray.mk #[32]).size = 1 := rfl
    rw [if_neg (by omega)]
    omega
theorem js_mono (l : List ByteArray) {k j : Nat} (h : k ≤ j) : (js l k).size ≤ (js l j).size := by
  obtain ⟨d, rfl⟩ : ∃ d, j = k + d := ⟨j - k, by omega⟩
  induction d with
  | zero => exact Nat.le_refl _
  | succ d ih =>
    have h1 := ih (by omega)
    have h2 := js_step l (k + d)
    rw [Nat.add_assoc] at h2
    exact Nat.le_trans h1 (Nat.le_trans (Nat.le_add_right _ _) h2)
theorem js_many (l : List ByteArray) : ∀ k, k ≤ (js l k).size + 1 := by
  intro k
  induction k with
  | zero => omega
  | succ k ih =>
    have h2 := js_step l k
    split at h2
    · subst k; omega
    · omega
theorem ba_app (a b : ByteArray) : a ++ b = ⟨(a.data.toList ++ b.data.toList).toArray⟩ := by
  apply ByteArray.ext
  rw [ByteArray.data_append]
  simp
theorem js_join (l : List ByteArray) : ∀ k, k ≤ l.length → js l k = ⟨(Lib.join ((l.take k).map (·.data.toList)) [32]).toArray⟩ := by
  intro k
  induction k with
  | zero => intro _; simp [js_zero, Lib.join_nil]
  | succ k ih =>
    intro hk
    have h1 := ih (by omega)
    have ht : l.take (k + 1) = l.take k ++ [sat l k] := by
      rw [List.take_add_one]
      simp [sat, show k < l.length by omega]
    rw [ht, List.map_append]
    rcases Nat.eq_zero_or_pos k with h0 | h0
    · subst h0
      rw [js_one]
      simp [Lib.join_one]
    · rw [js_next l h0, h1]
      match hx : l.take k with
      | [] =>
        have := congrArg List.length hx
        rw [List.length_take, List.length_nil] at this
        omega
      | a :: r =>
        rw [List.map_cons, List.cons_append, Lib.join_cons, Lib.join_cons]
        rw [ba_app, ba_app]
        simp [Lib.joinTail]
end Go.Proofs.YtcgcccieccicnaaDoor.Mt
namespace Go.Proofs.YtcgcccieccicnaaDoor.Wk
open Go.RowKit
open Go.Proofs.YtcgcccieccicnaaDoor.Mt
theorem join37 (A : Option Addr) (n c : Nat) (l : List ByteArray) (w : World) (h : Rs w w.heap.size A n l) (hc : n ≤ c) (hs : (js l n).size ≤ 1000000) : Calls Tryd.prog 37 #[.slice A n c, .string ⟨#[32]⟩] w fun e w' => e = .returned (.string (js l n)) ∧ Below w.heap.size w w' := by
  rcases Nat.eq_zero_or_pos n with h0 | h0
  · subst h0
    exact (Any.strings_Join_none Tryd.laysJoin Tryd.joinExtra A c ⟨#[32]⟩ w).mono fun e w' ⟨he, hw⟩ => ⟨he, hw ▸ Below.refl _ _⟩
  · obtain ⟨b, off, rfl, hb, hcell⟩ := h.2.2 h0
    have hl := h.1
    have hj := js_join l n (by omega)
    rw [List.take_of_length_le (show l.length ≤ n by omega)] at hj
    have hm := js_many l n
    subst hl
    have hsz : (Lib.join (l.map (·.data.toList)) [32]).length = (js l l.length).size := by rw [hj]; simp [ByteArray.size]
    refine (Any.strings_Join Tryd.laysJoin Tryd.joinExtra b off c l ⟨#[32]⟩ w (fun j x hx => ?_) hb (by omega) hc ?_).mono fun e w' ⟨he, hw⟩ => ⟨?_, hw⟩
    · have hjl := (List.getElem?_eq_some_iff.1 hx).1
      rw [hcell j hjl]
      have : sat l j = x := by unfold sat; rw [List.getD_eq_getElem?_getD, hx]; rfl
      rw [this]
    · show (Lib.join (l.map (·.data.toList)) [32]).length ≤ _
      rw [hsz]; omega
    · rw [he, hj]
theorem join29 (A : Option Addr) (n c : Nat) (l : List ByteArray) (w : World) (h : Rs w w.heap.size A n l) (hc : n ≤ c) (hs : (js l n).size ≤ 1000000) : Calls Tryd.prog 29 #[.slice A n c] w fun e w' => e = .returned (.string (js l n)) ∧ Below w.heap.size w w' := by
  go_enter Tryd.func29, Tryd.ntmps29
  go_wp2_with fail
  go_at_call 37
  refine (join37 A n c l w h hc hs).mono ?_
  rintro e w1 ⟨rfl, q1⟩
  have Q1 := Lib.hid q1
  clear q1
  go_wp2_with fail
  go_ret
  exact ⟨rfl, Q1.out⟩
theorem join30 (A : Option Addr) (n c : Nat) (l : List ByteArray) (w : World) (h : Rs w w.heap.size A n l) (hs : (js l n).size ≤ 1000000) : Calls Tryd.prog 30 #[.slice A n c] w fun e w' => e = .returned (.string (js l n)) ∧ Below w.heap.size w w' := by
  have H := Lib.hid h
  have HS := Lib.hid hs
  clear h hs
  go_enter Tryd.func30, Tryd.ntmps30
  go_wp2_with fail
  go_loopw [3, 4] (fun sv iv wr => ∃ (k : Nat) (u : ByteArray), k ≤ n ∧ iv = .int .i64 k ∧ sv = .string u ∧ Hid (u = js l k) ∧ Hid (Below w.heap.size w wr)) (fun _ iv _ => n - (intOf iv).toNat)
  case atStart => exact ⟨0, ⟨#[]⟩, Nat.zero_le _, rfl, rfl, Lib.hid rfl, Lib.hid (Below.refl _ _)⟩
  case round =>
    obtain ⟨k, u, hk, rfl, rfl, HU, HB⟩ := hrel
    have hus : u.size ≤ 1000000 := by rw [HU.out]; exact Nat.le_trans (js_mono l hk) HS.out
    by_cases hlt : k < n
    · have hltI : (k : Int) < (n : Int) := by omega
      obtain ⟨b, off, rfl, hb, hcell⟩ := (H.out.up HB.out).2.2 (by omega)
      have hn := H.out.2.1
      have d := hcell k hlt
      clear hcell
      obtain ⟨x, hx⟩ : ∃ x, sat l k = x := ⟨_, rfl⟩
      rw [hx] at d
      have hxs : x.size ≤ 1000000 := by
        have h1 := js_mono l (show k + 1 ≤ n by omega)
        have h2 := HS.out
        have h3 : (js l (k + 1)).size = (if 0 < k then js l k ++ ⟨#[32]⟩ else js l k).size + (sat l k).size := ByteArray.size_append
        rw [hx] at h3
        omega
      have h32 : (ByteArray.mk #[32]).size = 1 := rfl
      have W1 : IntKind.i64.wrap ((k : Int) + 1) = (k : Int) + 1 := IntWalk.i64_in _ (by omega)
      by_cases h0 : 0 < k
      · have h0I : (0 : Int) < (k : Int) := by omega
        obtain ⟨v, hv⟩ : ∃ v, u ++ (⟨#[32]⟩ : ByteArray) = v := ⟨_, rfl⟩
        have hvs : v.size ≤ 1000001 := by rw [← hv, ByteArray.size_append]; omega
        have HV : Hid (v ++ x = js l (k + 1)) := Lib.hid (by rw [← hv, HU.out, js_next l h0, hx])
        clear hx
        go_wp2_with fail
        go_roundw
        case rel => exact ⟨k + 1, v ++ x, by omega, by go_num, rfl, HV, HB⟩
        case measure => simp [intOf]; omega
      · have h0I : ¬ (0 : Int) < (k : Int) := by omega
        obtain rfl : k = 0 := by omega
        have HV : Hid (u ++ x = js l 1) := Lib.hid (by rw [HU.out, js_one, js_zero, hx]; exact ByteArray.empty_append)
        clear hx
        rw [Nat.add_zero] at d
        go_wp2_with fail
        go_roundw
        case rel => exact ⟨1, u ++ x, by omega, by first | rfl | go_num, rfl, HV, HB⟩
        case measure => simp [intOf]; omega
    · have hltI : ¬ (k : Int) < (n : Int) := by omega
      obtain rfl : k = n := by omega
      go_wp2_with fail
      go_ret
      exact ⟨by rw [← HU.out]; rfl, HB.out⟩
end Go.Proofs.YtcgcccieccicnaaDoor.Wk
