/- Parse in the layer, walked. Conditions: the string has at most 1000000 bytes. -/
import Derived.Test.YtjipcopfggnlkaaDoorPm
set_option linter.unusedSimpArgs false
set_option linter.unusedVariables false
namespace Go.Proofs.YtjipcopfggnlkaaDoor.Wk
open Go.RowKit
open Go.Proofs.YtjipcopfggnlkaaDoor.Mt
theorem str_size (s : ByteArray) : s.size = s.data.toList.length := by simp
set_option maxHeartbeats 1000000 in
theorem digits50 (s : ByteArray) (w : World) (hs : s.size ≤ 1000000) : Calls Tryd.prog 50 #[.string s] w fun e w' => e = .returned (.bool (dgB s.data.toList)) ∧ w' = w := by
  obtain ⟨B, hB⟩ : ∃ B, dgB s.data.toList = B := ⟨_, rfl⟩
  have HBB := Lib.hid hB
  rw [hB]
  clear hB
  go_enter Tryd.func50, Tryd.ntmps50
  go_wp2_with fail
  go_loopw [3, 6] (fun _ iv wr => ∃ i : Nat, i ≤ s.size ∧ iv = .int .i64 i ∧ Hid (∀ j, j < i → 48 ≤ lat s.data.toList j ∧ lat s.data.toList j ≤ 57) ∧ wr = w) (fun _ iv _ => s.size - (intOf iv).toNat)
  case atStart => exact ⟨0, by omega, rfl, Lib.hid (fun j hj => by omega), rfl⟩
  case round =>
    obtain ⟨i, hi, rfl, HD, hwr⟩ := hrel
    have hwr2 := hwr.symm
    clear hwr
    subst hwr2
    by_cases hlt : i < s.size
    · have hltI : (i : Int) < (s.size : Int) := by omega
      have W1 : IntKind.i64.wrap ((i : Int) + 1) = (i : Int) + 1 := IntWalk.i64_in _ (by omega)
      have hbt := bt_lat hlt
      obtain ⟨x, hx⟩ : ∃ x, lat s.data.toList i = x := ⟨_, rfl⟩
      rw [hx] at hbt
      have HX := Lib.hid hx
      clear hx
      by_cases h1 : x < 48
      · obtain rfl : false = B := by rw [← HBB.out]; exact (dg_bad (i := i) (by rw [← str_size]; exact hlt) (by rw [HX.out]; exact .inl h1)).symm
        have d1 : decide (x < 48) = true := decide_eq_true h1
        go_wp2_with fail
        go_ret
        exact ⟨rfl, rfl⟩
      · have d1 : decide (x < 48) = false := decide_eq_false h1
        by_cases h2 : 57 < x
        · obtain rfl : false = B := by rw [← HBB.out]; exact (dg_bad (i := i) (by rw [← str_size]; exact hlt) (by rw [HX.out]; exact .inr h2)).symm
          have d2 : decide (57 < x) = true := decide_eq_true h2
          go_wp2_with fail
          go_ret
          exact ⟨rfl, rfl⟩
        · have d2 : decide (57 < x) = false := decide_eq_false h2
          have HD2 : Hid (∀ j, j < i + 1 → 48 ≤ lat s.data.toList j ∧ lat s.data.toList j ≤ 57) := Lib.hid (fun j hj => by
            rcases Nat.lt_or_ge j i with h9 | h9
            · exact HD.out j h9
            · rw [show j = i by omega, HX.out]; omega)
          go_wp2_with fail
          go_roundw
          case rel => exact ⟨i + 1, by omega, by go_num, HD2, by trivial⟩
          case measure => simp [intOf]; omega
    · have hltI : ¬ (i : Int) < (s.size : Int) := by omega
      obtain rfl : true = B := by rw [← HBB.out]; exact (dg_all (fun j hj => HD.out j (by rw [← str_size] at hj; omega))).symm
      go_wp2_with fail
      go_ret
      exact ⟨rfl, rfl⟩
theorem trim49 (s : ByteArray) (w : World) : Calls Tryd.prog 49 #[.string s, .string ⟨#[45]⟩] w fun e w' => e = .returned (.string (strd (tx s.data.toList))) ∧ w' = w :=
  (Any.strings_TrimPrefix Tryd.laysTrim s ⟨#[45]⟩ w).mono fun e w' ⟨h1, h2⟩ => ⟨h1, h2⟩
theorem cut62 (t : List UInt8) (w : World) (ht : t.length ≤ 1000000) : Calls Tryd.prog 62 #[.string (strd t), .string ⟨#[46]⟩] w fun e w' => (∃ b, e = .returned (.tuple #[.string (strd (cU t)), .string (strd (cC t)), .bool b])) ∧ Below w.heap.size w w' := by
  obtain ⟨s, hs⟩ : ∃ s, strd t = s := ⟨_, rfl⟩
  have hsz : s.size = t.length := by rw [← hs, strd_size]
  have hl : s.data.toList = t := by rw [← hs]; rfl
  obtain ⟨u, hu⟩ : ∃ u, strd (cU t) = u := ⟨_, rfl⟩
  obtain ⟨c, hc⟩ : ∃ u, strd (cC t) = u := ⟨_, rfl⟩
  rw [hs, hu, hc]
  have HHS := Lib.hid hs
  go_enter Tryd.func62, Tryd.ntmps62
  go_wp2_with fail
  refine (Any.stringslite_Index_one Tryd.laysIdx s 46 w).mono ?_
  rintro e w1 ⟨rfl, hw⟩
  rw [hw, hl]
  clear hw
  rcases idx_cut t with ⟨h1, h2⟩ | ⟨h1, h2⟩
  · rw [h1]
    obtain rfl : s = u := by rw [← hu, h2, hs]
    obtain rfl : (⟨#[]⟩ : ByteArray) = c := by
      rw [← hc]
      unfold cC
      rw [h2, List.drop_eq_nil_of_le (by omega)]
      rfl
    clear hl hs hu hc
    go_wp2_with fail
    go_ret3
    exact ⟨⟨_, rfl⟩, Below.refl _ _⟩
  · rw [h1]
    obtain ⟨i, hi⟩ : ∃ i, (cU t).length = i := ⟨_, rfl⟩
    rw [hi] at h2 ⊢
    have E1 : s.extract 0 i = u := by
      rw [← hs, ← hu, cU_take t, hi]
      unfold strd
      apply ByteArray.ext
      rw [ByteArray.data_extract]
      simp
    have E2 : s.extract (i + 1) t.length = c := by
      rw [← hs, ← hc]
      unfold cC
      rw [hi]
      unfold strd
      apply ByteArray.ext
      rw [ByteArray.data_extract]
      simp
      exact List.take_of_length_le (by rw [List.length_drop]; omega)
    have p1 : (0 : Int) ≤ (i : Int) := by omega
    have p2 : (i : Int) ≤ (t.length : Int) := by omega
    have p3 : (i : Int) + 1 ≤ (t.length : Int) := by omega
    have p4 : (0 : Int) ≤ (i : Int) + 1 := by omega
    have T1 : ((i : Int) + 1).toNat = i + 1 := by omega
    have W1 : IntKind.i64.wrap ((i : Int) + 1) = (i : Int) + 1 := IntWalk.i64_in _ (by omega)
    have g1 : decide ((0 : Int) ≤ (i : Int)) = true := decide_eq_true p1
    clear hl hs hu hc h1
    go_wp2_with fail
    go_quiet (fail)
    go_wp2_with fail
    go_ret3
    exact ⟨⟨_, rfl⟩, below_drewN (Below.refl _ _) nq⟩
theorem cut48 (t : List UInt8) (w : World) (ht : t.length ≤ 1000000) : Calls Tryd.prog 48 #[.string (strd t), .string ⟨#[46]⟩] w fun e w' => (∃ b, e = .returned (.tuple #[.string (strd (cU t)), .string (strd (cC t)), .bool b])) ∧ Below w.heap.size w w' := by
  go_enter Tryd.func48, Tryd.ntmps48
  go_wp2_with fail
  refine (cut62 t w ht).mono ?_
  rintro e w1 ⟨⟨b, rfl⟩, hb⟩
  have HB := Lib.hid hb
  clear hb
  go_wp2_with fail
  go_ret3
  exact ⟨⟨_, rfl⟩, HB.out⟩
end Go.Proofs.YtjipcopfggnlkaaDoor.Wk
