/- The normal form and the union. Conditions: the slices read as intervals; at most 1000 each. -/
import Derived.Test.YtmdkhnndfhcfdaaJo
set_option linter.unusedSimpArgs false
set_option linter.unusedVariables false
namespace Go.Proofs.Ytmdkhnndfhcfdaa.Wk
open Go.RowKit
open Go.Proofs.Ytmdkhnndfhcfdaa.Mt
/-- what is returned: a normal form, in new memory, with the seconds P -/
def NfR (w : World) (P : Int → Prop) (L : Nat) (e : Ending) (w' : World) : Prop := ∃ A' c' R, e = .returned (.slice A' R.length c') ∧ R.length ≤ c' ∧ Rp w' w'.heap.size A' R.length R ∧ (0 < R.length → ∀ b off sp, A' = some ⟨b, off, sp⟩ → w.heap.size ≤ b ∧ ∃ cur, w'.heap[b]? = some (.cells cur 25 (0, 0))) ∧ Nf R ∧ (∀ t, Hs R t ↔ P t) ∧ Below w.heap.size w w' ∧ R.length ≤ L
theorem Rp.rise {w w' : World} {A : Option Addr} {n : Nat} {l : List Iv} (h : Rp w w.heap.size A n l) (hb : Below w.heap.size w w') : Rp w' w'.heap.size A n l := h.up hb
theorem normal13 (A : Option Addr) (n c : Nat) (l : List Iv) (w : World) (h : Rp w w.heap.size A n l) (hn : n ≤ 1000) : Calls Try.prog 13 #[.slice A n c] w (NfR w (Hs l) n) := by
  have hx := Bx.new w 22 #[.slice A n c]
  have HLL : Hid (Rll (w.alloc (.cells #[.slice A n c] 22)) (w.alloc (.cells #[.slice A n c] 22)).heap.size (some ⟨w.heap.size, 0, none⟩) 1 [l]) := Lib.hid ⟨rfl, by omega, fun _ => ⟨w.heap.size, 0, rfl, hx.lt, fun i hi => by
    obtain rfl : i = 0 := by omega
    exact ⟨A, n, c, hx.cell 0, h.up (b1 _ _)⟩⟩⟩
  have HL := Lib.hid h.1
  clear h hx
  go_enter Try.func13, Try.ntmps13
  go_wp2_with fail
  refine (join30 _ 1 1 [l] _ HLL.out (by simp [HL.out]; omega)).mono ?_
  rintro e w' ⟨A', c', R, rfl, h1, h2, h3, h4, h5, h6, h7⟩
  have H2 := Lib.hid h2
  have H5 := Lib.hid h5
  have H6 := Lib.hid h6
  have H3 := Lib.hid h3
  have H1 := Lib.hid h1
  have H4 := Lib.hid h4
  have H7 := Lib.hid h7
  clear h1 h2 h3 h4 h5 h6 h7
  go_wp2_with fail
  go_ret
  exact ⟨A', c', R, rfl, H1.out, H2.out, fun h0 b off sp e => by have hh := H3.out h0 b off sp e; refine ⟨?_, hh.2⟩; have := hh.1; simp at this; omega, H4.out, fun t => by rw [H5.out t]; simp, ((Below.refl w.heap.size w).alloc (Nat.le_refl _) _).trans (H6.out.mono (by simp)), by have := H7.out; simp [HL.out] at this; omega⟩
theorem union16 (A B : Option Addr) (n m c c' : Nat) (a b : List Iv) (w : World) (h : Rp w w.heap.size A n a) (k : Rp w w.heap.size B m b) (hn : n ≤ 1000) (hm : m ≤ 1000) : Calls Try.prog 16 #[.slice A n c, .slice B m c'] w (NfR w (fun t => Hs a t ∨ Hs b t) (n + m)) := by
  have hx := Bx.new w 22 #[.slice A n c, .slice B m c']
  have HLL : Hid (Rll (w.alloc (.cells #[.slice A n c, .slice B m c'] 22)) (w.alloc (.cells #[.slice A n c, .slice B m c'] 22)).heap.size (some ⟨w.heap.size, 0, none⟩) 2 [a, b]) := Lib.hid ⟨rfl, by omega, fun _ => ⟨w.heap.size, 0, rfl, hx.lt, fun i hi => by
    rcases i with _ | _ | i
    · exact ⟨A, n, c, hx.cell 0, h.up (b1 _ _)⟩
    · exact ⟨B, m, c', hx.cell 1, k.up (b1 _ _)⟩
    · omega⟩⟩
  have HL := Lib.hid h.1
  have HK := Lib.hid k.1
  clear h k hx
  go_enter Try.func16, Try.ntmps16
  go_wp2_with fail
  refine (join30 _ 2 2 [a, b] _ HLL.out (by simp [HL.out, HK.out]; omega)).mono ?_
  rintro e w' ⟨A', c', R, rfl, h1, h2, h3, h4, h5, h6, h7⟩
  have H2 := Lib.hid h2
  have H5 := Lib.hid h5
  have H6 := Lib.hid h6
  have H3 := Lib.hid h3
  have H1 := Lib.hid h1
  have H4 := Lib.hid h4
  have H7 := Lib.hid h7
  clear h1 h2 h3 h4 h5 h6 h7
  go_wp2_with fail
  go_ret
  exact ⟨A', c', R, rfl, H1.out, H2.out, fun h0 b off sp e => by have hh := H3.out h0 b off sp e; refine ⟨?_, hh.2⟩; have := hh.1; simp at this; omega, H4.out, fun t => by rw [H5.out t]; simp only [List.flatten_cons, List.flatten_nil, List.append_nil]; exact Hs.app a b t, ((Below.refl w.heap.size w).alloc (Nat.le_refl _) _).trans (H6.out.mono (by simp)), by have := H7.out; simp [HL.out, HK.out] at this; omega⟩
set_option maxHeartbeats 1000000 in
theorem same12 (A A' : Option Addr) (n c c' : Nat) (l : List Iv) (w : World) (h1 : Rp w w.heap.size A n l) (h2 : Rp w w.heap.size A' n l) :
    Calls Try.prog 12 #[.slice A n c, .slice A' n c'] w fun e w' => e = .returned (.bool true) ∧ Below w.heap.size w w' := by
  have hn := h1.2.1
  have H1 := Lib.hid h1
  have H2 := Lib.hid h2
  have e1 : ((n : Int) == (n : Int)) = true := by simp
  have e2 : ((n : Int) != (n : Int)) = false := by simp
  clear h1 h2
  go_enter Try.func12, Try.ntmps12
  go_wp2_with fail
  clear e1 e2
  go_loopw [5] (fun i wr => ∃ k : Nat, k ≤ n ∧ i = .int .i64 k ∧ Hid (Below w.heap.size w wr)) (fun i _ => n - (intOf i).toNat)
  case atStart => exact ⟨0, Nat.zero_le _, rfl, Lib.hid (Below.refl _ _)⟩
  case round =>
    obtain ⟨k, hk, rfl, hb⟩ := hrel
    by_cases hlt : k < n
    · obtain ⟨b1, o1, rfl, _, d1, d2⟩ := (H1.out.up hb.out).get hlt
      obtain ⟨b2, o2, rfl, _, d3, d4⟩ := (H2.out.up hb.out).get hlt
      have hltI : (k : Int) < (n : Int) := by omega
      obtain ⟨⟨x, y⟩, hxy⟩ : ∃ v, vat l k = v := ⟨_, rfl⟩
      rw [hxy] at d1 d2 d3 d4
      simp only at d1 d2 d3 d4
      clear hxy
      have e1 : (x == x) = true := by simp
      have e3 : (y == y) = true := by simp
      go_wp2_with fail
      go_quiet (fail)
      go_wp2_with fail
      go_roundw
      case rel => exact ⟨k + 1, by omega, by go_num, Lib.hid (below_drewN hb.out nq)⟩
      case measure => simp [intOf]; omega
    · have hltI : ¬ (k : Int) < (n : Int) := by omega
      go_wp2_with fail
      go_ret
      exact ⟨rfl, hb.out⟩
end Go.Proofs.Ytmdkhnndfhcfdaa.Wk
