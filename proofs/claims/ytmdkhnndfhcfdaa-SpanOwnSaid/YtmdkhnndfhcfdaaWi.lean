/- All intervals of a list are replaced: nothing below its block is written. Conditions: the list lies in a block of the call's own. -/
import Derived.Test.YtmdkhnndfhcfdaaAl
set_option linter.unusedSimpArgs false
set_option linter.unusedVariables false
namespace Go.Proofs.Ytmdkhnndfhcfdaa.Wk
open Go.RowKit
open Go.Proofs.Ytmdkhnndfhcfdaa.Mt
theorem cur_at {cur : Array Value} {i : Nat} (h : i < cur.size) : ∃ u, cur[i]? = some u := ⟨cur[i], Array.getElem?_eq_getElem h⟩
set_option maxHeartbeats 1000000 in
theorem wipe29 (A : Option Addr) (n c base : Nat) (w : World) (hn : n ≤ 4096) (hbs : base ≤ w.heap.size) (hc : 0 < n → ∃ b off cur, A = some ⟨b, off, none⟩ ∧ base ≤ b ∧ w.heap[b]? = some (.cells cur 25 (0, 0)) ∧ off + n * 2 ≤ cur.size) : Calls Try.prog 29 #[.slice A n c] w fun e w' => e = .returned (.tuple #[]) ∧ Below base w w' := by
  have HC := Lib.hid hc
  clear hc
  go_enter Try.func29, Try.ntmps29
  go_wp2_with fail
  go_loopw [2] (fun iv wr => ∃ k : Nat, k ≤ n ∧ iv = .int .i64 k ∧ Hid (Below base w wr) ∧ Hid (0 < n → ∃ b off cur, A = some ⟨b, off, none⟩ ∧ base ≤ b ∧ wr.heap[b]? = some (.cells cur 25 (0, 0)) ∧ off + n * 2 ≤ cur.size)) (fun iv _ => n - (intOf iv).toNat)
  case atStart => exact ⟨0, Nat.zero_le _, rfl, Lib.hid (Below.refl _ _), HC⟩
  case round =>
    obtain ⟨k, hk, rfl, HB, HQ⟩ := hrel
    by_cases hlt : k < n
    · have hltI : (k : Int) < (n : Int) := by omega
      obtain ⟨b, off, cur, rfl, hb, hh, hs⟩ := HQ.out (by omega)
      have hx : Bx wr b 25 cur := hh
      obtain ⟨u0, hu0⟩ := cur_at (cur := cur) (i := off + k * 2) (by omega)
      obtain ⟨u1, hu1⟩ := cur_at (cur := cur) (i := off + k * 2 + 1) (by omega)
      have c0 := (hx.cell (off + k * 2)).trans hu0
      have c1 := (hx.cell (off + k * 2 + 1)).trans hu1
      have f0 := hx.free (off + k * 2)
      have f1 := hx.free (off + k * 2 + 1)
      have hl := hx.lt
      have HX2 := Lib.hid ((hx.set (off + k * 2) (.int .i64 (-1))).set (off + k * 2 + 1) (.int .i64 (-1)))
      have HB2 := Lib.hid ((HB.out.setCell (p := ⟨b, off + k * 2, none⟩) hb (.int .i64 (-1))).setCell (p := ⟨b, off + k * 2 + 1, none⟩) hb (.int .i64 (-1)))
      have HS2 : Hid (off + n * 2 ≤ ((cur.setIfInBounds (off + k * 2) (.int .i64 (-1))).setIfInBounds (off + k * 2 + 1) (.int .i64 (-1))).size) := Lib.hid (by simpa using hs)
      clear hx hh hs hu0 hu1
      go_wp2_with fail
      go_roundw
      case rel => exact ⟨k + 1, by omega, by go_num, HB2, Lib.hid (fun _ => ⟨b, off, _, rfl, hb, HX2.out, HS2.out⟩)⟩
      case measure => simp [intOf]; omega
    · have hltI : ¬ (k : Int) < (n : Int) := by omega
      go_wp2_with fail
      go_returns
      exact ⟨rfl, HB.out⟩
/-- what a normal form's result lies in may be written -/
theorem NfR.wipe {w w' : World} {A : Option Addr} {R : List Iv} (h : Rp w' w'.heap.size A R.length R) (hf : 0 < R.length → ∀ b off sp, A = some ⟨b, off, sp⟩ → w.heap.size ≤ b ∧ ∃ cur, w'.heap[b]? = some (.cells cur 25 (0, 0))) : 0 < R.length → ∃ b off cur, A = some ⟨b, off, none⟩ ∧ w.heap.size ≤ b ∧ w'.heap[b]? = some (.cells cur 25 (0, 0)) ∧ off + R.length * 2 ≤ cur.size := by
  intro h0
  obtain ⟨b, off, e, _, hc⟩ := h.2.2.1 h0
  obtain ⟨h1, cur, h2⟩ := hf h0 b off none e
  refine ⟨b, off, cur, e, h1, h2, ?_⟩
  have hx : Bx w' b 25 cur := h2
  have := (hc (R.length - 1) (by omega)).2
  rw [hx.cell] at this
  have := (Array.getElem?_eq_some_iff.1 this).1
  omega
theorem Qb.rpI {w : World} {g n : Nat} {L T : List Iv} (h : Qb w g (L ++ T)) (hn : L.length = n) (hl : n ≤ 2000) (hi : ∀ i, In64 (vat L i).1 ∧ In64 (vat L i).2) : Rp w w.heap.size (some ⟨g, 0, none⟩) n L := by
  refine ⟨hn, by omega, fun _ => ⟨g, 0, rfl, h.lt, fun i hin => ?_⟩, hi⟩
  have := h.cell (i := i) (by rw [List.length_append]; omega)
  have e : vat (L ++ T) i = vat L i := by unfold vat; rw [List.getD_eq_getElem?_getD, List.getD_eq_getElem?_getD, List.getElem?_append_left (by omega)]
  rw [e] at this
  rw [Nat.zero_add]
  exact this
end Go.Proofs.Ytmdkhnndfhcfdaa.Wk
