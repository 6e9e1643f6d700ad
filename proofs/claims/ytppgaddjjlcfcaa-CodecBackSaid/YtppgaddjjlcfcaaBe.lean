/- Words for the law back: beginnings of slices, the bytes of a string in new memory, a length below another one. Conditions: as stated. -/
import Derived.Test.YtppgaddjjlcfcaaBd
import Derived.Test.YtppgaddjjlcfcaaLawD
set_option linter.unusedSimpArgs false
set_option linter.unusedVariables false
namespace Go.Proofs.Ytppgaddjjlcfcaa.Mt
open Go
theorem bys_bl (s : ByteArray) : bys (bl s) = s := by
  have h : byl (bl s) = s.data.toList := by
    unfold byl bl
    rw [List.map_map]
    have e : (fun x : Int => UInt8.ofNat x.toNat) ∘ (fun b : UInt8 => (b.toNat : Int)) = id := by
      funext b
      simp
    rw [e, List.map_id]
  unfold bys
  rw [h]
/-- all that the law decodes -/
theorem back_math {zs zt : List Int} {s : ByteArray} {n : Int} (hn : -9223372036854775808 ≤ n ∧ n ≤ 9223372036854775807) (hs : s.size ≤ 2000) {N x0 x1 x2 x3 : Nat} {al l1 l2 l3 : List Int} (h1 : l1 = enc (zz n)) (h2 : l2 = enc (zz (s.size : Int)) ++ bl s) (h3 : l3 = fr n (bl s)) (hal : al = zs ++ l1 ++ l2 ++ l3 ++ zt) (hN : al.length = N) (hx0 : zs.length = x0) (hx1 : x0 + l1.length = x1) (hx2 : x1 + l2.length = x2) (hx3 : x2 + l3.length = x3) :
    (nuE al N (x0 : Int) = 0 ∧ nuV al N (x0 : Int) = n ∧ nuN al N (x0 : Int) = (x1 : Int)) ∧ (teE al N (x1 : Int) = 0 ∧ teL al N (x1 : Int) = bl s ∧ teN al N (x1 : Int) = (x2 : Int)) ∧ (frE al N (x2 : Int) = 0 ∧ frK al N (x2 : Int) = n % 256 ∧ frP al N (x2 : Int) = bl s ∧ frN al N (x2 : Int) = (x3 : Int)) := by
  have hlen : N = x3 + zt.length := by rw [← hN, hal]; simp only [List.length_append]; omega
  have hA : At al x0 (l1 ++ (l2 ++ (l3 ++ zt))) := by
    have := at_mid zs (l1 ++ (l2 ++ (l3 ++ zt))) []
    rw [List.append_nil, hx0] at this
    rw [hal]
    simpa [List.append_assoc] using this
  have hA1 := hA.left
  have hA2 := hA.right.left
  have hA3 := hA.right.right.left
  rw [hx1] at hA2
  rw [hx1, hx2] at hA3
  have hb := bl_len s
  refine ⟨?_, ?_, ?_⟩
  · rw [h1] at hA1 hx1
    obtain ⟨e1, e2, e3⟩ := nu_enc (zz_lt hn) hA1 (n := N) (by omega)
    rw [uz_zz] at e2
    exact ⟨e1, e2, by rw [e3, hx1]⟩
  · rw [h2, ← hb] at hA2 hx2
    obtain ⟨e1, e2, e3⟩ := te_enc (by omega) hA2 (n := N) (by omega) hN.symm
    exact ⟨e1, e2, by rw [e3, hx2]⟩
  · rw [h3] at hA3 hx3
    obtain ⟨e1, e2, e3, e4⟩ := fr_enc (by omega) (bl_in s) hA3 (n := N) (by omega) hN.symm
    exact ⟨e1, e2, e3, by rw [e4, hx3]⟩
theorem part_math {s : ByteArray} {n : Int} (hn : -9223372036854775808 ≤ n ∧ n ≤ 9223372036854775807) (hs : s.size ≤ 2000) {i j k : Nat} {l1 l2 l3 : List Int} (h1 : l1 = enc (zz n)) (h2 : l2 = enc (zz (s.size : Int)) ++ bl s) (h3 : l3 = fr n (bl s)) (hi : i < l1.length) (hj : j < l2.length) (hk : k < l3.length) :
    nuE (sub l1 0 i) i 0 = 7 ∧ teE (sub l2 0 j) j 0 = 7 ∧ frE (sub l3 0 k) k 0 = 7 := by
  have hb := bl_len s
  have g : ∀ (l : List Int) (m i : Nat), 0 + i < m → iat (sub l 0 m) (0 + i) = iat l i := fun l m i h => by rw [Nat.zero_add] at h ⊢; rw [sub_at h, Nat.zero_add]
  refine ⟨?_, ?_, ?_⟩
  · exact nu_part (a := 0) (c := zz n) (zz_lt hn) (by omega) (fun t h4 h5 => by rw [g l1 i t h4, h1]) (by rw [← h1]; omega)
  · rw [← hb] at h2
    exact te_part (a := 0) (ys := bl s) (by omega) (by omega) (fun t h4 h5 => by rw [g l2 j t h4, h2]) (by rw [← h2]; omega)
  · exact fr_part (a := 0) (k := n) (ps := bl s) (by omega) (by omega) (fun t h4 h5 => by rw [g l3 k t h4, h3]) (by rw [← h3]; omega) (sub_len (by omega)).symm
end Go.Proofs.Ytppgaddjjlcfcaa.Mt
namespace Go.Proofs.Ytppgaddjjlcfcaa.Wk
open Go.RowKit
open Go.Proofs.Ytppgaddjjlcfcaa.Mt
theorem Rk.take {w : World} {B n i : Nat} {A : Option Addr} {zs : List Int} (h : Rk .u8 w B A n zs) (hi : i ≤ n) : Rk .u8 w B A i (Mt.sub zs 0 i) := by
  rcases Nat.eq_zero_or_pos i with h0 | h0
  · subst h0
    rw [show Mt.sub zs 0 0 = [] by simp [Mt.sub]]
    exact rk_empty _ _ _
  · obtain ⟨b, off, rfl, hb, _⟩ := h.get (i := 0) (by omega)
    exact h.sub (lo := 0) (by omega) hb
theorem conv_sl (s : ByteArray) (w : World) (hs : s.size ≤ 100000) : ∃ cap W, (convert 9 22 (.string s)).run Try.prog w = .ok (.slice (some ⟨w.heap.size, 0, none⟩) s.size cap) W ∧ Sl W (some ⟨w.heap.size, 0, none⟩) s.size cap (bl s) ∧ Below w.heap.size w W := by
  obtain ⟨cap, W, h1, h2, h3⟩ := conv_bytes s w (by omega)
  have h4 := Lib.run_convert_string_bytes (P := Try.prog) w 9 22 5 s Try.underlying9 Try.underlying22 Try.underlying5
  rw [h1] at h4
  injection h4 with h5 h6
  injection h5 with _ _ h7
  have g1 := grownCap_ge w s.size 0 5
  have g2 := grownCap_le_maxLen w s.size 0 5 (by unfold maxLen; omega)
  have g3 : maxLen ≤ 9223372036854775807 := by decide
  exact ⟨cap, W, h1, ⟨h2, by omega, by omega, fun h => by cases h⟩, h3⟩
theorem short30 (cut : Int) (n : Nat) (w : World) (hn : 0 < n) (hn2 : n ≤ 1000000) (hc : -9223372036854775808 ≤ cut ∧ cut ≤ 9223372036854775807) : Calls Try.prog 30 #[.int .i64 cut, .int .i64 (n : Int)] w fun e w' => ∃ k : Nat, k < n ∧ e = .returned (.int .i64 (k : Int)) ∧ w' = w := by
  obtain ⟨r, hr⟩ : ∃ r, cut.tmod (n : Int) = r := ⟨_, rfl⟩
  have hlt : r < (n : Int) := by rw [← hr]; exact Int.tmod_lt_of_pos _ (by omega)
  have hgt : -(n : Int) < r := by
    rw [← hr]
    have h1 := Int.tmod_lt_of_pos (-cut) (b := (n : Int)) (by omega)
    rw [Int.neg_tmod] at h1
    omega
  have V9 : IntKind.i64.wrap r = r := IntWalk.i64_in _ (by omega)
  have hn0 : ¬ n = 0 := by omega
  go_enter Try.func30, Try.ntmps30
  by_cases h0 : r < 0
  · obtain ⟨k, hk⟩ : ∃ k : Nat, r + (n : Int) = (k : Int) := ⟨(r + (n : Int)).toNat, by omega⟩
    have V1 : IntKind.i64.wrap (r + (n : Int)) = (k : Int) := by rw [IntWalk.i64_in _ (by omega)]; exact hk
    have hkn : k < n := by omega
    clear hk
    go_wp2_with fail
    go_ret
    exact ⟨k, hkn, rfl, rfl⟩
  · obtain ⟨k, hk⟩ : ∃ k : Nat, r = (k : Int) := ⟨r.toNat, by omega⟩
    subst hk
    go_wp2_with fail
    go_ret
    exact ⟨k, by omega, rfl, rfl⟩
end Go.Proofs.Ytppgaddjjlcfcaa.Wk
