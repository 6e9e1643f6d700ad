/- Counts, in the layer and in its reference. Conditions: the slices read as lists; no time is greater than an int. -/
import Derived.Test.YtcobolmagjlbeaaCnt
namespace Go.Proofs.Ytcobolmagjlbeaa.Mt
def ctS (s : Sc) (ts : List Int) (f n : Int) : List Int :=
  if chS s ≠ 0 then [] else if ¬ (0 ≤ f ∧ f < 68719476736) then [] else if n < 0 then [] else if 1024 < n then [] else cn s.p f n.toNat ts ts.length
end Go.Proofs.Ytcobolmagjlbeaa.Mt
namespace Go.Proofs.Ytcobolmagjlbeaa.Wk
open Go.RowKit
open Go.Proofs.Ytcobolmagjlbeaa.Mt
theorem Ri.none (w : World) (B : Nat) : Ri w B none 0 [] := ⟨rfl, by omega, fun h => by omega⟩

set_option maxHeartbeats 4000000 in
set_option maxRecDepth 100000 in
theorem counts21 (p : Int) (A1 A2 A3 : Option Addr) (n1 n2 n3 c1 c2 c3 : Nat) (up dn pt : List Int) (A : Option Addr) (m c : Nat) (ts : List Int) (f n : Int) (w : World) (h1 : Ri w w.heap.size A1 n1 up) (h2 : Ri w w.heap.size A2 n2 dn) (h3 : Ri w w.heap.size A3 n3 pt) (ht : Ri w w.heap.size A m ts) (hR : ∀ i, at_ ts i ≤ 9223372036854775807) :
    Calls Try.prog 21 #[.agg #[.int .i64 p, .slice A1 n1 c1, .slice A2 n2 c2, .slice A3 n3 c3], .slice A m c, .int .i64 f, .int .i64 n] w fun e w' => (∃ A' k c', e = .returned (.slice A' k c') ∧ Ri w' w'.heap.size A' k (ctS ⟨p, up, dn, pt⟩ ts f n)) ∧ Below w.heap.size w w' := by
  have hmm := ht.2.1
  have hlm : ts.length = m := ht.1
  have hn1 := h1.2.1
  have hn3 := h3.2.1
  have hA0 := b1 w (.cells #[.int .i64 p, .slice A1 n1 c1, .slice A2 n2 c2, .slice A3 n3 c3] 24)
  have HBx := Lib.hid (Bx.new w 24 #[.int .i64 p, .slice A1 n1 c1, .slice A2 n2 c2, .slice A3 n3 c3])
  have H1 := Lib.hid (h1.up hA0)
  have H2 := Lib.hid (h2.up hA0)
  have H3 := Lib.hid (h3.up hA0)
  have HT := Lib.hid (ht.up hA0)
  have HR := Lib.hid hR
  obtain ⟨ch, hch⟩ : ∃ ch, chS ⟨p, up, dn, pt⟩ = ch := ⟨_, rfl⟩
  have HP : Hid (ctS ⟨p, up, dn, pt⟩ ts f n = if ch ≠ 0 then [] else if ¬ (0 ≤ f ∧ f < 68719476736) then [] else if n < 0 then [] else if 1024 < n then [] else cn p f n.toNat ts m) := Lib.hid (by simp only [ctS, hch, hlm])
  have HQ : Hid (ch = 0 → 1 ≤ p ∧ p ≤ 86400) := Lib.hid (fun h => (ch_eq (s := ⟨p, up, dn, pt⟩) (hch.trans h)).2.2.2)
  have HC := Lib.hid hch
  clear h1 h2 h3 ht hR hlm hch
  go_enter Try.func21, Try.ntmps21
  go_wp2_with fail
  refine (check_any p A1 A2 A3 n1 n2 n3 c1 c2 c3 up dn pt _ H1.out H2.out H3.out).mono ?_
  rintro e w1 ⟨rfl, hb1⟩
  have hA1 := upB hA0 hb1
  obtain ⟨b0, b1', b2, b3⟩ := (HBx.out.next hb1).cells4
  rw [HC.out]
  by_cases hc : ch = 0
  · subst hc
    have hpp := HQ.out rfl
    go_wp2_with fail
    refine (time_any f _).mono ?_
    rintro e w2 ⟨rfl, rfl⟩
    by_cases hf : 0 ≤ f ∧ f < 68719476736
    · have htm : tim f = true := by simp [tim, hf]
      rw [htm]
      by_cases q1 : n < 0
      · have HE : Hid (ctS ⟨p, up, dn, pt⟩ ts f n = []) := Lib.hid (by rw [HP.out]; simp [hf, q1])
        go_wp2_with fail
        go_ret
        exact ⟨⟨_, _, _, rfl, by rw [HE.out]; exact Ri.none _ _⟩, hA1⟩
      · have q1' : decide (n < 0) = false := decide_eq_false q1
        by_cases q2 : 1024 < n
        · have HE : Hid (ctS ⟨p, up, dn, pt⟩ ts f n = []) := Lib.hid (by rw [HP.out]; simp [hf, q2])
          go_wp2_with fail
          go_ret
          exact ⟨⟨_, _, _, rfl, by rw [HE.out]; exact Ri.none _ _⟩, hA1⟩
        · obtain ⟨k, rfl⟩ : ∃ k : Nat, n = (k : Int) := ⟨n.toNat, by omega⟩
          have hk : k ≤ 1024 := by omega
          have hkI : ¬ (1024 : Int) < (k : Int) := q2
          have HE : Hid (ctS ⟨p, up, dn, pt⟩ ts f (k : Int) = cn p f k ts m) := Lib.hid (by rw [HP.out, if_neg (by simp), if_neg (by simp [hf]), if_neg (by omega), if_neg (by omega)]; rfl)
          clear q1 q2
          go_wp2_with fail
          refine (count_any p A1 A2 A3 n1 n2 n3 c1 c2 c3 A m c ts f k _ (HT.out.up hb1) HR.out hpp.1 hf.1 hk).mono ?_
          rintro e w3 ⟨⟨g, rfl, hg⟩, hb3⟩
          go_wp2_with fail
          go_ret
          have hgl := Ri.of_block (zs := cn p f k ts m) hg hg.lt (by rw [cn_len]; omega)
          rw [cn_len] at hgl
          exact ⟨⟨_, _, _, rfl, by rw [HE.out]; exact hgl⟩, upB hA1 hb3⟩
    · have htm : tim f = false := by simp only [tim, hf, decide_false]
      rw [htm]
      have HE : Hid (ctS ⟨p, up, dn, pt⟩ ts f n = []) := Lib.hid (by rw [HP.out]; simp only [hf]; simp)
      go_wp2_with fail
      go_ret
      exact ⟨⟨_, _, _, rfl, by rw [HE.out]; exact Ri.none _ _⟩, hA1⟩
  · have HE : Hid (ctS ⟨p, up, dn, pt⟩ ts f n = []) := Lib.hid (by rw [HP.out, if_pos hc])
    have e1 : (ch == 0) = false := by simp [hc]
    have e2 : (ch != 0) = true := by simp [hc]
    clear hc
    go_wp2_with fail
    go_ret
    exact ⟨⟨_, _, _, rfl, by rw [HE.out]; exact Ri.none _ _⟩, hA1⟩
end Go.Proofs.Ytcobolmagjlbeaa.Wk
