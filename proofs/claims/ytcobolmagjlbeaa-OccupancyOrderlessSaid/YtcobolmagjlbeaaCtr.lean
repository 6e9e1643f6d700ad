/- Counts of the reference. Conditions: the slices read as lists; no time is greater than an int. -/
import Derived.Test.YtcobolmagjlbeaaCts
namespace Go.Proofs.Ytcobolmagjlbeaa.Wk
open Go.RowKit
open Go.Proofs.Ytcobolmagjlbeaa.Mt

set_option maxHeartbeats 4000000 in
set_option maxRecDepth 100000 in
theorem counts22 (p : Int) (A1 A2 A3 : Option Addr) (n1 n2 n3 c1 c2 c3 : Nat) (up dn pt : List Int) (A : Option Addr) (m c : Nat) (ts : List Int) (f n : Int) (w : World) (h1 : Ri w w.heap.size A1 n1 up) (h2 : Ri w w.heap.size A2 n2 dn) (h3 : Ri w w.heap.size A3 n3 pt) (ht : Ri w w.heap.size A m ts) (hR : ∀ i, at_ ts i ≤ 9223372036854775807) :
    Calls Try.prog 22 #[.agg #[.int .i64 p, .slice A1 n1 c1, .slice A2 n2 c2, .slice A3 n3 c3], .slice A m c, .int .i64 f, .int .i64 n] w fun e w' => (∃ A' k c', e = .returned (.slice A' k c') ∧ Ri w' w'.heap.size A' k (ctS ⟨p, up, dn, pt⟩ ts f n)) ∧ Below w.heap.size w w' := by
  have hmm := ht.2.1
  have hlm : ts.length = m := ht.1
  have hn1 := h1.2.1
  have hn3 := h3.2.1
  have hA0 := b1 w (.cells #[.int .i64 p, .slice A1 n1 c1, .slice A2 n2 c2, .slice A3 n3 c3] 24)
  have HBx := Lib.hid (Bx.new w 24 #[.int .i64 p, .slice A1 n1 c1, .slice A2 n2 c2, .slice A3 n3 c3])
  have H1 := Lib.hid (h1.up hA0)
  have H2 := Lib.hid (h2.up hA0)
  have H3 := Lib.hid (h3.up hA0)
  have HT := Lib.hid (ht.up hA0)
  have HR := Lib.hid hR
  obtain ⟨ch, hch⟩ : ∃ ch, chS ⟨p, up, dn, pt⟩ = ch := ⟨_, rfl⟩
  have HP : Hid (ctS ⟨p, up, dn, pt⟩ ts f n = if ch ≠ 0 then [] else if ¬ (0 ≤ f ∧ f < 68719476736) then [] else if n < 0 then [] else if 1024 < n then [] else cn p f n.toNat ts m) := Lib.hid (by simp only [ctS, hch, hlm])
  have HQ : Hid (ch = 0 → 1 ≤ p ∧ p ≤ 86400) := Lib.hid (fun h => (ch_eq (s := ⟨p, up, dn, pt⟩) (hch.trans h)).2.2.2)
  have HC := Lib.hid hch
  clear h1 h2 h3 ht hR hlm hch
  go_enter Try.func22, Try.ntmps22
  go_wp2_with fail
  refine (Check_any p A1 A2 A3 n1 n2 n3 c1 c2 c3 up dn pt _ H1.out H2.out H3.out).mono ?_
  rintro e w1 ⟨rfl, hb1⟩
  have hA1 := upB hA0 hb1
  obtain ⟨b0, b1', b2, b3⟩ := (HBx.out.next hb1).cells4
  rw [HC.out]
  by_cases hc : ch = 0
  · subst hc
    have hpp := HQ.out rfl
    go_wp2_with fail
    refine (Time_any f _).mono ?_
    rintro e w2 ⟨rfl, rfl⟩
    by_cases hf : 0 ≤ f ∧ f < 68719476736
    · have htm : tim f = true := by simp [tim, hf]
      rw [htm]
      by_cases q1 : n < 0
      · have HE : Hid (ctS ⟨p, up, dn, pt⟩ ts f n = []) := Lib.hid (by rw [HP.out]; simp [hf, q1])
        go_wp2_with fail
        go_ret
        exact ⟨⟨_, _, _, rfl, by rw [HE.out]; exact Ri.none _ _⟩, hA1⟩
      · have q1' : decide (n < 0) = false := decide_eq_false q1
        by_cases q2 : 1024 < n
        · have HE : Hid (ctS ⟨p, up, dn, pt⟩ ts f n = []) := Lib.hid (by rw [HP.out]; simp [hf, q2])
          go_wp2_with fail
          go_ret
          exact ⟨⟨_, _, _, rfl, by rw [HE.out]; exact Ri.none _ _⟩, hA1⟩
        · obtain ⟨k, rfl⟩ : ∃ k : Nat, n = (k : Int) := ⟨n.toNat, by omega⟩
          have hk : k ≤ 1024 := by omega
          have hkI : ¬ (1024 : Int) < (k : Int) := q2
          have HE : Hid (ctS ⟨p, up, dn, pt⟩ ts f (k : Int) = cn p f k ts m) := Lib.hid (by rw [HP.out, if_neg (by simp), if_neg (by simp [hf]), if_neg (by omega), if_neg (by omega)]; rfl)
          have hmk := fun w' => make_ints w' k (by omega)
          have hs1 := hA1.size
          have HBx1 := Lib.hid (HBx.out.next hb1)
          have HT1 := Lib.hid (HT.out.up hb1)
          have hw1 : w.heap.size < w1.heap.size := HBx1.out.lt
          clear q1 q2 b0 b1' b2 b3
          go_wp2_with fail
          clear hmk
          go_loopw [10] (fun i wr => ∃ j : Nat, j ≤ m ∧ i = .int .i64 j ∧ Below w1.heap.size w1 wr ∧ Hid (Bx wr w1.heap.size 3 (ints (cn p f k ts j)).toArray)) (fun i _ => m - (intOf i).toNat)
          case atStart => exact ⟨0, Nat.zero_le _, rfl, b1 _ _, Lib.hid (by have := Bx.new w1 3 (ints (List.replicate k 0)).toArray; simpa [cn] using this)⟩
          case round =>
            obtain ⟨j, hj, rfl, hb, HK⟩ := hrel
            obtain ⟨b0, b1', b2, b3⟩ := (HBx1.out.next hb).cells4
            by_cases hlt : j < m
            · obtain ⟨bb, off, rfl, _, d1⟩ := (HT1.out.up hb).get hlt
              have hltI : (j : Int) < (m : Int) := by omega
              by_cases q1 : at_ ts j < f
              · have q1' : decide (f ≤ at_ ts j) = false := decide_eq_false (by omega)
                have HD := Lib.hid (cn_low (p := p) (n := k) q1)
                clear q1
                go_wp2_with fail
                go_quiet (fail)
                go_wp2_with fail
                go_roundw
                case rel => exact ⟨j + 1, by omega, by go_num, below_drewN hb _, by rw [HD.out]; exact HK⟩
                case measure => simp [intOf]; omega
              · have q1' : decide (f ≤ at_ ts j) = true := decide_eq_true (by omega)
                have hx := HR.out j
                have hdv : 0 ≤ (at_ ts j - f) / p := Int.ediv_nonneg (by omega) (by omega)
                by_cases q2 : (k : Int) ≤ (at_ ts j - f) / p
                · have HD := Lib.hid (cn_high (p := p) (n := k) q1 q2)
                  have q2' : decide ((at_ ts j - f) / p < (k : Int)) = false := decide_eq_false (by omega)
                  go_wp2_with fail
                  go_quiet (fail)
                  go_wp2_with fail
                  go_roundw
                  case rel => exact ⟨j + 1, by omega, by go_num, below_drewN hb _, by rw [HD.out]; exact HK⟩
                  case measure => simp [intOf]; omega
                · obtain ⟨q, hq⟩ : ∃ q : Nat, (at_ ts j - f) / p = (q : Int) := ⟨((at_ ts j - f) / p).toNat, by omega⟩
                  have hqn : q < k := by omega
                  have HD := Lib.hid (cn_hit (p := p) q1 hq hqn)
                  have hqI : (q : Int) < (k : Int) := by omega
                  have hcl := HK.out.bcell (i := q) (by rw [cn_len]; exact hqn)
                  have hfr := HK.out.free q
                  have hbd := cn_bound p f k ts j q
                  clear hdv q2
                  go_wp2_with fail
                  go_quiet (fail)
                  go_wp2_with fail
                  go_region
                  go_wp2_with fail
                  go_roundw
                  case rel => exact ⟨j + 1, by omega, by go_num, (below_drewN hb _).setCell (p := ⟨w1.heap.size, q, none⟩) (Nat.le_refl _) _, by rw [HD.out]; exact Lib.hid ((HK.out.next (below_drewN (Below.refl _ _) _)).put q _)⟩
                  case measure => simp [intOf]; omega
            · have hkm : j = m := by omega
              subst hkm
              go_wp2_with fail
              go_ret
              have hgl := Ri.of_block (zs := cn p f k ts j) HK.out HK.out.lt (by rw [cn_len]; omega)
              rw [cn_len] at hgl
              exact ⟨⟨_, _, _, rfl, by rw [HE.out]; exact hgl⟩, upB hA1 hb⟩
    · have htm : tim f = false := by simp only [tim, hf, decide_false]
      rw [htm]
      have HE : Hid (ctS ⟨p, up, dn, pt⟩ ts f n = []) := Lib.hid (by rw [HP.out]; simp only [hf]; simp)
      go_wp2_with fail
      go_ret
      exact ⟨⟨_, _, _, rfl, by rw [HE.out]; exact Ri.none _ _⟩, hA1⟩
  · have HE : Hid (ctS ⟨p, up, dn, pt⟩ ts f n = []) := Lib.hid (by rw [HP.out, if_pos hc])
    have e1 : (ch == 0) = false := by simp [hc]
    have e2 : (ch != 0) = true := by simp [hc]
    clear hc
    go_wp2_with fail
    go_ret
    exact ⟨⟨_, _, _, rfl, by rw [HE.out]; exact Ri.none _ _⟩, hA1⟩
end Go.Proofs.Ytcobolmagjlbeaa.Wk
