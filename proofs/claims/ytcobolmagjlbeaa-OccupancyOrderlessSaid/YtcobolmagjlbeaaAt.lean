/- At, in the layer. Conditions: the slices read as lists; no time is greater than an int. -/
import Derived.Test.YtcobolmagjlbeaaLvl
import Derived.Deep.RegionHeld3
namespace Go.Proofs.Ytcobolmagjlbeaa.Mt
/-- how many periods count, and the level behind them -/
def wn (p t : Int) : Int := if 64 < t / p then 64 else t / p
def aS (s : Sc) (ts : List Int) (t : Int) : Int :=
  if chS s ≠ 0 then 0 else if ¬ (0 ≤ t ∧ t < 68719476736) then 0 else lv s (cn s.p ((t / s.p - wn s.p t) * s.p) (wn s.p t).toNat ts ts.length) (wn s.p t).toNat
theorem div_in {p t : Int} (hp : 1 ≤ p ∧ p ≤ 86400) (ht : 0 ≤ t ∧ t < 68719476736) : 0 ≤ t / p ∧ t / p < 68719476736 := by
  refine ⟨Int.ediv_nonneg (by omega) (by omega), ?_⟩
  have := Int.ediv_le_self (a := t) p ht.1
  omega
theorem from_in {p t q : Int} (hp : 1 ≤ p ∧ p ≤ 86400) (ht : 0 ≤ t ∧ t < 68719476736) (hq : 0 ≤ q ∧ q ≤ t / p) : 0 ≤ (t / p - q) * p ∧ (t / p - q) * p < 68719476736 := by
  refine ⟨Int.mul_nonneg (by omega) (by omega), ?_⟩
  have h1 : t / p * p ≤ t := Int.ediv_mul_le t (by omega)
  have h2 : 0 ≤ q * p := Int.mul_nonneg hq.1 (by omega)
  rw [Int.sub_mul]; omega
end Go.Proofs.Ytcobolmagjlbeaa.Mt
namespace Go.Proofs.Ytcobolmagjlbeaa.Wk
open Go.RowKit
open Go.Proofs.Ytcobolmagjlbeaa.Mt
/-- nothing that was in w0 is written; the boxed scale, its lists, and the list of the call -/
structure Kp (w0 : World) (p : Int) (A1 A2 A3 : Option Addr) (n1 n2 n3 c1 c2 c3 : Nat) (up dn pt : List Int) (A : Option Addr) (m : Nat) (ts : List Int) (wr : World) : Prop where
  bel : Below w0.heap.size w0 wr
  bx : Bx wr w0.heap.size 24 #[.int .i64 p, .slice A1 n1 c1, .slice A2 n2 c2, .slice A3 n3 c3]
  r1 : Ri wr wr.heap.size A1 n1 up
  r2 : Ri wr wr.heap.size A2 n2 dn
  r3 : Ri wr wr.heap.size A3 n3 pt
  rt : Ri wr wr.heap.size A m ts
/-- the same, with the cells that the loads read -/
def Kc (w0 : World) (p : Int) (A1 A2 A3 : Option Addr) (n1 n2 n3 c1 c2 c3 : Nat) (up dn pt : List Int) (A : Option Addr) (m : Nat) (ts : List Int) (wr : World) : Prop :=
  Hid (Kp w0 p A1 A2 A3 n1 n2 n3 c1 c2 c3 up dn pt A m ts wr) ∧ wr.cell? ⟨w0.heap.size, 0, none⟩ = some (.int .i64 p) ∧ wr.cell? ⟨w0.heap.size, 1, none⟩ = some (.slice A1 n1 c1) ∧ wr.cell? ⟨w0.heap.size, 2, none⟩ = some (.slice A2 n2 c2) ∧ wr.cell? ⟨w0.heap.size, 3, none⟩ = some (.slice A3 n3 c3)
section
variable {w0 wr w1 : World} {p : Int} {A1 A2 A3 : Option Addr} {n1 n2 n3 c1 c2 c3 : Nat} {up dn pt : List Int} {A : Option Addr} {m : Nat} {ts : List Int}
theorem Kp.next (h : Kp w0 p A1 A2 A3 n1 n2 n3 c1 c2 c3 up dn pt A m ts wr) (hb : Below wr.heap.size wr w1) : Kp w0 p A1 A2 A3 n1 n2 n3 c1 c2 c3 up dn pt A m ts w1 := ⟨upB h.bel hb, h.bx.next hb, h.r1.up hb, h.r2.up hb, h.r3.up hb, h.rt.up hb⟩
theorem Kp.c (h : Kp w0 p A1 A2 A3 n1 n2 n3 c1 c2 c3 up dn pt A m ts wr) : Kc w0 p A1 A2 A3 n1 n2 n3 c1 c2 c3 up dn pt A m ts wr := ⟨Lib.hid h, h.bx.cells4⟩
theorem Kp.start (h1 : Ri w0 w0.heap.size A1 n1 up) (h2 : Ri w0 w0.heap.size A2 n2 dn) (h3 : Ri w0 w0.heap.size A3 n3 pt) (ht : Ri w0 w0.heap.size A m ts) : Kp w0 p A1 A2 A3 n1 n2 n3 c1 c2 c3 up dn pt A m ts (w0.alloc (.cells #[.int .i64 p, .slice A1 n1 c1, .slice A2 n2 c2, .slice A3 n3 c3] 24)) :=
  ⟨b1 _ _, Bx.new _ _ _, h1.up (b1 _ _), h2.up (b1 _ _), h3.up (b1 _ _), ht.up (b1 _ _)⟩
end
end Go.Proofs.Ytcobolmagjlbeaa.Wk
namespace Go.Proofs.Ytcobolmagjlbeaa.Wk
open Go.RowKit
open Go.Proofs.Ytcobolmagjlbeaa.Mt
theorem count_any2 {ni : Int} {n : Nat} (hni : ni = (n : Int)) (p : Int) (A1 A2 A3 : Option Addr) (n1 n2 n3 c1 c2 c3 : Nat) (A : Option Addr) (m c : Nat) (ts : List Int) (from_ : Int) (w : World) (ht : Ri w w.heap.size A m ts) (hR : ∀ i, at_ ts i ≤ 9223372036854775807) (hp : 1 ≤ p) (hf : 0 ≤ from_) (hn : n ≤ 1024) :
    Calls Try.prog 27 #[.agg #[.int .i64 p, .slice A1 n1 c1, .slice A2 n2 c2, .slice A3 n3 c3], .slice A m c, .int .i64 from_, .int .i64 ni] w fun e w' => (∃ g, e = .returned (.slice (some ⟨g, 0, none⟩) n n) ∧ Bx w' g 3 (ints (cn p from_ n ts m)).toArray) ∧ Below w.heap.size w w' := by
  subst hni; exact count_any p A1 A2 A3 n1 n2 n3 c1 c2 c3 A m c ts from_ n w ht hR hp hf hn
end Go.Proofs.Ytcobolmagjlbeaa.Wk
namespace Go.Proofs.Ytcobolmagjlbeaa.Wk
open Go.RowKit
open Go.Proofs.Ytcobolmagjlbeaa.Mt

set_option maxHeartbeats 4000000 in
set_option maxRecDepth 100000 in
theorem at23 (p : Int) (A1 A2 A3 : Option Addr) (n1 n2 n3 c1 c2 c3 : Nat) (up dn pt : List Int) (A : Option Addr) (m c : Nat) (ts : List Int) (t : Int) (w : World) (h1 : Ri w w.heap.size A1 n1 up) (h2 : Ri w w.heap.size A2 n2 dn) (h3 : Ri w w.heap.size A3 n3 pt) (ht : Ri w w.heap.size A m ts) (hR : ∀ i, at_ ts i ≤ 9223372036854775807) :
    Calls Try.prog 23 #[.agg #[.int .i64 p, .slice A1 n1 c1, .slice A2 n2 c2, .slice A3 n3 c3], .slice A m c, .int .i64 t] w fun e w' => e = .returned (.int .i64 (aS ⟨p, up, dn, pt⟩ ts t)) ∧ Below w.heap.size w w' := by
  have hlm : ts.length = m := ht.1
  have hn1 := h1.2.1
  have hn3 := h3.2.1
  have HK := Lib.hid (Kp.start (p := p) (c1 := c1) (c2 := c2) (c3 := c3) h1 h2 h3 ht)
  have HR := Lib.hid hR
  obtain ⟨ch, hch⟩ : ∃ ch, chS ⟨p, up, dn, pt⟩ = ch := ⟨_, rfl⟩
  have HP : Hid (aS ⟨p, up, dn, pt⟩ ts t = if ch ≠ 0 then 0 else if ¬ (0 ≤ t ∧ t < 68719476736) then 0 else lv ⟨p, up, dn, pt⟩ (cn p ((t / p - wn p t) * p) (wn p t).toNat ts m) (wn p t).toNat) := Lib.hid (by simp only [aS, hch, hlm])
  have HQ : Hid (ch = 0 → (1 ≤ p ∧ p ≤ 86400) ∧ n1 ≤ n2) := Lib.hid (fun h => by have := ch_eq (s := ⟨p, up, dn, pt⟩) (hch.trans h); have e1 := h1.1; have e2 := h2.1; simp only at this; omega)
  have HC := Lib.hid hch
  clear h1 h2 h3 ht hR hlm hch
  go_enter Try.func23, Try.ntmps23
  go_wp2_with fail
  refine (check_any p A1 A2 A3 n1 n2 n3 c1 c2 c3 up dn pt _ HK.out.r1 HK.out.r2 HK.out.r3).mono ?_
  rintro e w1 ⟨rfl, hb⟩
  replace HK := Lib.hid (HK.out.next hb)
  clear hb
  obtain ⟨b0, b1', b2, b3⟩ := HK.out.bx.cells4
  rw [HC.out]
  by_cases hc : ch = 0
  · subst hc
    have hpp := (HQ.out rfl).1
    have hnn := (HQ.out rfl).2
    go_wp2_with fail
    refine (time_any t _).mono ?_
    rintro e w2 ⟨rfl, rfl⟩
    by_cases hf : 0 ≤ t ∧ t < 68719476736
    · have htm : tim t = true := by simp [tim, hf]
      rw [htm]
      have hdv := div_in hpp hf
      obtain ⟨d, hd⟩ : ∃ d : Nat, t / p = (d : Int) := ⟨(t / p).toNat, by omega⟩
      have HDD := Lib.hid hd
      by_cases hm : 64 < t / p
      · have hq : wn p t = 64 := by rw [wn, if_pos hm]
        have hfi := from_in hpp hf (q := 64) ⟨by omega, by omega⟩
        obtain ⟨f, hfe⟩ : ∃ f, (t / p - 64) * p = f := ⟨_, rfl⟩
        rw [hfe] at hfi
        have HE : Hid (aS ⟨p, up, dn, pt⟩ ts t = lv ⟨p, up, dn, pt⟩ (cn p f 64 ts m) 64) := Lib.hid (by rw [HP.out, if_neg (by simp), if_neg (by simp [hf]), hq, hfe]; rfl)
        clear HP HQ hq hd
        go_wp2_with fail
        have HNI : Hid ((64 : Int) = ((64 : Nat) : Int)) := Lib.hid rfl
        have HFI := Lib.hid hfi.1
        have HN64 : Hid (64 ≤ 1024) := Lib.hid (by omega)
        have E3 : IntKind.i64.wrap ((t / p - 64) * p) = f := by rw [hfe]; exact IntWalk.i64_in _ (by omega)
        have E2 := IntWalk.i64_in (t / p - 64) (by omega)
        clear hfe
        have E1 := IntWalk.i64_quo t p (by omega)
        have hp0 : ¬ p = 0 := by omega
        have hp1 : (p == 0) = false := by simp [hp0]
        clear hm hdv
        replace HK := Lib.hid (HK.out.next (Below.refl w1.heap.size w1).drew)
        go_region_held3 (fun w' => Hid (Kp w p A1 A2 A3 n1 n2 n3 c1 c2 c3 up dn pt A m ts w') ∧ w'.cell? ⟨w.heap.size, 0, none⟩ = some (.int .i64 p) ∧ w'.cell? ⟨w.heap.size, 1, none⟩ = some (.slice A1 n1 c1) ∧ w'.cell? ⟨w.heap.size, 2, none⟩ = some (.slice A2 n2 c2) ∧ w'.cell? ⟨w.heap.size, 3, none⟩ = some (.slice A3 n3 c3)) (first | exact HK.out.c | assumption)
          (first
            | (go_at_call 27; refine (count_any2 HNI.out p A1 A2 A3 n1 n2 n3 c1 c2 c3 A m c ts f _ HK.out.rt HR.out hpp.1 HFI.out HN64.out).mono ?_; rintro e w2 ⟨⟨g, rfl, hg⟩, hb⟩; have HG := Lib.hid hg; replace HK := Lib.hid (HK.out.next hb); clear hg hb))
        go_wp2_with fail
        go_loopw [9, 38] (fun l i wr => ∃ k : Nat, k ≤ 64 ∧ i = .int .i64 k ∧ l = .int .i64 (lv ⟨p, up, dn, pt⟩ (cn p f 64 ts m) k) ∧ Hid (Kp w p A1 A2 A3 n1 n2 n3 c1 c2 c3 up dn pt A m ts wr) ∧ Hid (Bx wr g 3 (ints (cn p f 64 ts m)).toArray)) (fun _ i _ => 64 - (intOf i).toNat)
        case atStart => exact ⟨0, Nat.zero_le _, rfl, rfl, HK, HG⟩
        case round =>
          clear HK HG
          obtain ⟨k, hk, rfl, rfl, HK, HG⟩ := hrel
          by_cases hlt : k < 64
          · have hltI : (k : Int) < 64 := by have := HDD.out; omega
            have hk64 : k < 1024 := by have := HN64.out; omega
            have hkl : k < (cn p f 64 ts m).length := by rw [cn_len]; exact hlt
            have hlv : Hid (((nx ⟨p, up, dn, pt⟩ (lv ⟨p, up, dn, pt⟩ (cn p f 64 ts m) k) (at_ (cn p f 64 ts m) k) : Nat) : Int) = lv ⟨p, up, dn, pt⟩ (cn p f 64 ts m) (k + 1)) := Lib.hid rfl
            have hc4 := HK.out.bx.cells4
            go_wp2_with fail
            clear hc4
            replace HK := Lib.hid (HK.out.next (Below.refl wr.heap.size wr).drew)
            replace HG := Lib.hid (HG.out.next (Below.refl wr.heap.size wr).drew)
            go_region_held3 (fun w' => (Hid (Kp w p A1 A2 A3 n1 n2 n3 c1 c2 c3 up dn pt A m ts w') ∧ w'.cell? ⟨w.heap.size, 0, none⟩ = some (.int .i64 p) ∧ w'.cell? ⟨w.heap.size, 1, none⟩ = some (.slice A1 n1 c1) ∧ w'.cell? ⟨w.heap.size, 2, none⟩ = some (.slice A2 n2 c2) ∧ w'.cell? ⟨w.heap.size, 3, none⟩ = some (.slice A3 n3 c3)) ∧ w'.cell? ⟨g, k, none⟩ = some (.int .i64 (at_ (cn p f 64 ts m) k))) (first | exact ⟨HK.out.c, HG.out.bcell hkl⟩ | assumption)
          (first
            | (go_at_call 25; refine (next_any p A1 A2 A3 n1 n2 n3 c1 c2 c3 up dn _ _ _ HK.out.r1 HK.out.r2 hnn pt).mono ?_; rintro e w3 ⟨rfl, hb⟩; rw [hlv.out]; replace HK := Lib.hid (HK.out.next hb); replace HG := Lib.hid (HG.out.next hb); clear hb))
            go_wp2_with fail
            go_roundw
            case rel => exact ⟨k + 1, by omega, by go_num, rfl, HK, HG⟩
            case measure => simp [intOf]; omega
          · have hltI : ¬ (k : Int) < 64 := by have := HDD.out; omega
            have HEk : Hid (aS ⟨p, up, dn, pt⟩ ts t = lv ⟨p, up, dn, pt⟩ (cn p f 64 ts m) k) := Lib.hid (by have e : k = 64 := by { omega }; rw [HE.out, e])
            go_wp2_with fail
            go_ret
            exact ⟨by rw [HEk.out]; rfl, HK.out.bel⟩
      · have hq : wn p t = (d : Int) := by rw [wn, if_neg hm, hd]
        have HE : Hid (aS ⟨p, up, dn, pt⟩ ts t = lv ⟨p, up, dn, pt⟩ (cn p 0 d ts m) d) := Lib.hid (by rw [HP.out, if_neg (by simp), if_neg (by simp [hf]), hq, hd]; simp)
        have hfi : (0 : Int) ≤ 0 ∧ (0 : Int) < 68719476736 := by omega
        clear HP HQ hq hd
        go_wp2_with fail
        have HNI := HDD
        have E0 : IntKind.i64.wrap 0 = 0 := by decide
        have HFI := Lib.hid hfi.1
        have HN64 : Hid (d ≤ 1024) := Lib.hid (by have := HDD.out; omega)
        have E1 := IntWalk.i64_quo t p (by omega)
        have hp0 : ¬ p = 0 := by omega
        have hp1 : (p == 0) = false := by simp [hp0]
        clear hm hdv
        replace HK := Lib.hid (HK.out.next (Below.refl w1.heap.size w1).drew)
        go_region_held3 (fun w' => Hid (Kp w p A1 A2 A3 n1 n2 n3 c1 c2 c3 up dn pt A m ts w') ∧ w'.cell? ⟨w.heap.size, 0, none⟩ = some (.int .i64 p) ∧ w'.cell? ⟨w.heap.size, 1, none⟩ = some (.slice A1 n1 c1) ∧ w'.cell? ⟨w.heap.size, 2, none⟩ = some (.slice A2 n2 c2) ∧ w'.cell? ⟨w.heap.size, 3, none⟩ = some (.slice A3 n3 c3)) (first | exact HK.out.c | assumption)
          (first
            | (go_at_call 27; refine (count_any2 HNI.out p A1 A2 A3 n1 n2 n3 c1 c2 c3 A m c ts 0 _ HK.out.rt HR.out hpp.1 HFI.out HN64.out).mono ?_; rintro e w2 ⟨⟨g, rfl, hg⟩, hb⟩; have HG := Lib.hid hg; replace HK := Lib.hid (HK.out.next hb); clear hg hb))
        rw [HDD.out]
        go_wp2_with fail
        go_loopw [9, 38] (fun l i wr => ∃ k : Nat, k ≤ d ∧ i = .int .i64 k ∧ l = .int .i64 (lv ⟨p, up, dn, pt⟩ (cn p 0 d ts m) k) ∧ Hid (Kp w p A1 A2 A3 n1 n2 n3 c1 c2 c3 up dn pt A m ts wr) ∧ Hid (Bx wr g 3 (ints (cn p 0 d ts m)).toArray)) (fun _ i _ => d - (intOf i).toNat)
        case atStart => exact ⟨0, Nat.zero_le _, rfl, rfl, HK, HG⟩
        case round =>
          clear HK HG
          obtain ⟨k, hk, rfl, rfl, HK, HG⟩ := hrel
          by_cases hlt : k < d
          · have hltI : (k : Int) < (d : Int) := by have := HDD.out; omega
            have hk64 : k < 1024 := by have := HN64.out; omega
            have hkl : k < (cn p 0 d ts m).length := by rw [cn_len]; exact hlt
            have hlv : Hid (((nx ⟨p, up, dn, pt⟩ (lv ⟨p, up, dn, pt⟩ (cn p 0 d ts m) k) (at_ (cn p 0 d ts m) k) : Nat) : Int) = lv ⟨p, up, dn, pt⟩ (cn p 0 d ts m) (k + 1)) := Lib.hid rfl
            have hc4 := HK.out.bx.cells4
            go_wp2_with fail
            clear hc4
            replace HK := Lib.hid (HK.out.next (Below.refl wr.heap.size wr).drew)
            replace HG := Lib.hid (HG.out.next (Below.refl wr.heap.size wr).drew)
            go_region_held3 (fun w' => (Hid (Kp w p A1 A2 A3 n1 n2 n3 c1 c2 c3 up dn pt A m ts w') ∧ w'.cell? ⟨w.heap.size, 0, none⟩ = some (.int .i64 p) ∧ w'.cell? ⟨w.heap.size, 1, none⟩ = some (.slice A1 n1 c1) ∧ w'.cell? ⟨w.heap.size, 2, none⟩ = some (.slice A2 n2 c2) ∧ w'.cell? ⟨w.heap.size, 3, none⟩ = some (.slice A3 n3 c3)) ∧ w'.cell? ⟨g, k, none⟩ = some (.int .i64 (at_ (cn p 0 d ts m) k))) (first | exact ⟨HK.out.c, HG.out.bcell hkl⟩ | assumption)
          (first
            | (go_at_call 25; refine (next_any p A1 A2 A3 n1 n2 n3 c1 c2 c3 up dn _ _ _ HK.out.r1 HK.out.r2 hnn pt).mono ?_; rintro e w3 ⟨rfl, hb⟩; rw [hlv.out]; replace HK := Lib.hid (HK.out.next hb); replace HG := Lib.hid (HG.out.next hb); clear hb))
            go_wp2_with fail
            go_roundw
            case rel => exact ⟨k + 1, by omega, by go_num, rfl, HK, HG⟩
            case measure => simp [intOf]; omega
          · have hltI : ¬ (k : Int) < (d : Int) := by have := HDD.out; omega
            have HEk : Hid (aS ⟨p, up, dn, pt⟩ ts t = lv ⟨p, up, dn, pt⟩ (cn p 0 d ts m) k) := Lib.hid (by have e : k = d := by { omega }; rw [HE.out, e])
            go_wp2_with fail
            go_ret
            exact ⟨by rw [HEk.out]; rfl, HK.out.bel⟩
    · have htm : tim t = false := by simp only [tim, hf, decide_false]
      rw [htm]
      have HE : Hid (aS ⟨p, up, dn, pt⟩ ts t = 0) := Lib.hid (by rw [HP.out]; simp only [hf]; simp)
      go_wp2_with fail
      go_ret
      exact ⟨by rw [HE.out]; rfl, HK.out.bel⟩
  · have HE : Hid (aS ⟨p, up, dn, pt⟩ ts t = 0) := Lib.hid (by rw [HP.out, if_pos hc])
    have e1 : (ch == 0) = false := by simp [hc]
    have e2 : (ch != 0) = true := by simp [hc]
    clear hc
    go_wp2_with fail
    go_ret
    exact ⟨by rw [HE.out]; rfl, HK.out.bel⟩
end Go.Proofs.Ytcobolmagjlbeaa.Wk
