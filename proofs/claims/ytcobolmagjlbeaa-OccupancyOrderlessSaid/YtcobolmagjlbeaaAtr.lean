/- At, in the reference. Conditions: the slices read as lists; no time is greater than an int. -/
import Derived.Test.YtcobolmagjlbeaaAt
import Derived.Deep.RegionHeld3
import Derived.Test.YtcobolmagjlbeaaCtr
import Derived.Test.YtcobolmagjlbeaaNxr
namespace Go.Proofs.Ytcobolmagjlbeaa.Wk
open Go.RowKit
open Go.Proofs.Ytcobolmagjlbeaa.Mt
theorem counts22i {ni : Int} {n : Nat} (hni : ni = (n : Int)) (p : Int) (A1 A2 A3 : Option Addr) (n1 n2 n3 c1 c2 c3 : Nat) (up dn pt : List Int) (A : Option Addr) (m c : Nat) (ts : List Int) (f : Int) (w : World) (h1 : Ri w w.heap.size A1 n1 up) (h2 : Ri w w.heap.size A2 n2 dn) (h3 : Ri w w.heap.size A3 n3 pt) (ht : Ri w w.heap.size A m ts) (hR : ∀ i, at_ ts i ≤ 9223372036854775807) :
    Calls Try.prog 22 #[.agg #[.int .i64 p, .slice A1 n1 c1, .slice A2 n2 c2, .slice A3 n3 c3], .slice A m c, .int .i64 f, .int .i64 ni] w fun e w' => (∃ A' k c', e = .returned (.slice A' k c') ∧ Ri w' w'.heap.size A' k (ctS ⟨p, up, dn, pt⟩ ts f (n : Int))) ∧ Below w.heap.size w w' := by
  subst hni; exact counts22 p A1 A2 A3 n1 n2 n3 c1 c2 c3 up dn pt A m c ts f n w h1 h2 h3 ht hR
theorem ct_ok {s : Sc} {ts : List Int} {f : Int} {n : Nat} (h : chS s = 0) (hf : 0 ≤ f ∧ f < 68719476736) (hn : n ≤ 1024) : ctS s ts f (n : Int) = cn s.p f n ts ts.length := by
  rw [ctS, if_neg (by simp [h]), if_neg (by simp [hf]), if_neg (by omega), if_neg (by omega)]; rfl

set_option maxHeartbeats 4000000 in
set_option maxRecDepth 100000 in
theorem at24 (p : Int) (A1 A2 A3 : Option Addr) (n1 n2 n3 c1 c2 c3 : Nat) (up dn pt : List Int) (A : Option Addr) (m c : Nat) (ts : List Int) (t : Int) (w : World) (h1 : Ri w w.heap.size A1 n1 up) (h2 : Ri w w.heap.size A2 n2 dn) (h3 : Ri w w.heap.size A3 n3 pt) (ht : Ri w w.heap.size A m ts) (hR : ∀ i, at_ ts i ≤ 9223372036854775807) :
    Calls Try.prog 24 #[.agg #[.int .i64 p, .slice A1 n1 c1, .slice A2 n2 c2, .slice A3 n3 c3], .slice A m c, .int .i64 t] w fun e w' => e = .returned (.int .i64 (aS ⟨p, up, dn, pt⟩ ts t)) ∧ Below w.heap.size w w' := by
  have hlm : ts.length = m := ht.1
  have hn1 := h1.2.1
  have hn3 := h3.2.1
  have HK := Lib.hid (Kp.start (p := p) (c1 := c1) (c2 := c2) (c3 := c3) h1 h2 h3 ht)
  have HR := Lib.hid hR
  obtain ⟨ch, hch⟩ : ∃ ch, chS ⟨p, up, dn, pt⟩ = ch := ⟨_, rfl⟩
  have HP : Hid (aS ⟨p, up, dn, pt⟩ ts t = if ch ≠ 0 then 0 else if ¬ (0 ≤ t ∧ t < 68719476736) then 0 else lv ⟨p, up, dn, pt⟩ (cn p ((t / p - wn p t) * p) (wn p t).toNat ts m) (wn p t).toNat) := Lib.hid (by simp only [aS, hch, hlm])
  have HQ : Hid (ch = 0 → (1 ≤ p ∧ p ≤ 86400) ∧ n1 ≤ n2) := Lib.hid (fun h => by have := ch_eq (s := ⟨p, up, dn, pt⟩) (hch.trans h); have e1 := h1.1; have e2 := h2.1; simp only at this; omega)
  have HC := Lib.hid hch
  have HLM := Lib.hid hlm
  have HNS : Hid (ch = 0 → ∀ l x, nxS ⟨p, up, dn, pt⟩ l x = ((nx ⟨p, up, dn, pt⟩ l x : Nat) : Int)) := Lib.hid (fun h l x => by simp [nxS, hch, h])
  clear h1 h2 h3 ht hR hlm hch
  go_enter Try.func24, Try.ntmps24
  go_wp2_with fail
  refine (Check_any p A1 A2 A3 n1 n2 n3 c1 c2 c3 up dn pt _ HK.out.r1 HK.out.r2 HK.out.r3).mono ?_
  rintro e w1 ⟨rfl, hb⟩
  replace HK := Lib.hid (HK.out.next hb)
  clear hb
  obtain ⟨b0, b1', b2, b3⟩ := HK.out.bx.cells4
  rw [HC.out]
  by_cases hc : ch = 0
  · subst hc
    have hpp := (HQ.out rfl).1
    have HNX := Lib.hid (HNS.out rfl)
    clear HNS
    go_wp2_with fail
    refine (Time_any t _).mono ?_
    rintro e w2 ⟨rfl, rfl⟩
    by_cases hf : 0 ≤ t ∧ t < 68719476736
    · have htm : tim t = true := by simp [tim, hf]
      rw [htm]
      have hdv := div_in hpp hf
      obtain ⟨d, hd⟩ : ∃ d : Nat, t / p = (d : Int) := ⟨(t / p).toNat, by omega⟩
      have HDD := Lib.hid hd
      by_cases hm : 64 ≤ t / p
      · have hq : wn p t = 64 := by unfold wn; split <;> omega
        have hfi := from_in hpp hf (q := 64) ⟨by omega, by omega⟩
        obtain ⟨f, hfe⟩ : ∃ f, (t / p - 64) * p = f := ⟨_, rfl⟩
        rw [hfe] at hfi
        have HE : Hid (aS ⟨p, up, dn, pt⟩ ts t = lv ⟨p, up, dn, pt⟩ (cn p f 64 ts m) 64) := Lib.hid (by rw [HP.out, if_neg (by simp), if_neg (by simp [hf]), hq, hfe]; rfl)
        clear HP HQ hq hd
        go_wp2_with fail
        have HFI := Lib.hid hfi
        have HN64 : Hid (64 ≤ 1024) := Lib.hid (by have := HDD.out; omega)
        have HCT : Hid (ctS ⟨p, up, dn, pt⟩ ts f ((64 : Nat) : Int) = cn p f 64 ts m) := Lib.hid (by have := ct_ok (s := ⟨p, up, dn, pt⟩) (ts := ts) (n := 64) HC.out hfi HN64.out; rw [HLM.out] at this; exact this)
        have HNI : Hid (t / p - (t / p - 64) = ((64 : Nat) : Int)) := Lib.hid (by simp; omega)
        have E3 : IntKind.i64.wrap ((t / p - 64) * p) = f := by rw [hfe]; exact IntWalk.i64_in _ (by omega)
        have hfb : 0 ≤ f ∧ f < 68719476736 := hfi
        clear hm
        refine (counts22i HNI.out p A1 A2 A3 n1 n2 n3 c1 c2 c3 up dn pt A m c ts f _ HK.out.r1 HK.out.r2 HK.out.r3 HK.out.rt HR.out).mono ?_
        rintro e w2 ⟨⟨A', k0, c', rfl, hR2⟩, hb⟩
        rw [HCT.out] at hR2
        obtain rfl : 64 = k0 := by rw [← hR2.1, cn_len]
        have HG := Lib.hid hR2
        replace HK := Lib.hid (HK.out.next hb)
        clear hR2 hb
        go_wp2_with fail
        go_loopw [10, 11] (fun l i wr => ∃ k : Nat, k ≤ 64 ∧ i = .int .i64 k ∧ l = .int .i64 (lv ⟨p, up, dn, pt⟩ (cn p f 64 ts m) k) ∧ Hid (Kp w p A1 A2 A3 n1 n2 n3 c1 c2 c3 up dn pt A m ts wr) ∧ Hid (Ri wr wr.heap.size A' 64 (cn p f 64 ts m))) (fun _ i _ => 64 - (intOf i).toNat)
        case atStart => exact ⟨0, Nat.zero_le _, rfl, rfl, HK, HG⟩
        case round =>
          clear HK HG
          obtain ⟨k, hk, rfl, rfl, HK, HG⟩ := hrel
          by_cases hlt : k < 64
          · have hltI : (k : Int) < ((64 : Nat) : Int) := by omega
            have hk64 : k < 1024 := by have := HN64.out; omega
            obtain ⟨bb, off, rfl, _, d1⟩ := HG.out.get hlt
            have hlv : Hid (nxS ⟨p, up, dn, pt⟩ (lv ⟨p, up, dn, pt⟩ (cn p f 64 ts m) k) (at_ (cn p f 64 ts m) k) = lv ⟨p, up, dn, pt⟩ (cn p f 64 ts m) (k + 1)) := Lib.hid (HNX.out _ _)
            have hc4 := HK.out.bx.cells4
            go_wp2_with fail
            clear hc4
            replace HK := Lib.hid (HK.out.next (Below.refl wr.heap.size wr).drew)
            replace HG := Lib.hid (HG.out.up (Below.refl wr.heap.size wr).drew)
            go_region_held3 (fun w' => (Hid (Kp w p A1 A2 A3 n1 n2 n3 c1 c2 c3 up dn pt A m ts w') ∧ w'.cell? ⟨w.heap.size, 0, none⟩ = some (.int .i64 p) ∧ w'.cell? ⟨w.heap.size, 1, none⟩ = some (.slice A1 n1 c1) ∧ w'.cell? ⟨w.heap.size, 2, none⟩ = some (.slice A2 n2 c2) ∧ w'.cell? ⟨w.heap.size, 3, none⟩ = some (.slice A3 n3 c3)) ∧ w'.cell? ⟨bb, off + k, none⟩ = some (.int .i64 (at_ (cn p f 64 ts m) k))) (first | exact ⟨HK.out.c, HG.out.two hlt⟩ | assumption)
          (first
            | (go_at_call 17; refine (next17 p A1 A2 A3 n1 n2 n3 c1 c2 c3 up dn pt _ _ _ HK.out.r1 HK.out.r2 HK.out.r3).mono ?_; rintro e w3 ⟨rfl, hb⟩; rw [hlv.out]; replace HK := Lib.hid (HK.out.next hb); replace HG := Lib.hid (HG.out.up hb); clear hb))
            go_wp2_with fail
            go_roundw
            case rel => exact ⟨k + 1, by omega, by go_num, rfl, HK, HG⟩
            case measure => simp [intOf]; omega
          · have hltI : ¬ (k : Int) < ((64 : Nat) : Int) := by omega
            have HEk : Hid (aS ⟨p, up, dn, pt⟩ ts t = lv ⟨p, up, dn, pt⟩ (cn p f 64 ts m) k) := Lib.hid (by have e : k = 64 := by { omega }; rw [HE.out, e])
            go_wp2_with fail
            go_ret
            exact ⟨by rw [HEk.out]; rfl, HK.out.bel⟩
      · have hq : wn p t = (d : Int) := by rw [wn, if_neg (by omega), hd]
        have HE : Hid (aS ⟨p, up, dn, pt⟩ ts t = lv ⟨p, up, dn, pt⟩ (cn p 0 d ts m) d) := Lib.hid (by rw [HP.out, if_neg (by simp), if_neg (by simp [hf]), hq, hd]; simp)
        have hfi : (0 : Int) ≤ 0 ∧ (0 : Int) < 68719476736 := by omega
        clear HP HQ hq hd
        go_wp2_with fail
        have HFI := Lib.hid hfi
        have HN64 : Hid (d ≤ 1024) := Lib.hid (by have := HDD.out; omega)
        have HCT : Hid (ctS ⟨p, up, dn, pt⟩ ts 0 ((d : Nat) : Int) = cn p 0 d ts m) := Lib.hid (by have := ct_ok (s := ⟨p, up, dn, pt⟩) (ts := ts) (n := d) HC.out hfi HN64.out; rw [HLM.out] at this; exact this)
        have HNI := HDD
        clear hm
        refine (counts22i HNI.out p A1 A2 A3 n1 n2 n3 c1 c2 c3 up dn pt A m c ts 0 _ HK.out.r1 HK.out.r2 HK.out.r3 HK.out.rt HR.out).mono ?_
        rintro e w2 ⟨⟨A', k0, c', rfl, hR2⟩, hb⟩
        rw [HCT.out] at hR2
        obtain rfl : d = k0 := by rw [← hR2.1, cn_len]
        have HG := Lib.hid hR2
        replace HK := Lib.hid (HK.out.next hb)
        clear hR2 hb
        go_wp2_with fail
        go_loopw [10, 11] (fun l i wr => ∃ k : Nat, k ≤ d ∧ i = .int .i64 k ∧ l = .int .i64 (lv ⟨p, up, dn, pt⟩ (cn p 0 d ts m) k) ∧ Hid (Kp w p A1 A2 A3 n1 n2 n3 c1 c2 c3 up dn pt A m ts wr) ∧ Hid (Ri wr wr.heap.size A' d (cn p 0 d ts m))) (fun _ i _ => d - (intOf i).toNat)
        case atStart => exact ⟨0, Nat.zero_le _, rfl, rfl, HK, HG⟩
        case round =>
          clear HK HG
          obtain ⟨k, hk, rfl, rfl, HK, HG⟩ := hrel
          by_cases hlt : k < d
          · have hltI : (k : Int) < ((d : Nat) : Int) := by omega
            have hk64 : k < 1024 := by have := HN64.out; omega
            obtain ⟨bb, off, rfl, _, d1⟩ := HG.out.get hlt
            have hlv : Hid (nxS ⟨p, up, dn, pt⟩ (lv ⟨p, up, dn, pt⟩ (cn p 0 d ts m) k) (at_ (cn p 0 d ts m) k) = lv ⟨p, up, dn, pt⟩ (cn p 0 d ts m) (k + 1)) := Lib.hid (HNX.out _ _)
            have hc4 := HK.out.bx.cells4
            go_wp2_with fail
            clear hc4
            replace HK := Lib.hid (HK.out.next (Below.refl wr.heap.size wr).drew)
            replace HG := Lib.hid (HG.out.up (Below.refl wr.heap.size wr).drew)
            go_region_held3 (fun w' => (Hid (Kp w p A1 A2 A3 n1 n2 n3 c1 c2 c3 up dn pt A m ts w') ∧ w'.cell? ⟨w.heap.size, 0, none⟩ = some (.int .i64 p) ∧ w'.cell? ⟨w.heap.size, 1, none⟩ = some (.slice A1 n1 c1) ∧ w'.cell? ⟨w.heap.size, 2, none⟩ = some (.slice A2 n2 c2) ∧ w'.cell? ⟨w.heap.size, 3, none⟩ = some (.slice A3 n3 c3)) ∧ w'.cell? ⟨bb, off + k, none⟩ = some (.int .i64 (at_ (cn p 0 d ts m) k))) (first | exact ⟨HK.out.c, HG.out.two hlt⟩ | assumption)
          (first
            | (go_at_call 17; refine (next17 p A1 A2 A3 n1 n2 n3 c1 c2 c3 up dn pt _ _ _ HK.out.r1 HK.out.r2 HK.out.r3).mono ?_; rintro e w3 ⟨rfl, hb⟩; rw [hlv.out]; replace HK := Lib.hid (HK.out.next hb); replace HG := Lib.hid (HG.out.up hb); clear hb))
            go_wp2_with fail
            go_roundw
            case rel => exact ⟨k + 1, by omega, by go_num, rfl, HK, HG⟩
            case measure => simp [intOf]; omega
          · have hltI : ¬ (k : Int) < ((d : Nat) : Int) := by omega
            have HEk : Hid (aS ⟨p, up, dn, pt⟩ ts t = lv ⟨p, up, dn, pt⟩ (cn p 0 d ts m) k) := Lib.hid (by have e : k = d := by { omega }; rw [HE.out, e])
            go_wp2_with fail
            go_ret
            exact ⟨by rw [HEk.out]; rfl, HK.out.bel⟩
    · have htm : tim t = false := by simp only [tim, hf, decide_false]
      rw [htm]
      have HE : Hid (aS ⟨p, up, dn, pt⟩ ts t = 0) := Lib.hid (by rw [HP.out]; simp only [hf]; simp)
      go_wp2_with fail
      go_ret
      exact ⟨by rw [HE.out]; rfl, HK.out.bel⟩
  · have HE : Hid (aS ⟨p, up, dn, pt⟩ ts t = 0) := Lib.hid (by rw [HP.out, if_pos hc])
    have e1 : (ch == 0) = false := by simp [hc]
    have e2 : (ch != 0) = true := by simp [hc]
    clear hc
    go_wp2_with fail
    go_ret
    exact ⟨by rw [HE.out]; rfl, HK.out.bel⟩
end Go.Proofs.Ytcobolmagjlbeaa.Wk
