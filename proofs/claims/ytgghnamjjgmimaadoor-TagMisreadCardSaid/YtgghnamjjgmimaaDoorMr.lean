/- A transponder number is made, in the layer and in its reference. Conditions: the agency has at most 4000 bytes; the table of powers reads as the program lays it. -/
import Derived.Test.YtgghnamjjgmimaaDoorMk
set_option linter.unusedSimpArgs false
set_option linter.unusedVariables false
namespace Go.Proofs.YtgghnamjjgmimaaDoor.Wk
open Go.RowKit
open Go.Proofs.YtgghnamjjgmimaaDoor.Mt
theorem smB_neg {s : ByteArray} (h : ¬ Dgs s s.size) : smB s = -1 := if_neg h
theorem smB_pos {s : ByteArray} (h : Dgs s s.size) : smB s = sm s s.size := if_pos h
def MkR (ag : ByteArray) (n : Int) (w : World) (e : Ending) (w' : World) : Prop := e = .returned (.tuple #[.string (mkS ag n), .int .i64 (mkE ag n)]) ∧ Below w.heap.size w w'
theorem mk_bad {ag : ByteArray} {n : Int} (h : ¬ Ag ag) : mkS ag n = ⟨#[]⟩ ∧ mkE ag n = 30 := ⟨if_neg h, if_neg h⟩
theorem mk_out {ag : ByteArray} {n : Int} (h : Ag ag) (hn : n < 0 ∨ 99999999 < n) : mkS ag n = ⟨#[]⟩ ∧ mkE ag n = 2 := ⟨by unfold mkS; rw [if_pos h, if_pos hn], by unfold mkE; rw [if_pos h, if_pos hn]⟩
theorem mk_ok {ag : ByteArray} {n : Int} (h : Ag ag) (hn : ¬ (n < 0 ∨ 99999999 < n)) : mkS ag n = tagOf ag n.toNat ∧ mkE ag n = 0 := ⟨by unfold mkS; rw [if_pos h, if_neg hn], by unfold mkE; rw [if_pos h, if_neg hn]⟩
set_option maxHeartbeats 1000000 in
set_option maxRecDepth 100000 in
theorem make19 (ag : ByteArray) (n : Int) (w : World) (hs : ag.size ≤ 4000) : Calls Tryd.prog 19 #[.string ag, .int .i64 n] w (MkR ag n w) := by
  by_cases h3 : ag.size = 3
  · have e3 : (((ag.size : Nat) : Int) != 3) = false := by rw [h3]; rfl
    have HS := Lib.hid h3
    by_cases hd : Dgs ag 3
    · have ha : Ag ag := ⟨h3, hd⟩
      have HA := Lib.hid ha
      have hsm := smB_pos (s := ag) (by rw [h3]; exact hd)
      rw [h3] at hsm
      have hin := sm_in hd
      obtain ⟨t, ht⟩ : ∃ t, smB ag = t := ⟨_, rfl⟩
      have HT := Lib.hid ht
      rw [ht] at hsm
      rw [← hsm] at hin
      have q0 : decide (t < 0) = false := decide_eq_false (by omega)
      clear h3 hd ht hsm hin
      by_cases hlo : n < 0
      · have HE := Lib.hid (mk_out ha (.inl hlo))
        clear ha
        go_enter Tryd.func19, Tryd.ntmps19
        go_wp2_with fail
        refine (sum26 ag _ (by omega)).mono ?_
        rintro e w1 ⟨rfl, hb⟩
        rw [HT.out]
        have HB := Lib.hid hb
        clear hb e3
        go_wp2_with fail
        go_ret2
        exact ⟨by rw [HE.out.1, HE.out.2]; rfl, HB.out⟩
      · have hlo' : decide (n < 0) = false := decide_eq_false hlo
        by_cases hhi : 99999999 < n
        · have HE := Lib.hid (mk_out ha (.inr hhi))
          clear ha
          go_enter Tryd.func19, Tryd.ntmps19
          go_wp2_with fail
          refine (sum26 ag _ (by omega)).mono ?_
          rintro e w1 ⟨rfl, hb⟩
          rw [HT.out]
          have HB := Lib.hid hb
          clear hb e3
          go_wp2_with fail
          go_ret2
          exact ⟨by rw [HE.out.1, HE.out.2]; rfl, HB.out⟩
        · have hhi' : decide (99999999 < n) = false := decide_eq_false hhi
          have HE := Lib.hid (mk_ok ha (by omega : ¬ (n < 0 ∨ 99999999 < n)))
          obtain ⟨m, rfl⟩ : ∃ m : Nat, n = (m : Int) := ⟨n.toNat, by omega⟩
          rw [Int.toNat_natCast] at HE
          have HBD : Hid (bd ag m = ag ++ strd (dgl m 8)) := Lib.hid rfl
          have hz := bd_size (n := m) ha
          have hdd := bd_dgs (n := m) ha
          have hs2 := smB_pos (s := bd ag m) (by rw [hz]; exact hdd)
          rw [hz] at hs2
          have hin2 := sm_in hdd
          have HC : Hid (cd (bd ag m) = ((10 - sm (bd ag m) 11 % 10) % 10).toNat) := Lib.hid rfl
          have HTG : Hid (tagOf ag m = bd ag m ++ strd (dgl (cd (bd ag m)) 1)) := Lib.hid rfl
          have hcl := cd_lt (bd ag m)
          obtain ⟨f, hf⟩ : ∃ f, sm (bd ag m) 11 = f := ⟨_, rfl⟩
          obtain ⟨cc, hcc⟩ : ∃ cc, cd (bd ag m) = cc := ⟨_, rfl⟩
          obtain ⟨b, hb⟩ : ∃ b, bd ag m = b := ⟨_, rfl⟩
          rw [hf] at hs2 hin2 HC
          rw [hcc] at HC HTG hcl
          rw [hb] at HBD HTG hz hs2
          have HBS := Lib.hid hs2
          have hdl : (strd (dgl m 8)).size = 8 := by rw [strd_size, dgl_len]
          obtain ⟨u, hu⟩ : ∃ u, strd (dgl m 8) = u := ⟨_, rfl⟩
          have HU := Lib.hid hu
          rw [hu] at HBD hdl
          have hcat : ag ++ u = b := HBD.out.symm
          have hcl2 : (strd (dgl cc 1)).size = 1 := by rw [strd_size, dgl_len]
          obtain ⟨v, hv⟩ : ∃ v, strd (dgl cc 1) = v := ⟨_, rfl⟩
          have HV := Lib.hid hv
          rw [hv] at HTG hcl2
          have hcat2 : b ++ v = tagOf ag m := HTG.out.symm
          have hm8 : m < 100000000 := by omega
          have hags : ag.size = 3 := HS.out
          have hfr := mod10 hin2.1
          obtain ⟨r, hr⟩ : ∃ r, Int.tmod f 10 = r := ⟨_, rfl⟩
          rw [hr] at hfr
          have W1 : IntKind.i64.wrap r = r := IntWalk.i64_in _ (by omega)
          have W2 : IntKind.i64.wrap (10 - r) = 10 - r := IntWalk.i64_in _ (by omega)
          have hrr : Int.tmod (10 - r) 10 = (cc : Int) := by
            rw [mod10 (by omega)]
            have := HC.out
            rw [← hfr] at this
            omega
          have W3 : IntKind.i64.wrap (cc : Int) = (cc : Int) := IntWalk.i64_in _ (by omega)
          have h8c : ((8 : Nat) : Int) = 8 := rfl
          clear ha hf hcc hb hs2 hin2 hu hv hfr
          go_enter Tryd.func19, Tryd.ntmps19
          go_wp2_with fail
          refine (sum26 ag _ (by omega)).mono ?_
          rintro e w1 ⟨rfl, hb⟩
          rw [HT.out]
          have HB := Lib.hid hb
          clear hb e3
          go_wp2_with fail
          refine (digits28 m 8 _ hm8 (by omega)).mono ?_
          rintro e w2 ⟨rfl, hb⟩
          rw [HU.out]
          replace HB := Lib.hid (upB HB.out hb)
          clear hb
          go_wp2_with fail
          refine (sum26 b _ (by omega)).mono ?_
          rintro e w3 ⟨rfl, hb⟩
          rw [HBS.out]
          replace HB := Lib.hid (upB HB.out hb)
          clear hb
          go_wp2_with fail
          refine (digits28 cc 1 _ (by omega) (by omega)).mono ?_
          rintro e w4 ⟨rfl, hb⟩
          rw [HV.out]
          replace HB := Lib.hid (upB HB.out hb)
          clear hb
          go_wp2_with fail
          go_ret2
          exact ⟨by rw [HE.out.1, HE.out.2]; rfl, HB.out⟩
    · have HE := Lib.hid (mk_bad (ag := ag) (n := n) (fun h => hd h.2))
      have HT := Lib.hid (smB_neg (s := ag) (by rw [h3]; exact hd))
      clear hd h3
      go_enter Tryd.func19, Tryd.ntmps19
      go_wp2_with fail
      refine (sum26 ag _ (by omega)).mono ?_
      rintro e w1 ⟨rfl, hb⟩
      rw [HT.out]
      have HB := Lib.hid hb
      clear hb e3
      go_wp2_with fail
      go_ret2
      exact ⟨by rw [HE.out.1, HE.out.2]; rfl, HB.out⟩
  · have e3 : (((ag.size : Nat) : Int) != 3) = true := by simp; omega
    have HE := Lib.hid (mk_bad (ag := ag) (n := n) (fun h => h3 h.1))
    clear h3
    go_enter Tryd.func19, Tryd.ntmps19
    go_wp2_with fail
    go_ret2
    exact ⟨by rw [HE.out.1, HE.out.2]; rfl, Below.refl _ _⟩
set_option maxHeartbeats 2000000 in
set_option maxRecDepth 100000 in
theorem make18 (ag : ByteArray) (n : Int) (w : World) (ht : Tb w) : Calls Tryd.prog 18 #[.string ag, .int .i64 n] w (MkR ag n w) := by
  have HTB := Lib.hid ht
  clear ht
  by_cases h3 : ag.size = 3
  · have e3 : (((ag.size : Nat) : Int) != 3) = false := by rw [h3]; rfl
    have HS := Lib.hid h3
    clear h3
    go_enter Tryd.func18, Tryd.ntmps18
    go_wp2_with fail
    clear e3
    go_loopw [7] (fun _ wr => ∃ pos : Nat, pos ≤ 3 ∧ Hid (Dgs ag pos) ∧ wr.heap[w.heap.size]? = some (.stringIter ag pos) ∧ Hid (Below w.heap.size w wr)) (fun _ wr => 3 - wr.iterPos w.heap.size)
    case atStart => exact ⟨0, by omega, Lib.hid (fun i hi => by omega), World.iter_heap w ag 0, Lib.hid (b1 _ _)⟩
    case round =>
      obtain ⟨pos, hpos, HD, hit, HB⟩ := hrel
      have hsz : w.heap.size < wr.heap.size := (Array.getElem?_eq_some_iff.1 hit).1
      by_cases hlt : pos < 3
      · have hlt2 : Hid (pos < ag.size) := Lib.hid (by rw [HS.out]; exact hlt)
        by_cases hd : Dg (bt ag pos)
        · have hnx : ∀ ty, (Instr.next (.pointer (some ⟨w.heap.size, 0, none⟩)) true ty).run Tryd.prog wr = _ := fun ty => next_digit wr w.heap.size ag pos hit hlt2.out hd ty
          have HD2 := Lib.hid (HD.out.next hd)
          have hit2 := Lib.iterAt_heap wr w.heap.size ag pos (pos + 1) hit
          have HB2 := Lib.hid (Lib.below_iterAt HB.out (k := w.heap.size) (Nat.le_refl _) ag (pos + 1))
          obtain ⟨x, hx⟩ : ∃ x, bt ag pos = x := ⟨_, rfl⟩
          rw [hx] at hd hnx
          unfold Dg at hd
          have q1 : decide (x < 48) = false := decide_eq_false (by omega)
          have q2 : decide (57 < x) = false := decide_eq_false (by omega)
          clear hx hd
          go_wp2_with fail
          go_roundw
          case rel => exact ⟨pos + 1, by omega, HD2, hit2, HB2⟩
          case measure =>
            simp only [World.iterPos, hit2, hit]
            omega
        · obtain ⟨c, p', hc1, hc2, hc3, hnx⟩ := next_other (P := Tryd.prog) wr w.heap.size ag pos hit hlt2.out hd
          have HE := Lib.hid (mk_bad (ag := ag) (n := n) (fun h => hd (h.2 pos hlt)))
          have HB2 := Lib.hid (Lib.below_iterAt HB.out (k := w.heap.size) (Nat.le_refl _) ag p')
          clear hd
          by_cases q : c < 48
          · go_wp2_with fail
            go_ret2
            exact ⟨by rw [HE.out.1, HE.out.2]; rfl, HB2.out⟩
          · have q1 : decide (c < 48) = false := decide_eq_false q
            have q2 : 57 < c := by unfold Dg at hc1; omega
            go_wp2_with fail
            go_ret2
            exact ⟨by rw [HE.out.1, HE.out.2]; rfl, HB2.out⟩
      · have hnx : ∀ ty, (Instr.next (.pointer (some ⟨w.heap.size, 0, none⟩)) true ty).run Tryd.prog wr = _ := fun ty => Lib.run_next_end_at wr w.heap.size ag pos ty hit (by rw [HS.out]; exact hlt)
        have hp : pos = 3 := by omega
        subst hp
        have ha : Ag ag := ⟨HS.out, HD.out⟩
        by_cases hlo : n < 0
        · have HE := Lib.hid (mk_out ha (.inl hlo))
          clear ha
          go_wp2_with fail
          go_ret2
          exact ⟨by rw [HE.out.1, HE.out.2]; rfl, HB.out⟩
        · have hlo' : decide (n < 0) = false := decide_eq_false hlo
          by_cases hhi : 99999999 < n
          · have HE := Lib.hid (mk_out ha (.inr hhi))
            clear ha
            go_wp2_with fail
            go_ret2
            exact ⟨by rw [HE.out.1, HE.out.2]; rfl, HB.out⟩
          · have hhi' : decide (99999999 < n) = false := decide_eq_false hhi
            have HE := Lib.hid (mk_ok ha (by omega : ¬ (n < 0 ∨ 99999999 < n)))
            obtain ⟨m, rfl⟩ : ∃ m : Nat, n = (m : Int) := ⟨n.toNat, by omega⟩
            rw [Int.toNat_natCast] at HE
            have HBD : Hid (bd ag m = ag ++ strd (dgl m 8)) := Lib.hid rfl
            have hz := bd_size (n := m) ha
            have hdd := bd_dgs (n := m) ha
            have HC : Hid (cd (bd ag m) = ((10 - sm (bd ag m) 11 % 10) % 10).toNat) := Lib.hid rfl
            have HTG : Hid (tagOf ag m = bd ag m ++ strd (dgl (cd (bd ag m)) 1)) := Lib.hid rfl
            have hcl := cd_lt (bd ag m)
            obtain ⟨cc, hcc⟩ : ∃ cc, cd (bd ag m) = cc := ⟨_, rfl⟩
            obtain ⟨b, hb⟩ : ∃ b, bd ag m = b := ⟨_, rfl⟩
            rw [hcc] at HC HTG hcl
            rw [hb] at HBD HTG hz hdd HC
            have HDD := Lib.hid hdd
            have hm8 : m < 100000000 := by omega
            have HI1 := Lib.hid (itoa_big hm8)
            have W0 : IntKind.i64.wrap (100000000 + (m : Int)) = 100000000 + (m : Int) := IntWalk.i64_in _ (by omega)
            have htl := tail_one 49 (dgl m 8)
            rw [dgl_len] at htl
            have hdl : (strd (dgl m 8)).size = 8 := by rw [strd_size, dgl_len]
            obtain ⟨u, hu⟩ : ∃ u, strd (dgl m 8) = u := ⟨_, rfl⟩
            rw [hu] at HBD hdl htl
            have hlz : (ByteArray.mk (49 :: dgl m 8).toArray).size = 9 := by simp [ByteArray.size, dgl_len]
            obtain ⟨z, hz9⟩ : ∃ z, ByteArray.mk (49 :: dgl m 8).toArray = z := ⟨_, rfl⟩
            have HZ9 := Lib.hid hz9
            rw [hz9] at htl hlz
            have hcat : ag ++ u = b := HBD.out.symm
            have hags : ag.size = 3 := HS.out
            have HTT := Lib.hid (HTB.out.next HB.out)
            clear ha hcc hb hdd hu hz9 hit
            go_wp2_with fail
            refine (itoa27 (100000000 + (m : Int)) _ (by omega) (by omega) HTT.out).mono ?_
            rintro e w2 ⟨rfl, hb⟩
            rw [HI1.out, HZ9.out]
            have HB2 := Lib.hid (upB HB.out hb)
            have HBI := Lib.hid hb
            clear hb hlo hhi HB
            go_wp2_with fail
            go_loopw [9] (fun sv wr => ∃ pos : Nat, pos ≤ 11 ∧ sv = .int .i64 (sm b pos) ∧ wr.heap[w2.heap.size]? = some (.stringIter b pos) ∧ Hid (Below w2.heap.size w2 wr)) (fun _ wr => 11 - wr.iterPos w2.heap.size)
            case atStart => exact ⟨0, by omega, rfl, World.iter_heap w2 b 0, Lib.hid (b1 _ _)⟩
            case round =>
              obtain ⟨pos, hpos, rfl, hit, HB⟩ := hrel
              have hsz : w2.heap.size < wr.heap.size := (Array.getElem?_eq_some_iff.1 hit).1
              have hin := sm_in (s := b) (k := pos) (fun i hi => HDD.out i (by omega))
              by_cases hlt : pos < 11
              · have hlt2 : Hid (pos < b.size) := Lib.hid (by rw [hz]; exact hlt)
                have hd := HDD.out pos hlt
                have hnx : ∀ ty, (Instr.next (.pointer (some ⟨w2.heap.size, 0, none⟩)) true ty).run Tryd.prog wr = _ := fun ty => next_digit wr w2.heap.size b pos hit hlt2.out hd ty
                have HEE : Hid (sm b (pos + 1) = sm b pos + lu pos (bt b pos - 48)) := Lib.hid rfl
                have hl := lu_in (i := pos) (d := bt b pos - 48) (by unfold Dg at hd; omega)
                have hit2 := Lib.iterAt_heap wr w2.heap.size b pos (pos + 1) hit
                have HB3 := Lib.hid (Lib.below_iterAt HB.out (k := w2.heap.size) (Nat.le_refl _) b (pos + 1))
                obtain ⟨x, hx⟩ : ∃ x, bt b pos = x := ⟨_, rfl⟩
                obtain ⟨f, hf⟩ : ∃ f, sm b pos = f := ⟨_, rfl⟩
                rw [hx] at hd hnx HEE hl
                rw [hf] at hin HEE ⊢
                unfold Dg at hd
                obtain ⟨d, hdd⟩ : ∃ d, x - 48 = d := ⟨_, rfl⟩
                rw [hdd] at HEE hl
                have W1 : IntKind.i32.wrap (x - 48) = d := by rw [hdd]; exact IntWalk.i32_in _ (by omega)
                have W2 : IntKind.i64.wrap d = d := IntWalk.i64_in _ (by omega)
                have W3 : IntKind.i64.wrap (f + lu pos d) = f + lu pos d := IntWalk.i64_in _ (by omega)
                have hdr : 0 ≤ d ∧ d ≤ 9 := by omega
                clear hx hf hdd hin hl hd
                go_wp2_with fail
                refine (weigh25 pos d _ (by omega) hdr).mono ?_
                rintro e w3 ⟨rfl, hb⟩
                have hit3 := (hb.block w2.heap.size (by rw [Lib.iterAt_size]; exact hsz)).trans hit2
                replace HB3 := Lib.hid (HB3.out.trans (hb.mono (by rw [Lib.iterAt_size]; omega)))
                clear hb hnx hit2
                go_wp2_with fail
                go_roundw
                case rel => exact ⟨pos + 1, by omega, by rw [HEE.out], hit3, HB3⟩
                case measure =>
                  simp only [World.iterPos, hit3, hit]
                  omega
              · have hnx : ∀ ty, (Instr.next (.pointer (some ⟨w2.heap.size, 0, none⟩)) true ty).run Tryd.prog wr = _ := fun ty => Lib.run_next_end_at wr w2.heap.size b pos ty hit (by rw [hz]; exact hlt)
                have hp : pos = 11 := by omega
                subst hp
                obtain ⟨f, hf⟩ : ∃ f, sm b 11 = f := ⟨_, rfl⟩
                rw [hf] at hin HC ⊢
                have hfr := mod10 hin.1
                obtain ⟨r, hr⟩ : ∃ r, Int.tmod f 10 = r := ⟨_, rfl⟩
                rw [hr] at hfr
                have W1 : IntKind.i64.wrap r = r := IntWalk.i64_in _ (by omega)
                have W2 : IntKind.i64.wrap (10 - r) = 10 - r := IntWalk.i64_in _ (by omega)
                have hrr : Int.tmod (10 - r) 10 = (cc : Int) := by
                  rw [mod10 (by omega)]
                  have := HC.out
                  rw [← hfr] at this
                  omega
                have W3 : IntKind.i64.wrap (cc : Int) = (cc : Int) := IntWalk.i64_in _ (by omega)
                have HI2 := Lib.hid (itoa_one hcl)
                have hcl2 : (strd (dgl cc 1)).size = 1 := by rw [strd_size, dgl_len]
                obtain ⟨v, hv⟩ : ∃ v, strd (dgl cc 1) = v := ⟨_, rfl⟩
                have HV : Hid (ByteArray.mk (dgl cc 1).toArray = v) := Lib.hid hv
                rw [hv] at HTG hcl2
                have hcat2 : b ++ v = tagOf ag m := HTG.out.symm
                have HTT2 := Lib.hid ((HTT.out.next HBI.out).next HB.out)
                clear hf hfr hv hit
                go_wp2_with fail
                refine (itoa27 (cc : Int) _ (by omega) (by omega) HTT2.out).mono ?_
                rintro e w4 ⟨rfl, hb⟩
                rw [HI2.out, HV.out]
                have HB4 := Lib.hid (upB (upB HB2.out HB.out) hb)
                clear hb hnx
                go_wp2_with fail
                go_ret2
                exact ⟨by rw [HE.out.1, HE.out.2]; rfl, HB4.out⟩
  · have e3 : (((ag.size : Nat) : Int) != 3) = true := by simp; omega
    have HE := Lib.hid (mk_bad (ag := ag) (n := n) (fun h => h3 h.1))
    clear h3
    go_enter Tryd.func18, Tryd.ntmps18
    go_wp2_with fail
    go_ret2
    exact ⟨by rw [HE.out.1, HE.out.2]; rfl, Below.refl _ _⟩
end Go.Proofs.YtgghnamjjgmimaaDoor.Wk
