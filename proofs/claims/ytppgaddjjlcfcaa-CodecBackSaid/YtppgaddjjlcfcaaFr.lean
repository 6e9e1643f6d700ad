/- The frame at an offset, in the layer. Conditions: the reader lies in a block of its own; its bytes read as the list; at most 100000 bytes. -/
import Derived.Test.YtppgaddjjlcfcaaTy
set_option linter.unusedSimpArgs false
set_option linter.unusedVariables false
namespace Go.Proofs.Ytppgaddjjlcfcaa.Wk
open Go.RowKit
open Go.Proofs.Ytppgaddjjlcfcaa.Mt
def FrR (zs : List Int) (n : Nat) (t : Int) (g B : Nat) (w : World) (e : Ending) (w' : World) : Prop :=
  (frE zs n t ≠ 0 ∧ e = .panicked [fl (frE zs n t)] ∧ ∃ x, Below w.heap.size (w.setCell ⟨g, 1, none⟩ (.int .i64 x)) w') ∨ (frE zs n t = 0 ∧ ∃ A' c', e = .returned (.tuple #[.int .i64 (frK zs n t), .slice A' (frP zs n t).length c']) ∧ A' ≠ none ∧ (frP zs n t).length ≤ c' ∧ Rk .u8 w' B A' (frP zs n t).length (frP zs n t) ∧ Below w.heap.size (w.setCell ⟨g, 1, none⟩ (.int .i64 (frN zs n t))) w')
theorem rk_byte {w : World} {B n : Nat} {A : Option Addr} {zs : List Int} (h : Rk .u8 w B A n zs) : ∀ k, 0 ≤ iat zs k ∧ iat zs k ≤ 255 := fun k => u8_r (h.2.2.2 k)
set_option maxHeartbeats 8000000 in
set_option maxRecDepth 100000 in
theorem frame42 (g n c : Nat) (A : Option Addr) (t : Int) (zs : List Int) (B : Nat) (w : World) (h : Bx w g 57 #[.slice A n c, .int .i64 t]) (hz : Rk .u8 w B A n zs) (hB : B ≤ g) (hn : n ≤ 100000) (hc : n ≤ c) (hcc : c ≤ 9223372036854775807) : Calls Try.prog 42 #[.pointer (some ⟨g, 0, none⟩)] w (FrR zs n t g B w) := by
  go_enter Try.func42, Try.ntmps42
  go_wp2_with fail
  by_cases hr : t < 0 ∨ (n : Int) < t
  · refine (check_bad g n c A t w h hr).mono ?_
    rintro e w' ⟨rfl, hb⟩
    have he := fr_range (zs := zs) hr
    exact ⟨rfl, .inl ⟨by rw [he]; decide, by rw [he], t, by rw [set_same h (by rfl)]; exact hb⟩⟩
  · refine (check_ok g n c A t w h hr).mono ?_
    rintro e w1 ⟨rfl, hb⟩
    obtain ⟨a, rfl⟩ : ∃ a : Nat, t = (a : Int) := ⟨t.toNat, by omega⟩
    have han : a ≤ n := by omega
    have HB1 := Lib.hid hb
    have HX1 := Lib.hid (h.next hb)
    have HH := Lib.hid h
    have HZ1 := Lib.hid (hz.below hb (by have := h.lt; omega))
    have HBY := Lib.hid (rk_byte hz)
    have HGL := Lib.hid h.lt
    have hlt := (h.next hb).lt
    obtain ⟨c0, c1⟩ := (h.next hb).cells2
    have fz := (h.next hb).free 1
    have W1 : IntKind.i64.wrap ((a : Int) + 1) = (a : Int) + 1 := IntWalk.i64_in _ (by omega)
    clear hb h hz hr
    by_cases hend : a = n
    · have e1 : ((a : Int) == (n : Int)) = true := by simp [hend]
      have HE : Hid (frE zs n (a : Int) = 7) := Lib.hid (by rw [hend]; exact fr_end)
      clear hend
      go_wp2_with fail
      refine (fail46 7 _).mono ?_
      rintro e w' ⟨rfl, rfl⟩
      exact ⟨rfl, .inl ⟨by rw [HE.out]; decide, by rw [HE.out], _, by rw [set_same HH.out (by rfl)]; exact HB1.out⟩⟩
    · have e1 : ((a : Int) == (n : Int)) = false := by simp; omega
      have hltn : a < n := by omega
      obtain ⟨b, off, rfl, hbB, _⟩ := HZ1.out.get (i := 0) (by omega)
      have HX2 : Hid (Bx (w1.setCell ⟨g, 1, none⟩ (.int .i64 ((a : Int) + 1))) g 57 #[.slice (some ⟨b, off, none⟩) n c, .int .i64 ((a : Int) + 1)]) := Lib.hid (HX1.out.set 1 _)
      have HZ2 := Lib.hid (HZ1.out.below ((Below.refl B w1).setCell (p := ⟨g, 1, none⟩) hB (.int .i64 ((a : Int) + 1))) (Nat.le_refl _))
      have HW2 : Hid (Below w.heap.size (w.setCell ⟨g, 1, none⟩ (.int .i64 ((a : Int) + 1))) (w1.setCell ⟨g, 1, none⟩ (.int .i64 ((a : Int) + 1)))) := Lib.hid (below_set HB1.out HGL.out)
      clear hend
      go_wp2_with fail
      generalize hw2 : w1.setCell ⟨g, 1, none⟩ (.int .i64 ((a : Int) + 1)) = w2 at HX2 HZ2 HW2 ⊢
      clear c0 c1 fz hlt
      refine (bytes40s g n c _ ((a : Int) + 1) zs B w2 HX2.out HZ2.out hB hn hc hcc).mono ?_
      have hsz2 : w.heap.size ≤ w2.heap.size := by have := HW2.out.size; simpa [World.setCell] using this
      rintro e w3 (⟨hne, rfl, x, hb3⟩ | ⟨hte, A', c', rfl, hA', hlc, hrk, hb3⟩)
      · have he := fr_text hltn hne
        refine ⟨rfl, .inl ⟨by rw [he]; exact hne, by rw [he], x, ?_⟩⟩
        rw [← set_set (x := .int .i64 ((a : Int) + 1))]
        exact (below_set HW2.out (by simpa [World.setCell] using HGL.out)).trans (hb3.mono hsz2)
      · obtain ⟨x, hx, hxn, hax⟩ := te_bound (zs := zs) (n := n) (a := a + 1) (by rw [show (((a + 1 : Nat) : Nat) : Int) = (a : Int) + 1 by omega]; exact hte)
        rw [show (((a + 1 : Nat) : Nat) : Int) = (a : Int) + 1 by omega] at hx
        rw [hx] at hb3
        have hg2 := HX2.out.lt
        have HX3 : Hid (Bx w3 g 57 #[.slice (some ⟨b, off, none⟩) n c, .int .i64 (x : Int)]) := Lib.hid ((HX2.out.set 1 (.int .i64 (x : Int))).below hb3 hg2)
        have HZ3 := Lib.hid (HZ2.out.below (set_below hb3 hB hg2) (Nat.le_refl _))
        have HW3 : Hid (Below w.heap.size (w.setCell ⟨g, 1, none⟩ (.int .i64 (x : Int))) w3) := Lib.hid (by
          rw [← set_set (x := .int .i64 ((a : Int) + 1))]
          exact (below_set HW2.out (by simpa [World.setCell] using HGL.out)).trans (hb3.mono hsz2))
        obtain ⟨pl, hpl⟩ : ∃ l, teL zs n ((a : Int) + 1) = l := ⟨_, rfl⟩
        rw [hpl] at hlc hrk ⊢
        have HPL := Lib.hid hpl
        have HRK := Lib.hid hrk
        have HTE := Lib.hid hte
        have HXT := Lib.hid hx
        have HA := Lib.hid hA'
        have HLC := Lib.hid hlc
        obtain ⟨c0, c1⟩ := HX3.out.cells2
        have hlt := HX3.out.lt
        have fz := HX3.out.free 1
        have W2 : IntKind.i64.wrap ((n : Int) - (x : Int)) = (n : Int) - (x : Int) := IntWalk.i64_in _ (by omega)
        have W3 : IntKind.i64.wrap ((x : Int) + 4) = (x : Int) + 4 := IntWalk.i64_in _ (by omega)
        clear hb3 hpl hrk hte hx hA' hlc hg2 hw2 HX2 HZ2 HW2 HX1 HZ1 HB1 W1 e1
        by_cases h4 : (n : Int) - (x : Int) < 4
        · have HE := Lib.hid (fr_short hltn HTE.out HXT.out h4)
          as_aux_lemma =>
            go_wp2_with fail
            refine (fail46 7 _).mono ?_
            rintro e w' ⟨rfl, rfl⟩
            exact ⟨rfl, .inl ⟨by rw [HE.out]; decide, by rw [HE.out], _, HW3.out⟩⟩
        · have p1 : (0 : Int) ≤ (x : Int) + 4 := by omega
          have p2 : (x : Int) + 4 ≤ (c : Int) := by omega
          have p3 : (x : Int) ≤ (x : Int) + 4 := by omega
          have p4 : ((x : Int) + 4).toNat = x + 4 := by omega
          have p5 : x + 4 - x = 4 := by omega
          have p6 : ¬ c = x := by omega
          have hx4 : x + 4 ≤ n := by omega
          have H4 := Lib.hid h4
          clear h4
          go_wp2_with fail
          go_loopw [7, 9, 55] (fun sv _ jv wr => ∃ j s : Nat, j ≤ 4 ∧ jv = .int .i64 j ∧ sv = .int .i64 (s : Int) ∧ Hid (s = be zs x j) ∧ wr = w3) (fun _ _ jv _ => 4 - (intOf jv).toNat)
          case atStart => exact ⟨0, 0, by omega, rfl, rfl, Lib.hid rfl, rfl⟩
          case round =>
            obtain ⟨j, s, hj, rfl, rfl, HS, rfl⟩ := hrel
            by_cases hj4 : j < 4
            · have hjI : (j : Int) < 4 := by omega
              have V1 : IntKind.i64.wrap ((j : Int) + 1) = (j : Int) + 1 := IntWalk.i64_in _ (by omega)
              have hcell := HZ3.out.two (i := x + j) (by omega)
              have hb8 := HBY.out (x + j)
              obtain ⟨v, hv⟩ : ∃ v : Nat, iat zs (x + j) = (v : Int) := ⟨(iat zs (x + j)).toNat, by omega⟩
              rw [hv] at hcell hb8
              rw [← Nat.add_assoc] at hcell
              have hs32 : s < 4294967296 := by
                rw [HS.out]
                have h1 := be_lt HBY.out x j
                have h2 : (256 : Nat) ^ j ≤ 256 ^ 4 := Nat.pow_le_pow_right (by decide) hj
                have h3 : (256 : Nat) ^ 4 = 4294967296 := by decide
                omega
              have V2 : IntKind.i64.wrap ((s : Int) * 256) = (s : Int) * 256 := IntWalk.i64_in _ (by omega)
              have V3 : IntKind.i64.wrap (v : Int) = (v : Int) := IntWalk.i64_in _ (by omega)
              obtain ⟨s2, hs2⟩ : ∃ s2, s * 256 + v = s2 := ⟨_, rfl⟩
              have O1 : bits BinOp.or IntKind.i64 ((s : Int) * 256) (v : Int) = (s2 : Int) := by rw [or_byte hs32 (by omega), hs2]
              have HS2 : Hid (s2 = be zs x (j + 1)) := Lib.hid (by rw [be, ← HS.out, hv, Int.toNat_natCast, hs2])
              clear hv hs2
              go_wp2_with fail
              go_roundw
              case rel => exact ⟨j + 1, s2, by omega, by go_num, rfl, HS2, by trivial⟩
              case measure => simp [intOf]; omega
            · have hjI : ¬ (j : Int) < 4 := by omega
              obtain rfl : j = 4 := by omega
              have q1 : (a : Int) ≤ (x : Int) := by omega
              have q2 : (x : Int) ≤ (c : Int) := by omega
              have q3 : ¬ c = a := by omega
              have HSB := Lib.hid (HZ3.out.sub (lo := a) (v := x - a) (by omega) hbB)
              have HSB2 : Hid (Rk .u8 wr wr.heap.size (some ⟨b, off + a, none⟩) (x - a) (Mt.sub zs a (x - a))) := Lib.hid ⟨HSB.out.1, HSB.out.2.1, fun hn => by obtain ⟨b', o', e, hb', hc'⟩ := HSB.out.2.2.1 hn; exact ⟨b', o', e, by omega, hc'⟩, HSB.out.2.2.2⟩
              clear HSB
              go_wp2_with fail
              refine (sum24 _ (x - a) (c - a) _ wr HSB2.out (by omega)).mono ?_
              rintro e w5 ⟨rfl, hb5⟩
              obtain ⟨cr, hcr⟩ : ∃ cr, crc (Mt.sub zs a (x - a)) = cr := ⟨_, rfl⟩
              rw [hcr]
              have HCR := Lib.hid hcr
              have HX5 := Lib.hid (HX3.out.next hb5)
              have HW5 := Lib.hid (HW3.out.trans (hb5.mono (by have := HW3.out.size; simpa [World.setCell] using this)))
              have HB5 : Hid (Below B wr w5) := Lib.hid (hb5.mono (by omega))
              have hgl5 := HGL.out
              clear hb5 hcr c0 c1 fz
              obtain ⟨c0, c1⟩ := HX5.out.cells2
              have hlt5 := HX5.out.lt
              have fz := HX5.out.free 1
              by_cases hs : s = cr
              · have e3 : ((s : Int) != (cr : Int)) = false := by simp [hs]
                have HOK := Lib.hid (fr_ok hltn HTE.out HXT.out (by have := H4.out; omega) (by rw [← HS.out, HCR.out]; exact hs))
                obtain ⟨v, hv⟩ : ∃ v : Nat, iat zs a = (v : Int) := ⟨(iat zs a).toNat, by have := HBY.out a; omega⟩
                have HV := Lib.hid hv
                have HZ5 := Lib.hid (HZ3.out.below HB5.out (Nat.le_refl _))
                have HX6 : Hid (Bx (w5.setCell ⟨g, 1, none⟩ (.int .i64 ((x : Int) + 4))) g 57 #[.slice (some ⟨b, off, none⟩) n c, .int .i64 ((x : Int) + 4)]) := Lib.hid (HX5.out.set 1 _)
                obtain ⟨d0, d1⟩ := HX6.out.cells2
                have hv8 : (v : Int) ≤ 255 := by have := HBY.out a; omega
                have hb6 : Below B w5 (w5.setCell ⟨g, 1, none⟩ (.int .i64 ((x : Int) + 4))) := (Below.refl B w5).setCell (p := ⟨g, 1, none⟩) hB _
                have hcell6 := (HZ5.out.below hb6 (Nat.le_refl _)).two (i := a) hltn
                rw [hv] at hcell6
                have HRK6 := Lib.hid (HRK.out.below (HB5.out.trans hb6) (Nat.le_refl _))
                have HF6 : Hid (Below w.heap.size (w.setCell ⟨g, 1, none⟩ (.int .i64 ((x : Int) + 4))) (w5.setCell ⟨g, 1, none⟩ (.int .i64 ((x : Int) + 4)))) := Lib.hid (by rw [← set_set (w := w) (x := .int .i64 (x : Int))]; exact below_set HW5.out hgl5)
                have V3 : IntKind.i64.wrap (v : Int) = (v : Int) := IntWalk.i64_in _ (by omega)
                have r1 : (0 : Int) ≤ (a : Int) := by omega
                have r2 : (a : Int) < (n : Int) := by omega
                have hbg : ¬ b = g := by omega
                clear hs hv hb6 hlt
                as_aux_lemma =>
                  go_wp2_with fail
                  go_ret2
                  refine .inr ⟨HOK.out.1, ?_⟩
                  rw [HOK.out.2.1, HOK.out.2.2.1, HOK.out.2.2.2, HPL.out, HV.out]
                  exact ⟨A', c', rfl, HA.out, HLC.out, HRK6.out, HF6.out⟩
              · have e3 : ((s : Int) != (cr : Int)) = true := by simp; omega
                have HE := Lib.hid (fr_sum hltn HTE.out HXT.out (by have := H4.out; omega) (by rw [← HS.out, HCR.out]; exact hs))
                clear hs
                as_aux_lemma =>
                  go_wp2_with fail
                  refine (fail46 8 _).mono ?_
                  rintro e w' ⟨rfl, rfl⟩
                  exact ⟨rfl, .inl ⟨by rw [HE.out]; decide, by rw [HE.out], _, HW5.out⟩⟩
end Go.Proofs.Ytppgaddjjlcfcaa.Wk
