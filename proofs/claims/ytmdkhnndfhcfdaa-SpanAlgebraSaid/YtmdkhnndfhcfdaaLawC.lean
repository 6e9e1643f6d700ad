/- The law of the algebra, walked. Conditions: the slices read as intervals. -/
import Derived.Test.YtmdkhnndfhcfdaaCn
import Derived.Test.YtmdkhnndfhcfdaaAl
set_option linter.unusedSimpArgs false
set_option linter.unusedVariables false
namespace Go.Proofs.Ytmdkhnndfhcfdaa.Wk
open Go.RowKit
open Go.Proofs.Ytmdkhnndfhcfdaa.Mt
set_option maxHeartbeats 4000000 in
set_option maxRecDepth 100000 in
theorem algebra_law (A B : Option Addr) (n m c c' : Nat) (a b : List Iv) (w : World) (h : Rp w w.heap.size A n a) (k : Rp w w.heap.size B m b) : Calls Try.prog 7 #[.slice A n c, .slice B m c'] w fun e w' => e = .returned (.bool true) ∧ Below w.heap.size w w' := by
  have HA := Lib.hid h
  have HK := Lib.hid k
  have HB := Lib.hid (Below.refl w.heap.size w)
  have hn := h.2.1
  have hm := k.2.1
  clear h k
  by_cases hb60 : 60 < n
  · have hbI : (60 : Int) < (n : Int) := by omega
    go_enter Try.func7, Try.ntmps7
    go_wp2_with fail
    go_ret
    exact ⟨rfl, Below.refl _ _⟩
  · have hbI : decide ((60 : Int) < (n : Int)) = false := decide_eq_false (by omega)
    by_cases hm60 : 60 < m
    · have hmI : (60 : Int) < (m : Int) := by omega
      go_enter Try.func7, Try.ntmps7
      go_wp2_with fail
      go_ret
      exact ⟨rfl, Below.refl _ _⟩
    · have hmI : decide ((60 : Int) < (m : Int)) = false := decide_eq_false (by omega)
      go_enter Try.func7, Try.ntmps7
      go_wp2_with fail
      clear hbI hmI
      refine (union16 A B n m c c' a b _ HA.out HK.out (by omega) (by omega)).mono ?_
      rintro e w1 ⟨A1, c1, R1, rfl, h1, h2, h3, h4, h5, hb, h7⟩
      have HN1 := Lib.hid h4
      have HS1 := Lib.hid h5
      have HL1 := Lib.hid h7
      replace HA := Lib.hid (HA.out.up hb)
      replace HK := Lib.hid (HK.out.up hb)
      replace HB := Lib.hid (upB HB.out hb)
      have HR1 := Lib.hid h2
      clear h1 h2 h3 h4 h5 hb h7
      go_wp2_with fail
      refine (meet18 A B n m c c' a b _ HA.out HK.out (by omega) (by omega)).mono ?_
      rintro e w2 ⟨A2, c2, R2, rfl, h1, h2, h3, h4, h5, hb, h7⟩
      have HN2 := Lib.hid h4
      have HS2 := Lib.hid h5
      have HL2 := Lib.hid h7
      replace HA := Lib.hid (HA.out.up hb)
      replace HK := Lib.hid (HK.out.up hb)
      replace HR1 := Lib.hid (HR1.out.up hb)
      replace HB := Lib.hid (upB HB.out hb)
      have HR2 := Lib.hid h2
      clear h1 h2 h3 h4 h5 hb h7
      go_wp2_with fail
      refine (minus20 A B n m c c' a b _ HA.out HK.out (by omega) (by omega)).mono ?_
      rintro e w3 ⟨A3, c3, R3, rfl, h1, h2, h3, h4, h5, hb, h7⟩
      have HN3 := Lib.hid h4
      have HS3 := Lib.hid h5
      have HL3 := Lib.hid h7
      replace HA := Lib.hid (HA.out.up hb)
      replace HK := Lib.hid (HK.out.up hb)
      replace HR1 := Lib.hid (HR1.out.up hb)
      replace HR2 := Lib.hid (HR2.out.up hb)
      replace HB := Lib.hid (upB HB.out hb)
      have HR3 := Lib.hid h2
      clear h1 h2 h3 h4 h5 hb h7
      obtain ⟨za, hza⟩ : ∃ z, secs a = z := ⟨_, rfl⟩
      obtain ⟨zb, hzb⟩ : ∃ z, secs b = z := ⟨_, rfl⟩
      obtain ⟨zu, hzu⟩ : ∃ z, secs R1 = z := ⟨_, rfl⟩
      obtain ⟨zm, hzm⟩ : ∃ z, secs R2 = z := ⟨_, rfl⟩
      obtain ⟨zd, hzd⟩ : ∃ z, secs R3 = z := ⟨_, rfl⟩
      have qa := secs_in a
      have qb := secs_in b
      have qu := secs_in R1
      have qm := secs_in R2
      have qd := secs_in R3
      have s1 := secs_both (fun t => HS1.out t) (fun t => HS2.out t)
      have s2 := secs_less (fun t => HS3.out t) (fun t => HS2.out t)
      rw [hza] at qa s1 s2
      rw [hzb] at qb s1
      rw [hzu] at qu s1
      rw [hzm] at qm s1 s2
      rw [hzd] at qd s2
      have HZA := Lib.hid hza
      have HZB := Lib.hid hzb
      have HZU := Lib.hid hzu
      have HZM := Lib.hid hzm
      have HZD := Lib.hid hzd
      have W1 : IntKind.i64.wrap (za + zb) = za + zb := IntWalk.i64_in _ (by omega)
      have W2 : IntKind.i64.wrap (zu + zm) = zu + zm := IntWalk.i64_in _ (by omega)
      have W3 : IntKind.i64.wrap (zd + zm) = zd + zm := IntWalk.i64_in _ (by omega)
      have g1 : (za + zb != zu + zm) = false := by simp; omega
      have g2 : (zd + zm != za) = false := by simp; omega
      clear hza hzb hzu hzm hzd qa qb qu qm qd s1 s2
      go_wp2_with fail
      refine (secs22 A n c a _ HA.out (by have := HL1.out; have := HL2.out; have := HL3.out; omega)).mono ?_
      rintro e w4 ⟨rfl, hb⟩
      replace HA := Lib.hid (HA.out.up hb)
      replace HK := Lib.hid (HK.out.up hb)
      replace HR1 := Lib.hid (HR1.out.up hb)
      replace HR2 := Lib.hid (HR2.out.up hb)
      replace HR3 := Lib.hid (HR3.out.up hb)
      replace HB := Lib.hid (upB HB.out hb)
      clear hb
      rw [HZA.out]
      go_wp2_with fail
      refine (secs22 B m c' b _ HK.out (by have := HL1.out; have := HL2.out; have := HL3.out; omega)).mono ?_
      rintro e w5 ⟨rfl, hb⟩
      replace HA := Lib.hid (HA.out.up hb)
      replace HK := Lib.hid (HK.out.up hb)
      replace HR1 := Lib.hid (HR1.out.up hb)
      replace HR2 := Lib.hid (HR2.out.up hb)
      replace HR3 := Lib.hid (HR3.out.up hb)
      replace HB := Lib.hid (upB HB.out hb)
      clear hb
      rw [HZB.out]
      go_wp2_with fail
      refine (secs22 A1 R1.length c1 R1 _ HR1.out (by have := HL1.out; have := HL2.out; have := HL3.out; omega)).mono ?_
      rintro e w6 ⟨rfl, hb⟩
      replace HA := Lib.hid (HA.out.up hb)
      replace HK := Lib.hid (HK.out.up hb)
      replace HR1 := Lib.hid (HR1.out.up hb)
      replace HR2 := Lib.hid (HR2.out.up hb)
      replace HR3 := Lib.hid (HR3.out.up hb)
      replace HB := Lib.hid (upB HB.out hb)
      clear hb
      rw [HZU.out]
      go_wp2_with fail
      refine (secs22 A2 R2.length c2 R2 _ HR2.out (by have := HL1.out; have := HL2.out; have := HL3.out; omega)).mono ?_
      rintro e w7 ⟨rfl, hb⟩
      replace HA := Lib.hid (HA.out.up hb)
      replace HK := Lib.hid (HK.out.up hb)
      replace HR1 := Lib.hid (HR1.out.up hb)
      replace HR2 := Lib.hid (HR2.out.up hb)
      replace HR3 := Lib.hid (HR3.out.up hb)
      replace HB := Lib.hid (upB HB.out hb)
      clear hb
      rw [HZM.out]
      go_wp2_with fail
      refine (secs22 A3 R3.length c3 R3 _ HR3.out (by have := HL1.out; have := HL2.out; have := HL3.out; omega)).mono ?_
      rintro e w8 ⟨rfl, hb⟩
      replace HA := Lib.hid (HA.out.up hb)
      replace HK := Lib.hid (HK.out.up hb)
      replace HR1 := Lib.hid (HR1.out.up hb)
      replace HR2 := Lib.hid (HR2.out.up hb)
      replace HR3 := Lib.hid (HR3.out.up hb)
      replace HB := Lib.hid (upB HB.out hb)
      clear hb
      rw [HZD.out]
      go_wp2_with fail
      refine (secs22 A2 R2.length c2 R2 _ HR2.out (by have := HL1.out; have := HL2.out; have := HL3.out; omega)).mono ?_
      rintro e w9 ⟨rfl, hb⟩
      replace HA := Lib.hid (HA.out.up hb)
      replace HK := Lib.hid (HK.out.up hb)
      replace HR1 := Lib.hid (HR1.out.up hb)
      replace HR2 := Lib.hid (HR2.out.up hb)
      replace HR3 := Lib.hid (HR3.out.up hb)
      replace HB := Lib.hid (upB HB.out hb)
      clear hb
      rw [HZM.out]
      go_wp2_with fail
      refine (secs22 A n c a _ HA.out (by have := HL1.out; have := HL2.out; have := HL3.out; omega)).mono ?_
      rintro e w10 ⟨rfl, hb⟩
      replace HA := Lib.hid (HA.out.up hb)
      replace HK := Lib.hid (HK.out.up hb)
      replace HR1 := Lib.hid (HR1.out.up hb)
      replace HR2 := Lib.hid (HR2.out.up hb)
      replace HR3 := Lib.hid (HR3.out.up hb)
      replace HB := Lib.hid (upB HB.out hb)
      clear hb
      rw [HZA.out]
      go_wp2_with fail
      refine (meet18 A3 A2 R3.length R2.length c3 c2 R3 R2 _ HR3.out HR2.out (by have := HL1.out; have := HL2.out; have := HL3.out; omega) (by have := HL1.out; have := HL2.out; have := HL3.out; omega)).mono ?_
      intro e w11 hh
      obtain ⟨A11, c11, rfl, hr, hb⟩ := hh.val [] 0 rfl trivial (fun t => ⟨fun h => absurd h (Hs.nil t), fun h => absurd ((HS2.out t).1 h.2).2 ((HS3.out t).1 h.1).2⟩)
      replace HA := Lib.hid (HA.out.up hb)
      replace HK := Lib.hid (HK.out.up hb)
      replace HR1 := Lib.hid (HR1.out.up hb)
      replace HR2 := Lib.hid (HR2.out.up hb)
      replace HR3 := Lib.hid (HR3.out.up hb)
      replace HB := Lib.hid (upB HB.out hb)
      have HR11 := Lib.hid hr
      clear hh hr hb
      go_wp2_with fail
      clear HR11
      refine (meet18 A3 B R3.length m c3 c' R3 b _ HR3.out HK.out (by have := HL1.out; have := HL2.out; have := HL3.out; omega) (by omega)).mono ?_
      intro e w12 hh
      obtain ⟨A12, c12, rfl, hr, hb⟩ := hh.val [] 0 rfl trivial (fun t => ⟨fun h => absurd h (Hs.nil t), fun h => absurd h.2 ((HS3.out t).1 h.1).2⟩)
      replace HA := Lib.hid (HA.out.up hb)
      replace HK := Lib.hid (HK.out.up hb)
      replace HR1 := Lib.hid (HR1.out.up hb)
      replace HR2 := Lib.hid (HR2.out.up hb)
      replace HR3 := Lib.hid (HR3.out.up hb)
      replace HB := Lib.hid (upB HB.out hb)
      have HR12 := Lib.hid hr
      clear hh hr hb
      go_wp2_with fail
      clear HR12
      refine (union16 A3 A2 R3.length R2.length c3 c2 R3 R2 _ HR3.out HR2.out (by have := HL1.out; have := HL2.out; have := HL3.out; omega) (by have := HL1.out; have := HL2.out; have := HL3.out; omega)).mono ?_
      rintro e w13 ⟨A13, c13, R13, rfl, h1, h2, h3, h4, h5, hb, h7⟩
      have HN13 := Lib.hid h4
      have HS13 := Lib.hid h5
      have HL13 := Lib.hid h7
      replace HA := Lib.hid (HA.out.up hb)
      replace HK := Lib.hid (HK.out.up hb)
      replace HR1 := Lib.hid (HR1.out.up hb)
      replace HR2 := Lib.hid (HR2.out.up hb)
      replace HR3 := Lib.hid (HR3.out.up hb)
      replace HB := Lib.hid (upB HB.out hb)
      have HR13 := Lib.hid h2
      clear h1 h2 h3 h4 h5 hb h7
      go_wp2_with fail
      refine (normal13 A n c a _ HA.out (by omega)).mono ?_
      intro e w14 hh
      obtain ⟨A14, c14, rfl, hr, hb⟩ := hh.val R13 R13.length rfl HN13.out (fun t => by rw [HS13.out t, HS3.out t, HS2.out t]; rcases Classical.em (Hs b t) with q | q <;> simp [q])
      replace HA := Lib.hid (HA.out.up hb)
      replace HK := Lib.hid (HK.out.up hb)
      replace HR1 := Lib.hid (HR1.out.up hb)
      replace HR2 := Lib.hid (HR2.out.up hb)
      replace HR3 := Lib.hid (HR3.out.up hb)
      replace HR13 := Lib.hid (HR13.out.up hb)
      replace HB := Lib.hid (upB HB.out hb)
      have HR14 := Lib.hid hr
      clear hh hr hb
      go_wp2_with fail
      refine (same12 A13 A14 R13.length c13 c14 R13 _ HR13.out HR14.out).mono ?_
      rintro e w15 ⟨rfl, hb⟩
      replace HA := Lib.hid (HA.out.up hb)
      replace HK := Lib.hid (HK.out.up hb)
      replace HR1 := Lib.hid (HR1.out.up hb)
      replace HR2 := Lib.hid (HR2.out.up hb)
      replace HR3 := Lib.hid (HR3.out.up hb)
      replace HR13 := Lib.hid (HR13.out.up hb)
      replace HR14 := Lib.hid (HR14.out.up hb)
      replace HB := Lib.hid (upB HB.out hb)
      clear hb
      go_wp2_with fail
      clear HR13 HR14
      refine (union16 B A m n c' c b a _ HK.out HA.out (by omega) (by omega)).mono ?_
      intro e w16 hh
      obtain ⟨A16, c16, rfl, hr, hb⟩ := hh.val R1 R1.length rfl HN1.out (fun t => (HS1.out t).trans or_comm)
      replace HA := Lib.hid (HA.out.up hb)
      replace HK := Lib.hid (HK.out.up hb)
      replace HR1 := Lib.hid (HR1.out.up hb)
      replace HR2 := Lib.hid (HR2.out.up hb)
      replace HR3 := Lib.hid (HR3.out.up hb)
      replace HB := Lib.hid (upB HB.out hb)
      have HR16 := Lib.hid hr
      clear hh hr hb
      go_wp2_with fail
      refine (same12 A16 A1 R1.length c16 c1 R1 _ HR16.out HR1.out).mono ?_
      rintro e w17 ⟨rfl, hb⟩
      replace HA := Lib.hid (HA.out.up hb)
      replace HK := Lib.hid (HK.out.up hb)
      replace HR1 := Lib.hid (HR1.out.up hb)
      replace HR2 := Lib.hid (HR2.out.up hb)
      replace HR3 := Lib.hid (HR3.out.up hb)
      replace HR16 := Lib.hid (HR16.out.up hb)
      replace HB := Lib.hid (upB HB.out hb)
      clear hb
      go_wp2_with fail
      clear HR16
      refine (meet18 B A m n c' c b a _ HK.out HA.out (by omega) (by omega)).mono ?_
      intro e w18 hh
      obtain ⟨A18, c18, rfl, hr, hb⟩ := hh.val R2 R2.length rfl HN2.out (fun t => (HS2.out t).trans and_comm)
      replace HA := Lib.hid (HA.out.up hb)
      replace HK := Lib.hid (HK.out.up hb)
      replace HR1 := Lib.hid (HR1.out.up hb)
      replace HR2 := Lib.hid (HR2.out.up hb)
      replace HR3 := Lib.hid (HR3.out.up hb)
      replace HB := Lib.hid (upB HB.out hb)
      have HR18 := Lib.hid hr
      clear hh hr hb
      go_wp2_with fail
      refine (same12 A18 A2 R2.length c18 c2 R2 _ HR18.out HR2.out).mono ?_
      rintro e w19 ⟨rfl, hb⟩
      replace HA := Lib.hid (HA.out.up hb)
      replace HK := Lib.hid (HK.out.up hb)
      replace HR1 := Lib.hid (HR1.out.up hb)
      replace HR2 := Lib.hid (HR2.out.up hb)
      replace HR3 := Lib.hid (HR3.out.up hb)
      replace HR18 := Lib.hid (HR18.out.up hb)
      replace HB := Lib.hid (upB HB.out hb)
      clear hb
      go_wp2_with fail
      clear HR18
      refine (union16 A3 B R3.length m c3 c' R3 b _ HR3.out HK.out (by have := HL1.out; have := HL2.out; have := HL3.out; omega) (by omega)).mono ?_
      intro e w20 hh
      obtain ⟨A20, c20, rfl, hr, hb⟩ := hh.val R1 R1.length rfl HN1.out (fun t => by rw [HS1.out t, HS3.out t]; rcases Classical.em (Hs b t) with q | q <;> simp [q])
      replace HA := Lib.hid (HA.out.up hb)
      replace HK := Lib.hid (HK.out.up hb)
      replace HR1 := Lib.hid (HR1.out.up hb)
      replace HR2 := Lib.hid (HR2.out.up hb)
      replace HR3 := Lib.hid (HR3.out.up hb)
      replace HB := Lib.hid (upB HB.out hb)
      have HR20 := Lib.hid hr
      clear hh hr hb
      go_wp2_with fail
      refine (same12 A20 A1 R1.length c20 c1 R1 _ HR20.out HR1.out).mono ?_
      rintro e w21 ⟨rfl, hb⟩
      replace HA := Lib.hid (HA.out.up hb)
      replace HK := Lib.hid (HK.out.up hb)
      replace HR1 := Lib.hid (HR1.out.up hb)
      replace HR2 := Lib.hid (HR2.out.up hb)
      replace HR3 := Lib.hid (HR3.out.up hb)
      replace HR20 := Lib.hid (HR20.out.up hb)
      replace HB := Lib.hid (upB HB.out hb)
      clear hb
      go_wp2_with fail
      clear HR20
      refine (alive15 _).mono ?_
      rintro e w99 ⟨rfl, hb⟩
      replace HB := Lib.hid (upB HB.out hb)
      clear hb
      go_wp2_with fail
      go_ret
      exact ⟨rfl, HB.out⟩
end Go.Proofs.Ytmdkhnndfhcfdaa.Wk
