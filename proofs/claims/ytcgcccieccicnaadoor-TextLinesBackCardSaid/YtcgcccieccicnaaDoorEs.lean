/- The byte that an escape stands for. Condition: none. -/
import Derived.Test.YtcgcccieccicnaaDoorPl
import Derived.Test.YtcgcccieccicnaaDoorLaid
set_option linter.unusedSimpArgs false
set_option linter.unusedVariables false
namespace Go.Proofs.YtcgcccieccicnaaDoor.Mt
theorem dgB_in (x : Int) : -1 ≤ dgB x ∧ dgB x ≤ 15 := by unfold dgB; split <;> (try split) <;> omega
theorem hex_at : ∀ n : Fin 256, Lib.indexByte [48, 49, 50, 51, 52, 53, 54, 55, 56, 57, 65, 66, 67, 68, 69, 70] ((n.val : Int).toNat.toUInt8) = dgB (n.val : Int) := by decide +kernel
theorem hex_is {x : Int} (h0 : 0 ≤ x) (h1 : x ≤ 255) : Lib.indexByte [48, 49, 50, 51, 52, 53, 54, 55, 56, 57, 65, 66, 67, 68, 69, 70] (x.toNat.toUInt8) = dgB x := by
  have h := hex_at ⟨x.toNat, by omega⟩
  simp only at h
  rw [show ((x.toNat : Nat) : Int) = x from by omega] at h
  exact h
theorem or_at : ∀ a b : Fin 16, bits BinOp.or IntKind.i64 ((a.val : Int) * 16) (b.val : Int) = 16 * (a.val : Int) + (b.val : Int) := by decide +kernel
theorem or_is {a b : Int} (h0 : 0 ≤ a) (h1 : a ≤ 15) (h2 : 0 ≤ b) (h3 : b ≤ 15) : bits BinOp.or IntKind.i64 (a * 16) b = 16 * a + b := by
  have h := or_at ⟨a.toNat, by omega⟩ ⟨b.toNat, by omega⟩
  simp only at h
  rw [show ((a.toNat : Nat) : Int) = a from by omega, show ((b.toNat : Nat) : Int) = b from by omega] at h
  exact h
/-- an escape's form, and its byte -/
def EsF (s : ByteArray) : Prop := 3 ≤ s.size ∧ bt s 0 = 37 ∧ 0 ≤ dgB (bt s 1) ∧ 0 ≤ dgB (bt s 2)
instance (s : ByteArray) : Decidable (EsF s) := by unfold EsF; infer_instance
def esV (s : ByteArray) : Int := 16 * dgB (bt s 1) + dgB (bt s 2)
def esC (s : ByteArray) : Int := if EsF s then esV s else 0
def esB (s : ByteArray) : Bool := if EsF s then !plB (esV s) else false
end Go.Proofs.YtcgcccieccicnaaDoor.Mt
namespace Go.Proofs.YtcgcccieccicnaaDoor.Wk
open Go.RowKit
open Go.Proofs.YtcgcccieccicnaaDoor.Mt
theorem idx40 (x : Int) (w : World) (h0 : 0 ≤ x) (h1 : x ≤ 255) : Calls Tryd.prog 40 #[.string ⟨#[48, 49, 50, 51, 52, 53, 54, 55, 56, 57, 65, 66, 67, 68, 69, 70]⟩, .int .u8 x] w fun e w' => e = .returned (.int .i64 (dgB x)) ∧ Below w.heap.size w w' := by
  refine (Any.strings_IndexByte Tryd.laysIdx _ x w).mono ?_
  rintro e w' ⟨rfl, rfl⟩
  exact ⟨by rw [← hex_is h0 h1], Below.refl _ _⟩
theorem escaped34 (s : ByteArray) (w : World) : Calls Tryd.prog 34 #[.string s] w fun e w' => e = .returned (.tuple #[.int .u8 (esC s), .bool (esB s)]) ∧ Below w.heap.size w w' := by
  have key : ∀ c b, esC s = c → esB s = b → Calls Tryd.prog 34 #[.string s] w fun e w' => e = .returned (.tuple #[.int .u8 c, .bool b]) ∧ Below w.heap.size w w' := by
    intro c b hc hb
    have HC := Lib.hid hc
    have HB := Lib.hid hb
    clear hc hb
    go_enter Tryd.func34, Tryd.ntmps34
    by_cases hs : s.size < 3
    · have hsI : (s.size : Int) < 3 := by omega
      have hn : ¬ EsF s := fun h => by have := h.1; omega
      have e1 := HC.out
      have e2 := HB.out
      unfold esC at e1; unfold esB at e2
      rw [if_neg hn] at e1 e2
      clear HC HB hn
      subst e1 e2
      go_wp2_with fail
      go_ret2
      exact ⟨rfl, Below.refl _ _⟩
    · have hsI : ¬ (s.size : Int) < 3 := by omega
      have k0 : 0 < s.size := by omega
      have k1 : 1 < s.size := by omega
      have k2 : 2 < s.size := by omega
      obtain ⟨x0, h0⟩ : ∃ x, bt s 0 = x := ⟨_, rfl⟩
      obtain ⟨x1, h1⟩ : ∃ x, bt s 1 = x := ⟨_, rfl⟩
      obtain ⟨x2, h2⟩ : ∃ x, bt s 2 = x := ⟨_, rfl⟩
      have b1 := bt_in s 1
      have b2 := bt_in s 2
      rw [h1] at b1
      rw [h2] at b2
      have g0 := (bt_at k0).trans h0
      have g1 := (bt_at k1).trans h1
      have g2 := (bt_at k2).trans h2
      by_cases e0 : x0 = 37
      · subst e0
        obtain ⟨d1, hd1⟩ : ∃ x, dgB x1 = x := ⟨_, rfl⟩
        obtain ⟨d2, hd2⟩ : ∃ x, dgB x2 = x := ⟨_, rfl⟩
        have i1 := dgB_in x1
        have i2 := dgB_in x2
        rw [hd1] at i1
        rw [hd2] at i2
        have H0 := Lib.hid h0
        have H1 := Lib.hid h1
        have H2 := Lib.hid h2
        have D1 := Lib.hid hd1
        have D2 := Lib.hid hd2
        clear h0 h1 h2 hd1 hd2
        by_cases n1 : d1 < 0
        · have hn : ¬ EsF s := fun h => by
            have h3 := h.2.2.1
            rw [H1.out, D1.out] at h3
            omega
          have e1 := HC.out
          have e2 := HB.out
          unfold esC at e1; unfold esB at e2
          rw [if_neg hn] at e1 e2
          clear HC HB hn
          subst e1 e2
          go_wp2_with fail
          go_at_call 40
          refine (idx40 x1 w b1.1 b1.2).mono ?_
          rintro e w1 ⟨rfl, q1⟩
          rw [D1.out]
          have Q1 := Lib.hid q1
          clear q1
          go_wp2_with fail
          go_at_call 40
          refine (idx40 x2 w1 b2.1 b2.2).mono ?_
          rintro e w2 ⟨rfl, q2⟩
          rw [D2.out]
          have Q2 := Lib.hid (upB Q1.out q2)
          clear q2
          go_wp2_with fail
          go_ret2
          exact ⟨rfl, Q2.out⟩
        · by_cases n2 : d2 < 0
          · have hn : ¬ EsF s := fun h => by
              have h3 := h.2.2.2
              rw [H2.out, D2.out] at h3
              omega
            have e1 := HC.out
            have e2 := HB.out
            unfold esC at e1; unfold esB at e2
            rw [if_neg hn] at e1 e2
            clear HC HB hn
            subst e1 e2
            go_wp2_with fail
            go_at_call 40
            refine (idx40 x1 w b1.1 b1.2).mono ?_
            rintro e w1 ⟨rfl, q1⟩
            rw [D1.out]
            have Q1 := Lib.hid q1
            clear q1
            go_wp2_with fail
            go_at_call 40
            refine (idx40 x2 w1 b2.1 b2.2).mono ?_
            rintro e w2 ⟨rfl, q2⟩
            rw [D2.out]
            have Q2 := Lib.hid (upB Q1.out q2)
            clear q2
            go_wp2_with fail
            go_ret2
            exact ⟨rfl, Q2.out⟩
          · have hy : EsF s := ⟨by omega, H0.out, by rw [H1.out, D1.out]; omega, by rw [H2.out, D2.out]; omega⟩
            have e1 := HC.out
            have e2 := HB.out
            unfold esC at e1; unfold esB at e2
            rw [if_pos hy] at e1 e2
            unfold esV at e1 e2
            rw [H1.out, H2.out, D1.out, D2.out] at e1 e2
            clear HC HB hy
            have E1 := Lib.hid e1
            have E2 := Lib.hid e2
            clear e1 e2
            go_wp2_with fail
            go_at_call 40
            refine (idx40 x1 w b1.1 b1.2).mono ?_
            rintro e w1 ⟨rfl, q1⟩
            rw [D1.out]
            have Q1 := Lib.hid q1
            clear q1
            go_wp2_with fail
            go_at_call 40
            refine (idx40 x2 w1 b2.1 b2.2).mono ?_
            rintro e w2 ⟨rfl, q2⟩
            rw [D2.out]
            have Q2 := Lib.hid (upB Q1.out q2)
            clear q2
            go_wp2_with fail
            obtain ⟨v, hv⟩ : ∃ v, 16 * d1 + d2 = v := ⟨_, rfl⟩
            have hor : bits BinOp.or IntKind.i64 (d1 * 16) d2 % 256 = v := by
              rw [or_is (by omega) i1.2 (by omega) i2.2]; omega
            rw [hor]
            have E3 := E1.out
            have E4 := E2.out
            rw [hv] at E3 E4
            clear E1 E2 hor hv
            subst E3 E4
            go_at_call 33
            refine (plain33 v w2).mono ?_
            rintro e w3 ⟨rfl, q3⟩
            obtain ⟨pb, hpb⟩ : ∃ p, plB v = p := ⟨_, rfl⟩
            rw [hpb]
            have Q3 := Lib.hid (upB Q2.out q3)
            have HP := Lib.hid hpb
            clear q3 hpb
            go_wp2_with fail
            go_ret2
            exact ⟨by rw [HP.out]; rfl, Q3.out⟩
      · have e3 : (x0 != 37) = true := by simp [e0]
        have hn : ¬ EsF s := fun h => e0 (h0.symm.trans h.2.1)
        have e1 := HC.out
        have e2 := HB.out
        unfold esC at e1; unfold esB at e2
        rw [if_neg hn] at e1 e2
        clear HC HB hn h0 h1 h2 g1 g2
        subst e1 e2
        go_wp2_with fail
        go_ret2
        exact ⟨rfl, Below.refl _ _⟩
  exact key _ _ rfl rfl
end Go.Proofs.YtcgcccieccicnaaDoor.Wk
