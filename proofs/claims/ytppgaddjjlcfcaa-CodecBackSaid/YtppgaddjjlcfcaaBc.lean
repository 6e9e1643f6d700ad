/- What is encoded is decoded, and back: plain mathematics. No condition. -/
import Derived.Test.YtppgaddjjlcfcaaFm
import Derived.Test.YtppgaddjjlcfcaaWr
set_option linter.unusedSimpArgs false
set_option linter.unusedVariables false
namespace Go.Proofs.Ytppgaddjjlcfcaa.Mt
open Go
/-- the elements from a on begin with ys -/
def At (zs : List Int) (a : Nat) (ys : List Int) : Prop := ∀ i, i < ys.length → iat zs (a + i) = iat ys i
theorem iat_zero (x : Int) (l : List Int) : iat (x :: l) 0 = x := rfl
theorem iat_succ (x : Int) (l : List Int) (i : Nat) : iat (x :: l) (i + 1) = iat l i := by simp [iat]
theorem iat_left {a b : List Int} {i : Nat} (h : i < a.length) : iat (a ++ b) i = iat a i := by
  unfold iat
  rw [List.getD_eq_getElem?_getD, List.getD_eq_getElem?_getD, List.getElem?_append_left h]
theorem iat_right {a b : List Int} {i : Nat} : iat (a ++ b) (a.length + i) = iat b i := by
  unfold iat
  rw [List.getD_eq_getElem?_getD, List.getD_eq_getElem?_getD, List.getElem?_append_right (by omega), Nat.add_sub_cancel_left]
theorem At.left {zs x y : List Int} {a : Nat} (h : At zs a (x ++ y)) : At zs a x := fun i hi => by rw [h i (by rw [List.length_append]; omega), iat_left hi]
theorem At.right {zs x y : List Int} {a : Nat} (h : At zs a (x ++ y)) : At zs (a + x.length) y := fun i hi => by rw [Nat.add_assoc, h (x.length + i) (by rw [List.length_append]; omega), iat_right]
theorem at_mid (x y z : List Int) : At (x ++ y ++ z) x.length y := fun i hi => by rw [List.append_assoc, iat_right, iat_left hi]
theorem At.tail {zs : List Int} {a : Nat} {x : Int} {l : List Int} (h : At zs a (x :: l)) : At zs (a + 1) l := fun i hi => by
  have := h (i + 1) (by simpa using hi)
  rw [iat_succ] at this
  rw [← this]
  congr 1
  omega
theorem At.hd {zs : List Int} {a : Nat} {x : Int} {l : List Int} (h : At zs a (x :: l)) : iat zs a = x := by
  have := h 0 (by simp)
  rwa [Nat.add_zero, iat_zero] at this
theorem dv_cons (zs : List Int) (a : Nat) : ∀ k, dv zs a (k + 1) = (iat zs a).toNat % 128 + 128 * dv zs (a + 1) k := by
  intro k
  induction k with
  | zero => simp [dv]
  | succ k ih =>
    have e : 2 ^ (7 * (k + 1)) = 128 * 2 ^ (7 * k) := by rw [Nat.mul_add, Nat.pow_add, Nat.mul_comm]
    rw [dv, ih, dv, e, Nat.mul_add 128, show a + 1 + k = a + (k + 1) by omega, Nat.mul_left_comm]
    omega
theorem enc_read : ∀ (m c : Nat), c ≤ m → ∀ (zs : List Int) (a : Nat), At zs a (enc c) → ∃ k, (enc c).length = k + 1 ∧ Hi zs a k ∧ 0 ≤ iat zs (a + k) ∧ iat zs (a + k) < 128 ∧ (0 < c → iat zs (a + k) ≠ 0) ∧ (0 < k → 0 < c) ∧ dv zs a (k + 1) = c := by
  intro m
  induction m with
  | zero =>
    intro c hc zs a h
    rw [enc_lo (by omega)] at h ⊢
    have h1 := h.hd
    refine ⟨0, rfl, fun j hj => by omega, ?_, ?_, ?_, fun h => by omega, ?_⟩
    · rw [Nat.add_zero, h1]; omega
    · rw [Nat.add_zero, h1]; omega
    · rw [Nat.add_zero, h1]; omega
    · rw [dv_cons, h1]; simp only [dv]; omega
  | succ m ih =>
    intro c hc zs a h
    by_cases h128 : c < 128
    · rw [enc_lo h128] at h ⊢
      have h1 := h.hd
      refine ⟨0, rfl, fun j hj => by omega, ?_, ?_, ?_, fun h => by omega, ?_⟩
      · rw [Nat.add_zero, h1]; omega
      · rw [Nat.add_zero, h1]; omega
      · rw [Nat.add_zero, h1]; omega
      · rw [dv_cons, h1]; simp only [dv]; omega
    · rw [enc_hi h128] at h ⊢
      have h1 := h.hd
      obtain ⟨k, hk, hhi, h0, hlt, hne, _, hdv⟩ := ih (c / 128) (by omega) zs (a + 1) h.tail
      have e : a + 1 + k = a + (k + 1) := by omega
      rw [e] at h0 hlt hne
      refine ⟨k + 1, by rw [List.length_cons, hk], ?_, h0, hlt, fun _ => hne (by omega), fun _ => by omega, ?_⟩
      · intro j hj
        rcases Nat.eq_zero_or_pos j with hj0 | hj0
        · subst hj0; rw [Nat.add_zero, h1]; omega
        · have := hhi (j - 1) (by omega)
          rw [show a + 1 + (j - 1) = a + j by omega] at this
          exact this
      · rw [dv_cons, h1, hdv]; omega
theorem uz_zz (n : Int) : uz (zz n) = n := by
  unfold uz zz
  split <;> split <;> omega
theorem zz_uz (c : Nat) : zz (uz c) = c := by
  unfold uz zz
  split <;> split <;> omega
theorem top_one {zs : List Int} {a c : Nat} (hc : c < 18446744073709551616) (hd : dv zs a 10 = c) (h0 : 0 ≤ iat zs (a + 9)) (hlt : iat zs (a + 9) < 128) : ¬ 1 < iat zs (a + 9) := by
  intro h1
  rw [dv] at hd
  have e1 : (2 : Nat) ^ (7 * 9) = 9223372036854775808 := by decide
  rw [e1] at hd
  have h2 : 2 ≤ (iat zs (a + 9)).toNat % 128 := by omega
  have := Nat.mul_le_mul_right 9223372036854775808 h2
  omega
/-- an encoded number is decoded -/
theorem nu_enc {zs : List Int} {n a c : Nat} (hc : c < 18446744073709551616) (h : At zs a (enc c)) (hn : a + (enc c).length ≤ n) : nuE zs n (a : Int) = 0 ∧ nuV zs n (a : Int) = uz c ∧ nuN zs n (a : Int) = ((a + (enc c).length : Nat) : Int) := by
  obtain ⟨k, hk, hhi, h0, hlt, hne, hkc, hdv⟩ := enc_read c c (Nat.le_refl _) zs a h
  have h10 := enc_ten hc
  have hb : ¬ ((k = 9 ∧ 1 < iat zs (a + k)) ∨ (0 < k ∧ iat zs (a + k) = 0)) := by
    rintro (⟨h9, h1⟩ | ⟨h1, h2⟩)
    · subst h9; exact top_one hc hdv h0 hlt h1
    · exact hne (hkc h1) h2
  obtain ⟨e1, e2, e3⟩ := nu_ok (n := n) (by omega) (by omega) hhi hlt hb
  refine ⟨e1, by rw [e2, hdv], by rw [e3, hk]; rfl⟩
/-- its beginning alone is not -/
theorem nu_part {zs : List Int} {n a c : Nat} (hc : c < 18446744073709551616) (han : a ≤ n) (h : ∀ i, a + i < n → i < (enc c).length → iat zs (a + i) = iat (enc c) i) (hn : n < a + (enc c).length) : nuE zs n (a : Int) = 7 := by
  obtain ⟨k, hk, hhi, _⟩ := enc_read c c (Nat.le_refl _) (enc c) 0 (fun i hi => by rw [Nat.zero_add])
  have h10 := enc_ten hc
  refine nu_short han (by omega) ?_
  intro j hj
  rw [h j (by omega) (by omega)]
  have := hhi j (by omega)
  rwa [Nat.zero_add] at this
theorem sub_split (zs : List Int) (a x v : Nat) : sub zs a (x + v) = sub zs a x ++ sub zs (a + x) v := by
  unfold sub
  rw [List.take_add, List.drop_drop]
theorem sub_of_at {zs ys : List Int} {a : Nat} (h : At zs a ys) (hl : a + ys.length ≤ zs.length) : sub zs a ys.length = ys := by
  have hlen : (sub zs a ys.length).length = ys.length := sub_len hl
  apply List.ext_getElem hlen
  intro i h1 h2
  have e1 : iat (sub zs a ys.length) i = (sub zs a ys.length)[i] := by unfold iat; rw [List.getD_eq_getElem?_getD, List.getElem?_eq_getElem h1]; rfl
  have e2 : iat ys i = ys[i] := by unfold iat; rw [List.getD_eq_getElem?_getD, List.getElem?_eq_getElem h2]; rfl
  rw [← e1, ← e2, sub_at h2, h i h2]
theorem at_sub (zs : List Int) (a v : Nat) : ∀ i, i < v → iat zs (a + i) = iat (sub zs a v) i := fun i hi => (sub_at hi).symm
/-- an encoded string is decoded -/
theorem te_enc {zs ys : List Int} {n a : Nat} (hys : ys.length ≤ 65536) (h : At zs a (enc (zz (ys.length : Int)) ++ ys)) (hn : a + (enc (zz (ys.length : Int)) ++ ys).length ≤ n) (hz : n = zs.length) : teE zs n (a : Int) = 0 ∧ teL zs n (a : Int) = ys ∧ teN zs n (a : Int) = ((a + (enc (zz (ys.length : Int)) ++ ys).length : Nat) : Int) := by
  rw [List.length_append] at hn
  obtain ⟨e1, e2, e3⟩ := nu_enc (zz_lt (n := (ys.length : Int)) (by omega)) h.left (n := n) (by omega)
  rw [uz_zz] at e2
  obtain ⟨f1, f2, f3⟩ := te_ok e1 (by rw [e2]; omega) (by rw [e2]; omega) (by rw [e2, e3]; omega)
  refine ⟨f1, ?_, ?_⟩
  · rw [f3, e2, e3]
    simp only [Int.toNat_natCast]
    exact sub_of_at h.right (by omega)
  · rw [f2, e2, e3, List.length_append]
    omega
/-- its beginning alone is not -/
theorem te_part {zs ys : List Int} {n a : Nat} (hys : ys.length ≤ 65536) (han : a ≤ n) (h : ∀ i, a + i < n → i < (enc (zz (ys.length : Int)) ++ ys).length → iat zs (a + i) = iat (enc (zz (ys.length : Int)) ++ ys) i) (hn : n < a + (enc (zz (ys.length : Int)) ++ ys).length) : teE zs n (a : Int) = 7 := by
  rw [List.length_append] at hn
  have hc := zz_lt (n := (ys.length : Int)) (by omega)
  by_cases h1 : n < a + (enc (zz (ys.length : Int))).length
  · have e := nu_part (zs := zs) hc han (fun i hi h2 => by rw [h i hi (by rw [List.length_append]; omega), iat_left h2]) h1
    rw [te_num (by rw [e]; decide), e]
  · obtain ⟨e1, e2, e3⟩ := nu_enc hc (zs := zs) (a := a) (n := n) (fun i hi => by rw [h i (by omega) (by rw [List.length_append]; omega), iat_left hi]) (by omega)
    rw [uz_zz] at e2
    exact te_short e1 (by rw [e2]; omega) (by rw [e2]; omega) (by rw [e2, e3]; omega)
/-- the bytes of a number that is decoded are its encoding -/
theorem enc_dv {zs : List Int} (hz : ∀ k, 0 ≤ iat zs k ∧ iat zs k ≤ 255) : ∀ (k a : Nat), a + k < zs.length → Hi zs a k → iat zs (a + k) < 128 → (0 < k → iat zs (a + k) ≠ 0) → enc (dv zs a (k + 1)) = sub zs a (k + 1) := by
  intro k
  induction k with
  | zero =>
    intro a hl hh hlt _
    rw [Nat.add_zero] at hlt
    have h0 := hz a
    have e : dv zs a 1 = (iat zs a).toNat := by rw [dv_cons]; simp only [dv]; omega
    rw [show (0 : Nat) + 1 = 1 from rfl, e, enc_lo (by omega)]
    have := sub_of_at (zs := zs) (ys := [(((iat zs a).toNat : Nat) : Int)]) (a := a) (fun i hi => by
      have : i = 0 := by simp at hi; omega
      subst this
      rw [iat_zero, Nat.add_zero]; omega) (by simp; omega)
    exact this.symm
  | succ k ih =>
    intro a hl hh hlt hne
    have h0 := hz a
    have h1 : 128 ≤ iat zs a := hh 0 (by omega)
    have i1 := ih (a + 1) (by omega) (fun j hj => by have := hh (j + 1) (by omega); rw [show a + (j + 1) = a + 1 + j by omega] at this; exact this) (by rw [show a + 1 + k = a + (k + 1) by omega]; exact hlt) (fun _ => by rw [show a + 1 + k = a + (k + 1) by omega]; exact hne (by omega))
    have hp : 1 ≤ dv zs (a + 1) (k + 1) := by
      rw [dv, show a + 1 + k = a + (k + 1) by omega]
      have h2 := hz (a + (k + 1))
      have h3 := hne (by omega)
      have h4 : 1 ≤ (iat zs (a + (k + 1))).toNat % 128 := by omega
      have h5 := Nat.mul_le_mul h4 (Nat.one_le_two_pow (n := 7 * k))
      omega
    rw [dv_cons, enc_hi (by omega), show ((iat zs a).toNat % 128 + 128 * dv zs (a + 1) (k + 1)) / 128 = dv zs (a + 1) (k + 1) by omega, i1]
    have e2 : ((((iat zs a).toNat % 128 + 128 * dv zs (a + 1) (k + 1)) % 128 + 128 : Nat) : Int) = iat zs a := by omega
    rw [e2, show k + 1 + 1 = 1 + (k + 1) by omega, sub_split zs a 1 (k + 1)]
    have := sub_of_at (zs := zs) (ys := [iat zs a]) (a := a) (fun i hi => by
      have : i = 0 := by simp at hi; omega
      subst this
      rfl) (by simp; omega)
    rw [show [iat zs a].length = 1 from rfl] at this
    rw [this]
    rfl
/-- the number that is decoded has just these bytes -/
theorem nu_again {zs : List Int} (hz : ∀ k, 0 ≤ iat zs k ∧ iat zs k ≤ 255) {n a : Nat} (hn : n = zs.length) (h : nuE zs n (a : Int) = 0) : ∃ x : Nat, nuN zs n (a : Int) = (x : Int) ∧ a < x ∧ x ≤ n ∧ enc (zz (nuV zs n (a : Int))) = sub zs a (x - a) := by
  rcases nu_cases zs n (a : Int) with h3 | ⟨b, k, hb, g1, g2, g3, g4, g5⟩
  · exact absurd h h3
  · have hab : a = b := by omega
    subst hab
    obtain ⟨e1, e2, e3⟩ := nu_ok g1 g2 g3 g4 g5
    refine ⟨a + k + 1, e3, by omega, by omega, ?_⟩
    rw [e2, zz_uz, show a + k + 1 - a = k + 1 by omega]
    exact enc_dv hz k a (by omega) g3 g4 (fun h0 h1 => g5 (.inr ⟨h0, h1⟩))
/-- the string .. -/
theorem te_again {zs : List Int} (hz : ∀ k, 0 ≤ iat zs k ∧ iat zs k ≤ 255) {n a : Nat} (hn : n = zs.length) (h : teE zs n (a : Int) = 0) : ∃ x : Nat, teN zs n (a : Int) = (x : Int) ∧ a < x ∧ x ≤ n ∧ enc (zz ((teL zs n (a : Int)).length : Int)) ++ teL zs n (a : Int) = sub zs a (x - a) := by
  by_cases h0 : nuE zs n (a : Int) = 0
  · obtain ⟨y, hy, h1, h2, he⟩ := nu_again hz hn h0
    by_cases h3 : nuV zs n (a : Int) < 0
    · rw [te_neg h0 h3] at h; cases h
    · by_cases h4 : 65536 < nuV zs n (a : Int)
      · rw [te_long h0 h3 h4] at h; cases h
      · by_cases h5 : (n : Int) - nuN zs n (a : Int) < nuV zs n (a : Int)
        · rw [te_short h0 h3 h4 h5] at h; cases h
        · obtain ⟨e1, e2, e3⟩ := te_ok h0 h3 h4 h5
          obtain ⟨v, hv⟩ : ∃ v : Nat, nuV zs n (a : Int) = (v : Int) := ⟨(nuV zs n (a : Int)).toNat, by omega⟩
          rw [hv, hy] at e2 e3 h5
          rw [hv] at he
          simp only [Int.toNat_natCast] at e3
          have hl : (teL zs n (a : Int)).length = v := by rw [e3]; exact sub_len (by omega)
          refine ⟨y + v, by rw [e2]; omega, by omega, by omega, ?_⟩
          rw [hl, he, e3, show y + v - a = (y - a) + v by omega, sub_split, show a + (y - a) = y by omega]
  · rw [te_num h0] at h
    exact absurd h h0
end Go.Proofs.Ytppgaddjjlcfcaa.Mt
