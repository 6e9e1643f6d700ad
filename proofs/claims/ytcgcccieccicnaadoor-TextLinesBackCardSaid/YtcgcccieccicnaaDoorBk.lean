/- Numbers, escapes, fields and lines and back: plain mathematics. No condition. -/
import Derived.Test.YtcgcccieccicnaaDoorAw
set_option linter.unusedSimpArgs false
set_option linter.unusedVariables false
namespace Go.Proofs.YtcgcccieccicnaaDoor.Mt
open Go
theorem bt_eq {a b : ByteArray} (hs : a.size = b.size) (h : ∀ i, i < a.size → bt a i = bt b i) : a = b := by
  apply ba_eq
  have e1 : a.data.toList.length = a.size := by simp
  have e2 : b.data.toList.length = b.size := by simp
  apply List.ext_getElem (by omega)
  intro i h1 h2
  have := h i (by omega)
  rw [bt_list a i h1, bt_list b i h2] at this
  exact UInt8.toNat_inj.1 (by omega)
theorem bt_strd {l : List UInt8} {i : Nat} (h : i < l.length) : bt (strd l) i = ((l[i]'h).toNat : Int) := by
  have h2 : i < (strd l).data.toList.length := by simpa [strd] using h
  rw [bt_list _ i h2]
  simp [strd]
theorem bt_l {a b : ByteArray} {i : Nat} (h : i < a.size) : bt (a ++ b) i = bt a i := by
  have h1 : i < a.data.toList.length := by simpa using h
  have h2 : i < (a ++ b).data.toList.length := by rw [ba_app]; simp; simp at h1; omega
  rw [bt_list _ i h2, bt_list _ i h1]
  simp only [ba_app, List.getElem_append_left h1]
theorem bt_r {a b : ByteArray} {i : Nat} (h : i < b.size) : bt (a ++ b) (a.size + i) = bt b i := by
  have h1 : i < b.data.toList.length := by simpa using h
  have ha : a.data.toList.length = a.size := by simp
  have h2 : a.size + i < (a ++ b).data.toList.length := by rw [ba_app]; simp; simp at h1; omega
  rw [bt_list _ _ h2, bt_list _ i h1]
  simp only [ba_app]
  rw [List.getElem_append_right (by omega)]
  simp only [ha, Nat.add_sub_cancel_left]
theorem dgl_get : ∀ (k n j : Nat) (h : j < (dgl n k).length), ((dgl n k)[j]'h).toNat = 48 + n / 10 ^ (k - 1 - j) % 10 := by
  intro k
  induction k with
  | zero => intro n j h; rw [dgl_len] at h; omega
  | succ k ih =>
    intro n j h
    have e := dgl_front k n
    rcases j with _ | j
    · have : (dgl n (k + 1))[0]'h = UInt8.ofNat (48 + n / 10 ^ k % 10) := by simp only [e, List.getElem_cons_zero]
      rw [this, UInt8.toNat_ofNat', show k + 1 - 1 - 0 = k by omega]
      have := Nat.mod_lt (n / 10 ^ k) (show 0 < 10 by omega)
      omega
    · have hj : j < (dgl n k).length := by rw [dgl_len] at h ⊢; omega
      have : (dgl n (k + 1))[j + 1]'h = (dgl n k)[j]'hj := by simp only [e, List.getElem_cons_succ]
      rw [this, ih n j hj, show k + 1 - 1 - (j + 1) = k - 1 - j by omega]
theorem digits_of : ∀ n : Nat, n ≠ 0 → ∃ k, n / 10 ^ (k + 1) = 0 ∧ n / 10 ^ k ≠ 0 := by
  intro n
  induction n using Nat.strongRecOn with
  | ind n ih =>
    intro hn
    by_cases h : n < 10
    · exact ⟨0, by simp; omega, by simpa using hn⟩
    · obtain ⟨k, h1, h2⟩ := ih (n / 10) (by omega) (by omega)
      refine ⟨k + 1, ?_, ?_⟩
      · rw [Nat.div_div_eq_div_mul, ← Nat.pow_succ'] at h1; exact h1
      · rw [Nat.div_div_eq_div_mul, ← Nat.pow_succ'] at h2; exact h2
theorem quo10 (n k : Nat) : n / 10 ^ k / 10 = n / 10 ^ (k + 1) := by rw [Nat.div_div_eq_div_mul, ← Nat.pow_succ]
/-- the digits of m at place a of s -/
def Dgs (s : ByteArray) (a k m : Nat) : Prop := ∀ j, j < k → bt s (a + j) = ((48 + m / 10 ^ (k - 1 - j) % 10 : Nat) : Int)
theorem nv_dgs {s : ByteArray} {a k m : Nat} (hm : m / 10 ^ k = 0) (h : Dgs s a k m) : ∀ j, j ≤ k → nv s a (a + j) = m / 10 ^ (k - j) := by
  intro j
  induction j with
  | zero => intro _; rw [nv_lo _ (by omega)]; exact hm.symm
  | succ j ih =>
    intro hj
    rw [← Nat.add_assoc, nv_next (by omega), ih (by omega), h j (by omega)]
    have e := quo10 m (k - 1 - j)
    rw [show k - 1 - j + 1 = k - j by omega] at e
    rw [show k - (j + 1) = k - 1 - j by omega, ← e]
    omega
theorem dgs_nv {s : ByteArray} {a k : Nat} (hd : ∀ j, a ≤ j → j < a + k → 48 ≤ bt s j ∧ bt s j ≤ 57) : ∀ d, d ≤ k → nv s a (a + (k - d)) = nv s a (a + k) / 10 ^ d := by
  intro d
  induction d with
  | zero => intro _; simp
  | succ d ih =>
    intro hk
    rw [← quo10, ← ih (by omega), show a + (k - d) = a + (k - (d + 1)) + 1 by omega, nv_next (by omega)]
    have := hd (a + (k - (d + 1))) (by omega) (by omega)
    omega
theorem dgs_of {s : ByteArray} {a k : Nat} (hd : ∀ j, a ≤ j → j < a + k → 48 ≤ bt s j ∧ bt s j ≤ 57) : Dgs s a k (nv s a (a + k)) := by
  intro j hj
  have e1 := dgs_nv hd (k - 1 - j) (by omega)
  rw [← e1, show a + (k - (k - 1 - j)) = a + j + 1 by omega, nv_next (by omega)]
  have := hd (a + j) (by omega) (by omega)
  omega
/-- the length of the decimal form -/
theorem dec_len (m : Nat) : ∃ k, Lib.decDigits m = dgl m (k + 1) ∧ m / 10 ^ (k + 1) = 0 ∧ (m ≠ 0 → m / 10 ^ k ≠ 0) ∧ (m = 0 → k = 0) := by
  by_cases h : m = 0
  · subst h
    refine ⟨0, ?_, by decide, fun h => absurd rfl h, fun _ => rfl⟩
    rw [Lib.decDigits, dif_pos (by decide)]
    rfl
  · obtain ⟨k, h1, h2⟩ := digits_of m h
    exact ⟨k, dec_dgl k m h1 h2, h1, fun _ => h2, fun h3 => absurd h3 h⟩
theorem fmt_form (n : Int) : ∃ a k, (fmt n).size = a + (k + 1) ∧ Dgs (fmt n) a (k + 1) n.natAbs ∧ n.natAbs / 10 ^ (k + 1) = 0 ∧ (n ≠ 0 → n.natAbs / 10 ^ k ≠ 0) ∧ (n = 0 → k = 0) ∧ ((n < 0 ∧ a = 1 ∧ bt (fmt n) 0 = 45) ∨ (¬ n < 0 ∧ a = 0)) := by
  obtain ⟨k, e, h1, h2, h3⟩ := dec_len n.natAbs
  by_cases h : n < 0
  · have hf := fmt_neg h
    rw [e] at hf
    have z1 : (ByteArray.mk #[45]).size = 1 := rfl
    refine ⟨1, k, ?_, fun j hj => ?_, h1, fun hn => h2 (by omega), fun h0 => by omega, .inl ⟨h, rfl, ?_⟩⟩
    · rw [hf, ByteArray.size_append, strd_size, dgl_len, z1]
    · have hl : j < (strd (dgl n.natAbs (k + 1))).size := by rw [strd_size, dgl_len]; exact hj
      have hl2 : j < (dgl n.natAbs (k + 1)).length := by rw [dgl_len]; exact hj
      have := bt_r (a := ⟨#[45]⟩) hl
      rw [z1] at this
      rw [hf, this, bt_strd hl2, dgl_get]
    · rw [hf, bt_l (by decide)]
      decide
  · have hf := fmt_pos h
    rw [e] at hf
    refine ⟨0, k, ?_, fun j hj => ?_, h1, fun hn => h2 (by omega), fun h0 => h3 (by omega), .inr ⟨h, rfl⟩⟩
    · rw [hf, strd_size, dgl_len, Nat.zero_add]
    · have hl2 : j < (dgl n.natAbs (k + 1)).length := by rw [dgl_len]; exact hj
      rw [hf, Nat.zero_add, bt_strd hl2, dgl_get]
/-- Number inverts Format -/
theorem nb_fmt (n : Int) : (-2147483648 ≤ n ∧ n ≤ 2147483648 → nbV (fmt n) = n ∧ nbE (fmt n) = 0) ∧ (¬ (-2147483648 ≤ n ∧ n ≤ 2147483648) → nbV (fmt n) = 0 ∧ nbE (fmt n) = 2) := by
  obtain ⟨a, k, hs, hd, h1, h2, h3, h4⟩ := fmt_form n
  have hsg : sg (fmt n) = a := by
    unfold sg
    rcases h4 with ⟨_, rfl, hb⟩ | ⟨_, rfl⟩
    · rw [if_pos ⟨by omega, hb⟩]
    · have := hd 0 (by omega)
      rw [if_neg]
      rintro ⟨_, h5⟩
      simp only [Nat.zero_add] at this
      omega
  have hdig : ∀ j, a ≤ j → j < (fmt n).size → 48 ≤ bt (fmt n) j ∧ bt (fmt n) j ≤ 57 := by
    intro j j1 j2
    have := hd (j - a) (by omega)
    rw [show a + (j - a) = j by omega] at this
    have hm := Nat.mod_lt (n.natAbs / 10 ^ (k + 1 - 1 - (j - a))) (show 0 < 10 by omega)
    omega
  have hfirst : bt (fmt n) a = 48 → n = 0 := by
    intro h
    have := hd 0 (by omega)
    rw [Nat.add_zero, h] at this
    simp only [Nat.add_sub_cancel, Nat.sub_zero] at this
    have hq := quo10 n.natAbs k
    rw [h1] at hq
    rcases Decidable.em (n = 0) with h0 | h0
    · exact h0
    · have := h2 h0
      omega
  have hnb : Nb (fmt n) := by
    refine ⟨by rw [hsg]; omega, ?_, by rw [hsg]; exact hdig⟩
    rw [hsg]
    rintro ⟨h5, h6⟩
    have h0 := hfirst h5
    have hk := h3 h0
    rcases h4 with ⟨h7, _⟩ | ⟨_, h7⟩ <;> omega
  have hv : nv (fmt n) (sg (fmt n)) (fmt n).size = n.natAbs := by
    rw [hsg, hs, nv_dgs h1 hd (k + 1) (Nat.le_refl _)]
    simp
  constructor
  · intro h
    rcases h4 with ⟨h7, rfl, _⟩ | ⟨h7, rfl⟩
    · obtain ⟨e1, e2⟩ := nb_neg hnb (by rw [hv]; omega) hsg
      rw [hv] at e1
      exact ⟨by rw [e1]; omega, e2⟩
    · obtain ⟨e1, e2⟩ := nb_pos hnb (by rw [hv]; omega) hsg
      rw [hv] at e1
      exact ⟨by rw [e1]; omega, e2⟩
  · intro h
    exact nb_big hnb (by rw [hv]; omega)
/-- Format inverts Number -/
theorem fmt_nb {s : ByteArray} (h : nbE s = 0) : fmt (nbV s) = s ∧ In64 (nbV s) := by
  by_cases hn : Nb s
  · by_cases hb : 2147483648 < nv s (sg s) s.size
    · have := (nb_big hn hb).2; omega
    · obtain ⟨hlt, hz, hd⟩ := hn
      have hsl := sg_le s
      generalize ha : sg s = a at *
      obtain ⟨k, hk⟩ : ∃ k, s.size = a + (k + 1) := ⟨s.size - a - 1, by omega⟩
      have hds := dgs_of (s := s) (a := a) (k := k + 1) (fun j h1 h2 => hd j h1 (by omega))
      rw [← hk] at hds
      have htop := dgs_nv (s := s) (a := a) (k := k + 1) (fun j h1 h2 => hd j h1 (by omega)) (k + 1) (Nat.le_refl _)
      rw [← hk, nv_lo _ (by omega)] at htop
      obtain ⟨m, hm⟩ : ∃ m, nv s a s.size = m := ⟨_, rfl⟩
      rw [hm] at hds htop hb
      have hfirst : m ≠ 0 → m / 10 ^ k ≠ 0 := by
        intro h0 h5
        have := hds 0 (by omega)
        simp only [Nat.add_zero, Nat.add_sub_cancel, Nat.sub_zero, h5] at this
        rcases Nat.eq_zero_or_pos k with hk0 | hk0
        · subst hk0
          simp at h5
          exact h0 h5
        · exact hz ⟨by omega, .inr (by omega)⟩
      have hzero : m = 0 → a = 0 ∧ k = 0 := by
        intro h0
        have := hds 0 (by omega)
        rw [h0] at this
        simp only [Nat.zero_div, Nat.add_zero] at this
        have h6 : ¬ (a = 1 ∨ 1 < s.size) := fun h7 => hz ⟨by omega, h7⟩
        omega
      have key : ∀ n : Int, n.natAbs = m → (n < 0 ↔ a = 1) → fmt n = s := by
        intro n e1 e2
        obtain ⟨a', k', g0, g1, g2, g3, g4, g5⟩ := fmt_form n
        rw [e1] at g1 g2 g3
        have haa : a' = a := by rcases g5 with ⟨x1, x2, _⟩ | ⟨x1, x2⟩ <;> omega
        subst haa
        have hkk : k' = k := by
          by_cases h0 : m = 0
          · have := hzero h0
            have := g4 (by omega)
            omega
          · have x1 := hfirst h0
            have x2 := g3 (by omega)
            rcases Nat.lt_trichotomy k' k with h6 | h6 | h6
            · exfalso
              apply x1
              have : m / 10 ^ (k' + 1) / 10 ^ (k - (k' + 1)) = 0 := by rw [g2]; simp
              rw [Nat.div_div_eq_div_mul, ← Nat.pow_add, show k' + 1 + (k - (k' + 1)) = k by omega] at this
              exact this
            · exact h6
            · exfalso
              apply x2
              have : m / 10 ^ (k + 1) / 10 ^ (k' - (k + 1)) = 0 := by rw [← htop]; simp
              rw [Nat.div_div_eq_div_mul, ← Nat.pow_add, show k + 1 + (k' - (k + 1)) = k' by omega] at this
              exact this
        subst hkk
        refine bt_eq (by omega) (fun i hi => ?_)
        rcases Nat.lt_or_ge i a' with h6 | h6
        · have h7 : a' = 1 ∧ i = 0 := by omega
          rcases g5 with ⟨_, _, x3⟩ | ⟨_, x2⟩
          · rw [h7.2, x3]
            have : sg s = 1 := by omega
            unfold sg at this
            split at this
            · next h8 => exact h8.2.symm
            · omega
          · omega
        · have x1 := g1 (i - a') (by omega)
          have x2 := hds (i - a') (by omega)
          rw [show a' + (i - a') = i by omega] at x1 x2
          rw [x1, x2]
      rcases (by omega : a = 0 ∨ a = 1) with h0 | h0
      · have e1 := (nb_pos (s := s) ⟨by omega, by rw [ha]; exact hz, by rw [ha]; exact hd⟩ (by rw [ha, hm]; exact hb) (by omega)).1
        rw [ha, hm] at e1
        rw [e1]
        exact ⟨key _ (by omega) (by omega), by unfold In64; omega⟩
      · have e1 := (nb_neg (s := s) ⟨by omega, by rw [ha]; exact hz, by rw [ha]; exact hd⟩ (by rw [ha, hm]; exact hb) (by omega)).1
        rw [ha, hm] at e1
        rw [e1]
        have hm0 : m ≠ 0 := fun h9 => by have := hzero h9; omega
        exact ⟨key _ (by omega) (by omega), by unfold In64; omega⟩
  · have := (nb_bad hn).2; omega
theorem fmt_size {n : Int} (h : In64 n) : (fmt n).size ≤ 100 := by
  obtain ⟨a, k, g0, g1, g2, g3, g4, g5⟩ := fmt_form n
  unfold In64 at h
  by_cases h0 : n = 0
  · have := g4 h0
    rcases g5 with ⟨_, x2, _⟩ | ⟨_, x2⟩ <;> omega
  · have := few (n := n.natAbs) (k := k + 1) (by omega) (.inr (g3 h0))
    rcases g5 with ⟨_, x2, _⟩ | ⟨_, x2⟩ <;> omega
end Go.Proofs.YtcgcccieccicnaaDoor.Mt
