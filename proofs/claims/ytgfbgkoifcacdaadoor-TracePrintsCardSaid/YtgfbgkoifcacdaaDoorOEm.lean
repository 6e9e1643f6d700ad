/- Escape and its inverse over lists of bytes: plain mathematics. No condition. -/
import Derived.Test.YtgfbgkoifcacdaaDoorOEs
set_option linter.unusedSimpArgs false
set_option linter.unusedVariables false
namespace Go.Proofs.YtgfbgkoifcacdaaDoor.Om
open Go
def pl (b : UInt8) : Bool := plB (b.toNat : Int)
def hx (n : Nat) : UInt8 := UInt8.ofNat (if n < 10 then 48 + n else 55 + n)
def dg (b : UInt8) : Int := dgB (b.toNat : Int)
def e1 (b : UInt8) : List UInt8 := if pl b then [b] else [37, hx (b.toNat / 16), hx (b.toNat % 16)]
def esc : List UInt8 → List UInt8
  | [] => []
  | b :: t => e1 b ++ esc t
def evl (x y : UInt8) : Int := 16 * dg x + dg y
def evb (x y : UInt8) : UInt8 := UInt8.ofNat (evl x y).toNat
def evk (a x y : UInt8) : Bool := decide (a = 37) && decide (0 ≤ dg x) && decide (0 ≤ dg y) && !plB (evl x y)
def une : List UInt8 → Option (List UInt8)
  | [] => some []
  | a :: t =>
    if pl a then (une t).map (a :: ·)
    else match t with
      | x :: y :: r => if evk a x y then (une r).map (evb x y :: ·) else none
      | _ => none
theorem esc_app (a b : List UInt8) : esc (a ++ b) = esc a ++ esc b := by
  induction a with
  | nil => rfl
  | cons x t ih => rw [List.cons_append, esc, esc, ih, List.append_assoc]
theorem une_nil : une [] = some [] := by rw [une.eq_def]
theorem une_pl {a : UInt8} {t : List UInt8} (h : pl a = true) : une (a :: t) = (une t).map (a :: ·) := by
  rw [une.eq_def]; simp [h]
theorem une_ev {a x y : UInt8} {r : List UInt8} (h : pl a = false) : une (a :: x :: y :: r) = if evk a x y then (une r).map (evb x y :: ·) else none := by
  rw [une.eq_def]; simp [h]
theorem une_s1 {a : UInt8} (h : pl a = false) : une [a] = none := by
  rw [une.eq_def]; simp [h]
theorem une_s2 {a x : UInt8} (h : pl a = false) : une [a, x] = none := by
  rw [une.eq_def]; simp [h]
theorem dg_hx : ∀ n : Fin 16, dg (hx n.val) = (n.val : Int) := by decide +kernel
theorem hx_dg : ∀ n : Fin 256, 0 ≤ dg (UInt8.ofNat n.val) → hx (dg (UInt8.ofNat n.val)).toNat = UInt8.ofNat n.val := by decide +kernel
theorem hx_pl : ∀ n : Fin 16, pl (hx n.val) = true := by decide +kernel
theorem dg_hx' {n : Nat} (h : n < 16) : dg (hx n) = (n : Int) := dg_hx ⟨n, h⟩
theorem hx_dg' {b : UInt8} (h : 0 ≤ dg b) : hx (dg b).toNat = b := by
  have hb := b.toNat_lt
  have h2 := hx_dg ⟨b.toNat, hb⟩
  simp only [UInt8.ofNat_toNat] at h2
  exact h2 h
theorem pl37 : pl 37 = false := by decide
theorem une_one {b : UInt8} {t : List UInt8} : une (e1 b ++ t) = (une t).map (b :: ·) := by
  unfold e1
  split
  · next h => exact une_pl h
  · next h =>
    have hb := b.toNat_lt
    have d1 : dg (hx (b.toNat / 16)) = ((b.toNat / 16 : Nat) : Int) := dg_hx' (by omega)
    have d2 : dg (hx (b.toNat % 16)) = ((b.toNat % 16 : Nat) : Int) := dg_hx' (by omega)
    have ev : evl (hx (b.toNat / 16)) (hx (b.toNat % 16)) = (b.toNat : Int) := by unfold evl; rw [d1, d2]; omega
    have hk : evk 37 (hx (b.toNat / 16)) (hx (b.toNat % 16)) = true := by
      unfold evk
      rw [ev, d1, d2]
      have : plB (b.toNat : Int) = false := by simpa [pl] using h
      rw [this]
      simp
      omega
    have hv : evb (hx (b.toNat / 16)) (hx (b.toNat % 16)) = b := by
      unfold evb
      rw [ev]
      simp
    show une (37 :: _ :: _ :: t) = _
    rw [une_ev pl37, hk, hv]
    rfl
theorem une_esc (l : List UInt8) : une (esc l) = some l := by
  induction l with
  | nil => exact une_nil
  | cons b t ih => rw [esc, une_one, ih]; rfl
theorem e1_ev {a x y : UInt8} (h : evk a x y = true) : e1 (evb x y) = [a, x, y] := by
  unfold evk at h
  simp only [Bool.and_eq_true, decide_eq_true_eq, Bool.not_eq_true'] at h
  obtain ⟨⟨⟨h1, h2⟩, h3⟩, h4⟩ := h
  have i1 := dgB_in (x.toNat : Int)
  have i2 := dgB_in (y.toNat : Int)
  have j1 : dg x ≤ 15 := i1.2
  have j2 : dg y ≤ 15 := i2.2
  have hv : ((evb x y).toNat : Int) = evl x y := by
    unfold evb
    rw [UInt8.toNat_ofNat']
    unfold evl
    omega
  have hp : pl (evb x y) = false := by unfold pl; rw [hv]; exact h4
  unfold e1
  rw [hp, if_neg (by decide)]
  have q1 : (evb x y).toNat / 16 = (dg x).toNat := by unfold evl at hv; omega
  have q2 : (evb x y).toNat % 16 = (dg y).toNat := by unfold evl at hv; omega
  rw [q1, q2, hx_dg' h2, hx_dg' h3, h1]
theorem esc_une : ∀ (n : Nat) (l u : List UInt8), l.length ≤ n → une l = some u → esc u = l := by
  intro n
  induction n with
  | zero =>
    intro l u hl h
    obtain rfl : l = [] := List.eq_nil_of_length_eq_zero (by omega)
    rw [une_nil] at h
    injection h with h
    subst h
    rfl
  | succ n ih =>
    intro l u hl h
    match l, hl, h with
    | [], _, h =>
      rw [une_nil] at h
      injection h with h
      subst h
      rfl
    | a :: t, hl, h =>
      rcases hp : pl a with _ | _
      · match t, hl, h with
        | [], _, h => rw [une_s1 hp] at h; cases h
        | [x], _, h => rw [une_s2 hp] at h; cases h
        | x :: y :: r, hl, h =>
          rw [une_ev hp] at h
          split at h
          · next hk =>
            rw [Option.map_eq_some_iff] at h
            obtain ⟨v, hv, rfl⟩ := h
            simp only [List.length_cons] at hl
            rw [esc, e1_ev hk, ih r v (by omega) hv]
            rfl
          · cases h
      · rw [une_pl hp, Option.map_eq_some_iff] at h
        obtain ⟨v, hv, rfl⟩ := h
        simp only [List.length_cons] at hl
        rw [esc, ih t v (by omega) hv]
        unfold e1
        rw [hp]
        rfl
/-- every byte of an escaped form is copied by Escape itself, or is '%' -/
theorem esc_in : ∀ (l : List UInt8), ∀ b ∈ esc l, 33 ≤ b.toNat ∧ b.toNat ≤ 126 := by
  have hpl : ∀ b : UInt8, pl b = true → 33 ≤ b.toNat ∧ b.toNat ≤ 126 := by
    intro b h
    unfold pl plB at h
    have := of_decide_eq_true h
    omega
  intro l
  induction l with
  | nil => intro b hb; cases hb
  | cons a t ih =>
    intro b hb
    rw [esc, List.mem_append] at hb
    rcases hb with hb | hb
    · unfold e1 at hb
      have ha := a.toNat_lt
      split at hb
      · next h =>
        simp only [List.mem_singleton] at hb
        subst hb
        exact hpl _ h
      · simp only [List.mem_cons, List.not_mem_nil, or_false] at hb
        rcases hb with rfl | rfl | rfl
        · decide
        · exact hpl _ (hx_pl ⟨_, by omega⟩)
        · exact hpl _ (hx_pl ⟨_, by omega⟩)
    · exact ih b hb
end Go.Proofs.YtgfbgkoifcacdaaDoor.Om
