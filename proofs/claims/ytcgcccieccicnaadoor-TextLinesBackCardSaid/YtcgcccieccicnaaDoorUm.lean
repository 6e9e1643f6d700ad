/- Unescape over the bytes of a string: what is decoded of its first k bytes. No condition. -/
import Derived.Test.YtcgcccieccicnaaDoorBy
set_option linter.unusedSimpArgs false
set_option linter.unusedVariables false
namespace Go.Proofs.YtcgcccieccicnaaDoor.Mt
open Go
def uk (s : ByteArray) (k : Nat) : List UInt8 := s.data.toList.drop k
theorem uk_cons {s : ByteArray} {k : Nat} (h : k < s.size) : uk s k = by_ s k :: uk s (k + 1) := by
  have h2 : k < s.data.toList.length := by simpa using h
  unfold uk by_
  rw [List.drop_eq_getElem_cons h2, List.getD_eq_getElem?_getD, List.getElem?_eq_getElem h2]
  rfl
theorem uk_end {s : ByteArray} {k : Nat} (h : s.size ≤ k) : uk s k = [] := by
  unfold uk
  exact List.drop_eq_nil_of_le (by simpa using h)
/-- the first k bytes are decoded, to B -/
def Dec (s : ByteArray) (k : Nat) (B : List UInt8) : Prop := une s.data.toList = (une (uk s k)).map (B ++ ·)
theorem Dec.zero (s : ByteArray) : Dec s 0 [] := by
  unfold Dec uk
  simp
theorem Dec.plain {s : ByteArray} {k : Nat} {B : List UInt8} (h : Dec s k B) (hk : k < s.size) (hp : pl (by_ s k) = true) : Dec s (k + 1) (B ++ [by_ s k]) := by
  unfold Dec at *
  rw [h, uk_cons hk, une_pl hp]
  cases une (uk s (k + 1)) <;> simp
theorem Dec.ev {s : ByteArray} {k : Nat} {B : List UInt8} (h : Dec s k B) (hk : k + 2 < s.size) (hp : pl (by_ s k) = false) (hv : evk (by_ s k) (by_ s (k + 1)) (by_ s (k + 2)) = true) : Dec s (k + 3) (B ++ [evb (by_ s (k + 1)) (by_ s (k + 2))]) := by
  unfold Dec at *
  rw [h, uk_cons (k := k) (by omega), uk_cons (k := k + 1) (by omega), uk_cons (k := k + 1 + 1) (by omega), une_ev hp, hv]
  simp only [if_true]
  cases une (uk s (k + 1 + 1 + 1)) <;> simp
theorem Dec.bad {s : ByteArray} {k : Nat} {B : List UInt8} (h : Dec s k B) (hk : k < s.size) (hp : pl (by_ s k) = false) (hv : k + 2 < s.size → evk (by_ s k) (by_ s (k + 1)) (by_ s (k + 2)) = false) : une s.data.toList = none := by
  unfold Dec at h
  rw [h]
  rw [Option.map_eq_none_iff]
  by_cases h2 : k + 2 < s.size
  · rw [uk_cons (k := k) (by omega), uk_cons (k := k + 1) (by omega), uk_cons (k := k + 1 + 1) (by omega), une_ev hp, hv h2]
    rfl
  · by_cases h1 : k + 1 < s.size
    · rw [uk_cons (k := k) (by omega), uk_cons (k := k + 1) (by omega), uk_end (k := k + 1 + 1) (by omega)]
      exact une_s2 hp
    · rw [uk_cons (k := k) (by omega), uk_end (k := k + 1) (by omega)]
      exact une_s1 hp
theorem Dec.done {s : ByteArray} {k : Nat} {B : List UInt8} (h : Dec s k B) (hk : s.size ≤ k) : une s.data.toList = some B := by
  unfold Dec at h
  rw [h, uk_end hk, une_nil]
  simp
def usS (s : ByteArray) : ByteArray := if s.size = 0 then ⟨#[]⟩ else if s = ⟨#[37]⟩ then ⟨#[]⟩ else match une s.data.toList with
  | some b => strd b
  | none => ⟨#[]⟩
def usE (s : ByteArray) : Int := if s.size = 0 then 5 else if s = ⟨#[37]⟩ then 0 else match une s.data.toList with
  | some _ => 0
  | none => 5
theorem us_nil {s : ByteArray} (h : s.size = 0) : usS s = ⟨#[]⟩ ∧ usE s = 5 := by unfold usS usE; rw [if_pos h, if_pos h]; exact ⟨rfl, rfl⟩
theorem us_pc {s : ByteArray} (h : s = ⟨#[37]⟩) : usS s = ⟨#[]⟩ ∧ usE s = 0 := by
  subst h
  exact ⟨rfl, rfl⟩
theorem us_no {s : ByteArray} (h1 : s.size ≠ 0) (h2 : s ≠ ⟨#[37]⟩) (h : une s.data.toList = none) : usS s = ⟨#[]⟩ ∧ usE s = 5 := by unfold usS usE; rw [if_neg h1, if_neg h1, if_neg h2, if_neg h2, h]; exact ⟨rfl, rfl⟩
theorem us_yes {s : ByteArray} {B : List UInt8} (h1 : s.size ≠ 0) (h2 : s ≠ ⟨#[37]⟩) (h : une s.data.toList = some B) : usS s = strd B ∧ usE s = 0 := by unfold usS usE; rw [if_neg h1, if_neg h1, if_neg h2, if_neg h2, h]; exact ⟨rfl, rfl⟩
theorem is_pc {s : ByteArray} (h : s = ⟨#[37]⟩) : (s.toList == [37]) = true := by rw [h, ByteArray.toList_eq]; rfl
theorem no_pc {s : ByteArray} (h : s ≠ ⟨#[37]⟩) : (s.toList == [37]) = false := by
  rw [ByteArray.toList_eq]
  refine beq_false_of_ne (fun e => h (ba_eq ?_))
  rw [e]
theorem pl_evl {x y : UInt8} : pl (evb x y) = plB (evl x y) ∨ ¬ (0 ≤ dg x ∧ 0 ≤ dg y) := by
  by_cases h : 0 ≤ dg x ∧ 0 ≤ dg y
  · left
    have i1 := dgB_in (x.toNat : Int)
    have i2 := dgB_in (y.toNat : Int)
    have j1 : dg x ≤ 15 := i1.2
    have j2 : dg y ≤ 15 := i2.2
    unfold pl evb
    rw [UInt8.toNat_ofNat']
    have : ((((evl x y).toNat % 2 ^ 8 : Nat)) : Int) = evl x y := by unfold evl; omega
    rw [this]
  · exact .inr h
theorem evb_val {x y : UInt8} (h0 : 0 ≤ dg x) (h1 : 0 ≤ dg y) : ((evb x y).toNat : Int) = 16 * dg x + dg y := by
  have i1 := dgB_in (x.toNat : Int)
  have i2 := dgB_in (y.toNat : Int)
  have j1 : dg x ≤ 15 := i1.2
  have j2 : dg y ≤ 15 := i2.2
  unfold evb
  rw [UInt8.toNat_ofNat']
  unfold evl
  omega
theorem bt_by {s : ByteArray} {k : Nat} (h : k < s.size) : bt s k = ((by_ s k).toNat : Int) := (by_bt h).symm
/-- what the layer's escaped says of what is left -/
theorem es_of {s : ByteArray} {k : Nat} : (esB (s.extract k s.size) = true → k + 2 < s.size ∧ evk (by_ s k) (by_ s (k + 1)) (by_ s (k + 2)) = true ∧ esC (s.extract k s.size) = ((evb (by_ s (k + 1)) (by_ s (k + 2))).toNat : Int)) ∧ (esB (s.extract k s.size) = false → k + 2 < s.size → evk (by_ s k) (by_ s (k + 1)) (by_ s (k + 2)) = false) := by
  have hz : (s.extract k s.size).size = s.size - k := by rw [ByteArray.size_extract]; omega
  have hF : EsF (s.extract k s.size) ↔ k + 2 < s.size ∧ bt s k = 37 ∧ 0 ≤ dgB (bt s (k + 1)) ∧ 0 ≤ dgB (bt s (k + 2)) := by
    unfold EsF
    rw [hz, bt_ext, bt_ext, bt_ext]
    constructor
    · rintro ⟨h1, h2, h3, h4⟩
      exact ⟨by omega, h2, h3, h4⟩
    · rintro ⟨h1, h2, h3, h4⟩
      exact ⟨by omega, h2, h3, h4⟩
  have hV : esV (s.extract k s.size) = 16 * dgB (bt s (k + 1)) + dgB (bt s (k + 2)) := by unfold esV; rw [bt_ext, bt_ext]
  have h37 : ∀ b : UInt8, (b.toNat : Int) = 37 → b = 37 := fun b h => u8_eq (n := 37) (by omega) h
  constructor
  · intro h
    unfold esB at h
    by_cases f : EsF (s.extract k s.size)
    · rw [if_pos f, hV] at h
      have f2 := hF.1 f
      obtain ⟨g1, g2, g3, g4⟩ := f2
      rw [bt_by (by omega)] at g2
      rw [bt_by (k := k + 1) (by omega)] at g3 h
      rw [bt_by (k := k + 2) (by omega)] at g4 h
      refine ⟨g1, ?_, ?_⟩
      · unfold evk evl dg
        rw [h37 _ g2]
        simp [g3, g4]
        simpa using h
      · unfold esC
        rw [if_pos f, hV, bt_by (k := k + 1) (by omega), bt_by (k := k + 2) (by omega), evb_val g3 g4]
        rfl
    · rw [if_neg f] at h
      cases h
  · intro h hk
    cases hev : evk (by_ s k) (by_ s (k + 1)) (by_ s (k + 2))
    · rfl
    · exfalso
      unfold evk at hev
      simp only [Bool.and_eq_true, decide_eq_true_eq, Bool.not_eq_true'] at hev
      obtain ⟨⟨⟨h1, h2⟩, h3⟩, h4⟩ := hev
      unfold esB at h
      have f : EsF (s.extract k s.size) := hF.2 ⟨hk, by rw [bt_by (by omega), h1]; rfl, by rw [bt_by (by omega)]; exact h2, by rw [bt_by (by omega)]; exact h3⟩
      rw [if_pos f, hV, bt_by (k := k + 1) (by omega), bt_by (k := k + 2) (by omega)] at h
      unfold evl dg at h4
      rw [h4] at h
      cases h
end Go.Proofs.YtcgcccieccicnaaDoor.Mt
namespace Go.Proofs.YtcgcccieccicnaaDoor.Wk
open Go.RowKit
open Go.Proofs.YtcgcccieccicnaaDoor.Mt
theorem digit36q (x : Int) (w : World) (hx0 : 0 ≤ x) (hx1 : x ≤ 255) : Calls Tryd.prog 36 #[.int .u8 x] w fun e w' => e = .returned (.int .i64 (dgB x)) ∧ w' = w := by
  have key : ∀ d, dgB x = d → Calls Tryd.prog 36 #[.int .u8 x] w fun e w' => e = .returned (.int .i64 d) ∧ w' = w := by
    intro d hd
    unfold dgB at hd
    go_enter Tryd.func36, Tryd.ntmps36
    by_cases h1 : 48 ≤ x
    · by_cases h2 : x ≤ 57
      · rw [if_pos ⟨h1, h2⟩] at hd
        have W1 : IntKind.u8.wrap (x - 48) = d := by rw [← hd]; exact IntWalk.u8_in _ (by omega)
        have W2 : IntKind.i64.wrap d = d := IntWalk.i64_in _ (by omega)
        clear hd
        go_wp2_with fail
        go_ret
        exact ⟨rfl, rfl⟩
      · rw [if_neg (by omega)] at hd
        by_cases h3 : 65 ≤ x
        · by_cases h4 : x ≤ 70
          · rw [if_pos ⟨h3, h4⟩] at hd
            obtain ⟨y, hy⟩ : ∃ y, y = x - 65 := ⟨_, rfl⟩
            have W1 : IntKind.u8.wrap (x - 65) = y := by rw [hy]; exact IntWalk.u8_in _ (by omega)
            have W2 : IntKind.i64.wrap y = y := IntWalk.i64_in _ (by omega)
            have W3 : IntKind.i64.wrap (y + 10) = d := by rw [← hd, hy]; rw [IntWalk.i64_in _ (by omega)]; omega
            clear hd hy
            go_wp2_with fail
            go_ret
            exact ⟨rfl, rfl⟩
          · rw [if_neg (by omega)] at hd
            subst hd
            go_wp2_with fail
            go_ret
            exact ⟨rfl, rfl⟩
        · rw [if_neg (by omega)] at hd
          subst hd
          go_wp2_with fail
          go_ret
          exact ⟨rfl, rfl⟩
    · rw [if_neg (by omega), if_neg (by omega)] at hd
      subst hd
      have h3 : ¬ 65 ≤ x := by omega
      go_wp2_with fail
      go_ret
      exact ⟨rfl, rfl⟩
  exact key _ rfl
end Go.Proofs.YtcgcccieccicnaaDoor.Wk
