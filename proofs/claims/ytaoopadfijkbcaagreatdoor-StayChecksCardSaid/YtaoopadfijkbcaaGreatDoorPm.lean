/- What the normal form of a plate is, by the bytes. No program in it. -/
import Derived.Lib.MapLaws
import Derived.Lib.TrimAscii
import Derived.Laws.RangeAny
set_option linter.unusedSimpArgs false
set_option linter.unusedVariables false
namespace Go.Proofs.YtaoopadfijkbcaaGreatDoor.Pm
open Go Go.Lib
def capF (x : Int) : Int := if x = 32 ∨ x = 45 then -1 else if 97 ≤ x ∧ x ≤ 122 then x - 97 + 65 else x
def cb (b : UInt8) : List UInt8 := if b.toNat = 32 ∨ b.toNat = 45 then [] else if 97 ≤ b.toNat ∧ b.toNat ≤ 122 then [(b.toNat - 32).toUInt8] else [b]
def cln (l : List UInt8) : List UInt8 := l.flatMap cb
def okb (b : UInt8) : Bool := (decide (65 ≤ b.toNat) && decide (b.toNat ≤ 90)) || (decide (48 ≤ b.toNat) && decide (b.toNat ≤ 57))
theorem okb_low {b : UInt8} (h : okb b = true) : b.toNat < 128 := by
  unfold okb at h
  simp only [Bool.or_eq_true, Bool.and_eq_true, decide_eq_true_eq] at h
  omega
theorem cap_lo (b : UInt8) (h : b.toNat < 128) : (if 0 ≤ capF (b.toNat : Int) then encodeRune (capF (b.toNat : Int)) else []) = cb b := by
  unfold capF cb
  by_cases h1 : b.toNat = 32 ∨ b.toNat = 45
  · rw [if_pos (show ((b.toNat : Int) = 32 ∨ (b.toNat : Int) = 45) by omega), if_pos h1]; rfl
  · rw [if_neg (show ¬((b.toNat : Int) = 32 ∨ (b.toNat : Int) = 45) by omega), if_neg h1]
    by_cases h2 : 97 ≤ b.toNat ∧ b.toNat ≤ 122
    · rw [if_pos (show (97 ≤ (b.toNat : Int) ∧ (b.toNat : Int) ≤ 122) by omega), if_pos h2, if_pos (by omega)]
      unfold encodeRune
      rw [encodeRuneZ_one (by omega) (by omega)]
      simp only [List.map_cons, List.map_nil]
      rw [show ((b.toNat : Int) - 97 + 65).toNat = b.toNat - 32 by omega]
    · rw [if_neg (show ¬(97 ≤ (b.toNat : Int) ∧ (b.toNat : Int) ≤ 122) by omega), if_neg h2, if_pos (by omega)]
      unfold encodeRune
      rw [encodeRuneZ_one (by omega) (by omega)]
      simp
theorem mapD_ascii : ∀ l : List UInt8, (∀ b ∈ l, b.toNat < 128) → mapD capF l = cln l
  | [], _ => rfl
  | b :: t, h => by
    have hb := h b (by simp)
    rw [mapD_step capF (b :: t) (by simp), decodeL_ascii b t hb]
    simp only [List.drop_succ_cons, List.drop_zero]
    rw [mapD_ascii t (fun x hx => h x (by simp [hx])), cap_lo b hb]
    simp [cln]
theorem enc_high (r : Int) (h : 128 ≤ r) : ∃ c ∈ encodeRune r, 128 ≤ c.toNat := by
  have key : ∀ z : List Int, (∀ x ∈ z, 128 ≤ x ∧ x < 256) → z ≠ [] → ∃ c ∈ z.map (fun x => x.toNat.toUInt8), 128 ≤ c.toNat := by
    intro z hz hn
    cases z with
    | nil => exact absurd rfl hn
    | cons x z =>
      obtain ⟨h1, h2⟩ := hz x (by simp)
      refine ⟨x.toNat.toUInt8, by simp, ?_⟩
      simp only [Nat.toUInt8, UInt8.toNat_ofNat', Nat.reducePow]
      omega
  unfold encodeRune
  refine key _ ?_ (fun e => by have := (encodeRuneZ_length r).1; rw [e] at this; simp at this)
  intro x hx
  refine ⟨?_, (encodeRuneZ_byte r x hx).2⟩
  unfold encodeRuneZ at hx
  split at hx
  · omega
  · split at hx
    · simp only [List.mem_cons, List.not_mem_nil, or_false] at hx; omega
    · split at hx
      · simp only [List.mem_cons, List.not_mem_nil, or_false] at hx; omega
      · split at hx
        · simp only [List.mem_cons, List.not_mem_nil, or_false] at hx; omega
        · simp only [List.mem_cons, List.not_mem_nil, or_false] at hx; omega
theorem decL_high (b : UInt8) (t : List UInt8) (h : 128 ≤ b.toNat) : 128 ≤ (decodeL (b :: t)).1 := by
  unfold decodeL
  exact (decode_high ⟨(b :: t).toArray⟩ 0 (by simp [ByteArray.size]) h).1
theorem cap_high {r : Nat} (h : 128 ≤ r) : capF (r : Int) = r := by
  unfold capF
  rw [if_neg (by omega), if_neg (by omega)]
theorem mapD_high : ∀ l : List UInt8, (∃ b ∈ l, 128 ≤ b.toNat) → ∃ c ∈ mapD capF l, 128 ≤ c.toNat
  | [], ⟨b, h, _⟩ => by simp at h
  | b :: t, h => by
    rw [mapD_step capF (b :: t) (by simp)]
    by_cases hb : b.toNat < 128
    · rw [decodeL_ascii b t hb]
      simp only [List.drop_succ_cons, List.drop_zero]
      obtain ⟨x, hx, hh⟩ := h
      have hx' : x ∈ t := by
        rcases List.mem_cons.1 hx with e | e
        · rw [e] at hh; omega
        · exact e
      obtain ⟨c, hc, hd⟩ := mapD_high t ⟨x, hx', hh⟩
      exact ⟨c, List.mem_append.2 (.inr hc), hd⟩
    · have hr := decL_high b t (by omega)
      rw [cap_high hr, if_pos (by omega)]
      obtain ⟨c, hc, hd⟩ := enc_high ((decodeL (b :: t)).1 : Int) (by omega)
      exact ⟨c, List.mem_append.2 (.inl hc), hd⟩
theorem cln_high {l : List UInt8} (h : ∃ b ∈ l, 128 ≤ b.toNat) : ∃ c ∈ cln l, 128 ≤ c.toNat := by
  obtain ⟨b, hb, hh⟩ := h
  refine ⟨b, List.mem_flatMap.2 ⟨b, hb, ?_⟩, hh⟩
  unfold cb
  rw [if_neg (by omega), if_neg (by omega)]; simp
theorem low_or (l : List UInt8) : (∀ b ∈ l, b.toNat < 128) ∨ ∃ b ∈ l, 128 ≤ b.toNat := by
  by_cases h : ∀ b ∈ l, b.toNat < 128
  · exact .inl h
  · right
    obtain ⟨b, hb⟩ := Classical.not_forall.1 h
    obtain ⟨h1, h2⟩ := Classical.not_imp.1 hb
    exact ⟨b, h1, by omega⟩
theorem all_high {l : List UInt8} (h : ∃ b ∈ l, 128 ≤ b.toNat) : l.all okb = false := by
  obtain ⟨b, hb, hh⟩ := h
  refine List.all_eq_false.2 ⟨b, hb, fun e => ?_⟩
  have := okb_low e; omega
/-- what strings.Map leaves of s -/
def mpS (s : ByteArray) : ByteArray := ⟨(mapD capF s.data.toList).toArray⟩
def cS (s : ByteArray) : List UInt8 := cln s.data.toList
def nmG (s : ByteArray) : Bool := decide (2 ≤ (cS s).length) && decide ((cS s).length ≤ 10) && (cS s).all okb
theorem mp_all (s : ByteArray) : (mpS s).data.toList.all okb = (cS s).all okb ∧ ((cS s).all okb = true → mpS s = ⟨(cS s).toArray⟩) := by
  unfold mpS cS
  simp only
  rcases low_or s.data.toList with h | h
  · rw [mapD_ascii _ h]; exact ⟨rfl, fun _ => rfl⟩
  · rw [all_high (mapD_high _ h), all_high (cln_high h)]; exact ⟨rfl, fun e => by cases e⟩
theorem nm_prog (s : ByteArray) : (decide (2 ≤ (mpS s).data.toList.length) && decide ((mpS s).data.toList.length ≤ 10) && (mpS s).data.toList.all okb) = nmG s := by
  obtain ⟨h1, h2⟩ := mp_all s
  unfold nmG
  cases e : (cS s).all okb with
  | false => rw [h1, e]; simp
  | true => rw [h1, e, h2 e]
def nmS (s : ByteArray) : ByteArray := bif nmG s then ⟨(cS s).toArray⟩ else ⟨#[]⟩
def nmE (s : ByteArray) : Bool := nmG s
theorem nmG_in {s : ByteArray} (h : nmG s = true) : 2 ≤ (cS s).length ∧ (cS s).length ≤ 10 ∧ (cS s).all okb = true := by
  unfold nmG at h
  simp only [Bool.and_eq_true, decide_eq_true_eq] at h
  exact ⟨h.1.1, h.1.2, h.2⟩
theorem cb_ok {b : UInt8} (h : okb b = true) : cb b = [b] := by
  unfold okb at h
  simp only [Bool.or_eq_true, Bool.and_eq_true, decide_eq_true_eq] at h
  unfold cb
  rw [if_neg (by omega), if_neg (by omega)]
theorem cln_ok : ∀ {l : List UInt8}, l.all okb = true → cln l = l
  | [], _ => rfl
  | b :: t, h => by
    simp only [List.all_cons, Bool.and_eq_true] at h
    have := cln_ok h.2
    unfold cln at this ⊢
    rw [List.flatMap_cons, cb_ok h.1, this]; rfl
theorem nm_again {s : ByteArray} (h : nmG s = true) : nmG ⟨(cS s).toArray⟩ = true ∧ cS ⟨(cS s).toArray⟩ = cS s := by
  obtain ⟨h1, h2, h3⟩ := nmG_in h
  have e : cS ⟨(cS s).toArray⟩ = cS s := by
    show cln (cS s) = cS s
    exact cln_ok h3
  exact ⟨by unfold nmG; rw [e]; exact h, e⟩
end Go.Proofs.YtaoopadfijkbcaaGreatDoor.Pm
