/- The reference of the hours: cuts and pieces. No condition. -/
import Derived.Test.YtniefocnfcaebaaB6
import Derived.Test.YtniefocnfcaebaaNf
set_option linter.unusedSimpArgs false
set_option linter.unusedVariables false
namespace Go.Proofs.Ytniefocnfcaebaa.Wk
open Go Go.RowKit Go.Proofs.Ytniefocnfcaebaa.Av
def inR (w : Wd) (t : Int) : Bool := ((vW w && bitd w.days (t / 86400 % 7).toNat) && decide (w.fr ≤ t % 86400 / 60)) && decide (t % 86400 / 60 < w.to)
theorem inR_p {w : Wd} {t : Int} : inR w t = true ↔ vW w = true ∧ bitd w.days (t / 86400 % 7).toNat = true ∧ w.fr ≤ t % 86400 / 60 ∧ t % 86400 / 60 < w.to := by
  unfold inR
  simp only [Bool.and_eq_true, decide_eq_true_eq]
  exact ⟨fun h => ⟨h.1.1.1, h.1.1.2, h.1.2, h.2⟩, fun h => ⟨⟨⟨h.1, h.2.1⟩, h.2.2.1⟩, h.2.2.2⟩⟩
def inH (hs : List Wd) (t : Int) : Bool := if hs.length = 0 then true else hs.any fun w => inR w t
theorem bit127 : ∀ b : Fin 7, bitd 127 b.val = true := by decide
theorem opn_H {z : Zn} {t : Int} (h0 : 0 ≤ t) (h1 : t < 68719476736) : opn z t = inH z.hours t := by
  have key : opn z t = true ↔ inH z.hours t = true := by
    rw [opn_ex]
    unfold inH
    by_cases hz : z.hours.length = 0
    · rw [if_pos hz]
      have e : vws (hrs z) = [⟨127, 0, 1440⟩] := by unfold hrs; rw [if_pos hz]; rfl
      rw [e]
      refine ⟨fun _ => rfl, fun _ => ⟨0, by decide, inW_p.2 ⟨by decide, h0, h1, ?_, ?_, ?_⟩⟩⟩
      · exact bit127 ⟨(t / 86400 % 7).toNat, by omega⟩
      · show (0 : Int) ≤ _; omega
      · show _ < (1440 : Int); omega
    · rw [if_neg hz, List.any_eq_true]
      have e : hrs z = z.hours := by unfold hrs; rw [if_neg hz]
      rw [e]
      constructor
      · rintro ⟨i, hi, hw⟩
        have hm := List.mem_filter.1 (ix_mem hi)
        obtain ⟨a, _, _, b, c, d⟩ := inW_p.1 hw
        exact ⟨_, hm.1, inR_p.2 ⟨a, b, c, d⟩⟩
      · rintro ⟨w, hw, hr⟩
        obtain ⟨a, b, c, d⟩ := inR_p.1 hr
        obtain ⟨i, hi, he⟩ := mem_ix (List.mem_filter.2 ⟨hw, a⟩ : w ∈ vws z.hours)
        have he2 : ix (vws z.hours) i = w := he
        exact ⟨i, hi, by rw [he2]; exact inW_p.2 ⟨a, h0, h1, b, c, d⟩⟩
  cases ho : opn z t <;> cases hi : inH z.hours t <;> simp_all
def isC (hs : List Wd) (m : Int) : Bool := (m == 0) || hs.any fun w => (w.fr == m) || (w.to == m)
def cuK (hs : List Wd) (m : Int) (k : Nat) : Bool := (m == 0) || (hs.take k).any fun w => (w.fr == m) || (w.to == m)
theorem cuK_0 (hs : List Wd) (m : Int) : cuK hs m 0 = (m == 0) := by simp [cuK]
theorem cuK_s {hs : List Wd} {m : Int} {k : Nat} (h : k < hs.length) : cuK hs m (k + 1) = (cuK hs m k || (((ix hs k).fr == m) || ((ix hs k).to == m))) := by
  unfold cuK
  rw [take_ix h, List.any_append, List.any_cons, List.any_nil, Bool.or_false, Bool.or_assoc]
theorem cuK_all (hs : List Wd) (m : Int) : cuK hs m hs.length = isC hs m := by unfold cuK isC; rw [List.take_length]
def cutL (hs : List Wd) : Nat → List Int
  | 0 => []
  | m + 1 => if isC hs (m : Int) = true then cutL hs m ++ [(m : Int)] else cutL hs m
theorem cut_y {hs : List Wd} {m : Nat} (h : isC hs (m : Int) = true) : cutL hs m ++ [(m : Int)] = cutL hs (m + 1) := (if_pos h).symm
theorem cut_n {hs : List Wd} {m : Nat} (h : isC hs (m : Int) = false) : cutL hs m = cutL hs (m + 1) := (if_neg (by rw [h]; decide)).symm
theorem cutL_len (hs : List Wd) : ∀ m, (cutL hs m).length ≤ m
  | 0 => Nat.le_refl _
  | m + 1 => by
    have := cutL_len hs m
    show (if _ then _ else _ : List Int).length ≤ _
    split
    · rw [List.length_append, List.length_singleton]; omega
    · omega
theorem cutL_mem {hs : List Wd} {x : Int} : ∀ m : Nat, x ∈ cutL hs m ↔ 0 ≤ x ∧ x < (m : Int) ∧ isC hs x = true
  | 0 => ⟨fun h => (List.not_mem_nil h).elim, fun h => by have h1 := h.1; have h2 := h.2.1; exfalso; simp at h2; omega⟩
  | m + 1 => by
    cases hc : isC hs (m : Int) with
    | true =>
      rw [← cut_y hc, List.mem_append, List.mem_singleton, cutL_mem m]
      constructor
      · rintro (⟨a, b, c⟩ | rfl)
        · exact ⟨a, by omega, c⟩
        · exact ⟨by omega, by omega, hc⟩
      · rintro ⟨a, b, c⟩
        by_cases hx : x = (m : Int)
        · exact .inr hx
        · exact .inl ⟨a, by omega, c⟩
    | false =>
      rw [← cut_n hc, cutL_mem m]
      constructor
      · rintro ⟨a, b, c⟩; exact ⟨a, by omega, c⟩
      · rintro ⟨a, b, c⟩
        refine ⟨a, ?_, c⟩
        by_cases hx : x = (m : Int)
        · subst hx; rw [hc] at c; cases c
        · omega
theorem cutL_pw (hs : List Wd) : ∀ m, (cutL hs m).Pairwise (fun a b => a < b)
  | 0 => List.Pairwise.nil
  | m + 1 => by
    cases hc : isC hs (m : Int) with
    | true =>
      rw [← cut_y hc]
      refine List.pairwise_append.2 ⟨cutL_pw hs m, List.pairwise_singleton _ _, fun a ha b hb => ?_⟩
      rw [List.mem_singleton] at hb; subst hb; exact ((cutL_mem m).1 ha).2.1
    | false => rw [← cut_n hc]; exact cutL_pw hs m
def cs (hs : List Wd) : List Int := cutL hs 1440 ++ [1440]
theorem cs_len (hs : List Wd) : (cs hs).length ≤ 1441 := by have := cutL_len hs 1440; unfold cs; rw [List.length_append, List.length_singleton]; omega
theorem cs_mem {hs : List Wd} {x : Int} : x ∈ cs hs ↔ (0 ≤ x ∧ x < 1440 ∧ isC hs x = true) ∨ x = 1440 := by
  unfold cs
  rw [List.mem_append, List.mem_singleton, cutL_mem]; exact Iff.rfl
theorem cs_pw (hs : List Wd) : (cs hs).Pairwise (fun a b => a < b) := by
  refine List.pairwise_append.2 ⟨cutL_pw hs 1440, List.pairwise_singleton _ _, fun a ha b hb => ?_⟩
  rw [List.mem_singleton] at hb; subst hb; exact ((cutL_mem 1440).1 ha).2.1
theorem cs_lt {hs : List Wd} {p q : Nat} (h : p < q) (hq : q < (cs hs).length) : ix (cs hs) p < ix (cs hs) q := by
  have := List.pairwise_iff_getElem.1 (cs_pw hs) p q (by omega) hq h
  rw [ix_eq (by omega), ix_eq hq] at this; exact this
theorem cs_in {hs : List Wd} {q : Nat} (hq : q < (cs hs).length) : 0 ≤ ix (cs hs) q ∧ ix (cs hs) q ≤ 1440 := by
  rcases cs_mem.1 (ix_mem hq) with h | h <;> omega
theorem cs_0 (hs : List Wd) : ix (cs hs) 0 = 0 := by
  obtain ⟨j, hj, he⟩ := mem_ix (cs_mem.2 (.inl ⟨Int.le_refl _, by decide, by unfold isC; simp⟩) : (0 : Int) ∈ cs hs)
  rcases Nat.eq_zero_or_pos j with h | h
  · subst h; exact he
  · have h1 := cs_lt h hj
    have h2 := cs_in (hs := hs) (q := 0) (by omega)
    omega
theorem cs_last {hs : List Wd} {q : Nat} (h : q + 1 = (cs hs).length) : ix (cs hs) q = 1440 := by
  obtain ⟨j, hj, he⟩ := mem_ix (cs_mem.2 (.inr rfl) : (1440 : Int) ∈ cs hs)
  by_cases hjq : j = q
  · subst hjq; exact he
  · have h1 := cs_lt (hs := hs) (p := j) (q := q) (by omega) (by omega)
    have h2 := cs_in (hs := hs) (q := q) (by omega)
    omega
theorem cs_gap {hs : List Wd} {q : Nat} (hq : q + 1 < (cs hs).length) {x : Int} (h1 : ix (cs hs) q < x) (h2 : x < ix (cs hs) (q + 1)) : isC hs x = false := by
  cases hc : isC hs x with
  | false => rfl
  | true =>
    exfalso
    have a1 := cs_in (hs := hs) (q := q) (by omega)
    have a2 := cs_in hq
    obtain ⟨j, hj, he⟩ := mem_ix (cs_mem.2 (.inl ⟨by omega, by omega, hc⟩) : x ∈ cs hs)
    rcases Nat.lt_or_ge q j with h | h
    · rcases Nat.lt_or_ge (q + 1) j with h3 | h3
      · have := cs_lt h3 hj; omega
      · have : j = q + 1 := by omega
        subst this; omega
    · rcases Nat.lt_or_ge j q with h3 | h3
      · have := cs_lt (hs := hs) h3 (by omega); omega
      · have : j = q := by omega
        subst this; omega
theorem isC_f {hs : List Wd} {x : Int} (h : isC hs x = false) {w : Wd} (hw : w ∈ hs) : w.fr ≠ x ∧ w.to ≠ x := by
  unfold isC at h
  rw [Bool.or_eq_false_iff, List.any_eq_false] at h
  have := h.2 w hw
  simpa [Bool.or_eq_true] using this
theorem inH_const {hs : List Wd} {d a b : Int} (ha : 0 ≤ a) (hb : b ≤ 1440) (hg : ∀ x, a < x → x < b → isC hs x = false) (hd : 0 ≤ d) {t : Int} (h1 : 86400 * d + 60 * a ≤ t) (h2 : t < 86400 * d + 60 * b) : inH hs t = inH hs (86400 * d + 60 * a) := by
  unfold inH
  split
  · rfl
  · have e : ∀ w ∈ hs, inR w t = inR w (86400 * d + 60 * a) := fun w hw => by
      have e1 : t / 86400 = d := by omega
      have e2 : (86400 * d + 60 * a) / 86400 = d := by omega
      have e3 : (86400 * d + 60 * a) % 86400 / 60 = a := by omega
      have e4 : a ≤ t % 86400 / 60 ∧ t % 86400 / 60 < b := by omega
      have f1 : w.fr ≤ t % 86400 / 60 ↔ w.fr ≤ a := by
        constructor
        · intro h
          rcases Int.lt_or_le a w.fr with h5 | h5
          · exact absurd rfl (isC_f (hg w.fr h5 (by omega)) hw).1
          · exact h5
        · intro h; omega
      have f2 : t % 86400 / 60 < w.to ↔ a < w.to := by
        constructor
        · intro h; omega
        · intro h
          rcases Int.lt_or_le (t % 86400 / 60) w.to with h5 | h5
          · exact h5
          · exact absurd rfl (isC_f (hg w.to h (by omega)) hw).2
      unfold inR
      rw [e1, e2, e3, decide_eq_decide.2 f1, decide_eq_decide.2 f2]
    cases hx : hs.any fun w => inR w t with
    | true =>
      obtain ⟨w, hw, hr⟩ := List.any_eq_true.1 hx
      exact (List.any_eq_true.2 ⟨w, hw, by rw [← e w hw]; exact hr⟩).symm
    | false =>
      symm
      rw [List.any_eq_false] at hx ⊢
      intro w hw
      rw [← e w hw]; exact hx w hw
structure Inv (hs : List Wd) (i : Ivl) (M : List Ivl) (T : Int) (c : Nat) : Prop where
  nf : NF M
  m : ∀ t, Mem M t ↔ ((i.fr ≤ t ∧ t < i.to) ∧ t < T) ∧ inH hs t = true
  e : ∀ s ∈ M, s.to ≤ T
  l : M.length ≤ c
theorem Inv.start {hs : List Wd} {i : Ivl} {T : Int} (h : T ≤ i.fr) : Inv hs i [] T 0 := ⟨NF.nil, fun t => ⟨fun h => absurd h Mem.nil, fun h2 => by have := h2.1; omega⟩, fun s hs => (by cases hs), Nat.le_refl _⟩
theorem Inv.no {hs : List Wd} {i : Ivl} {M : List Ivl} {T T' : Int} {c c' : Nat} (h : Inv hs i M T c) (hT : T ≤ T') (hcc : c ≤ c') (hc : ∀ t, T ≤ t → t < T' → inH hs t = inH hs T) (hn : inH hs T = false ∨ T' ≤ i.fr ∨ i.to ≤ T) : Inv hs i M T' c' := by
  refine ⟨h.nf, fun t => ?_, fun s hs => by have := h.e s hs; omega, by have := h.l; omega⟩
  rw [h.m]
  constructor
  · rintro ⟨⟨a, b⟩, d⟩; exact ⟨⟨a, by omega⟩, d⟩
  · rintro ⟨⟨a, b⟩, d⟩
    refine ⟨⟨a, ?_⟩, d⟩
    rcases Int.lt_or_le t T with h1 | h1
    · exact h1
    · exfalso
      rcases hn with h2 | h2 | h2
      · rw [hc t h1 b, h2] at d; cases d
      · omega
      · omega
theorem Inv.yes {hs : List Wd} {i : Ivl} {M : List Ivl} {T T' : Int} {c c' : Nat} (h : Inv hs i M T c) (hT : T < T') (hcc : c + 1 ≤ c') (hc : ∀ t, T ≤ t → t < T' → inH hs t = inH hs T) (hy : inH hs T = true) (h1 : i.fr < T') (h2 : T < i.to) (h3 : i.fr < i.to) {x : Ivl} (hx1 : x.fr = max T i.fr) (hx2 : x.to = min T' i.to) : Inv hs i (extJ M x) T' c' := by
  obtain ⟨g1, g2, g3⟩ := extJ_ok h.nf (x := x) (by omega) (fun s hs => by have := h.e s hs; omega)
  refine ⟨g1, fun t => ?_, fun s hs => by have := g3 s hs; omega, by have := h.l; have := (extJ_len M x).1; omega⟩
  rw [g2, h.m]
  constructor
  · rintro (⟨⟨a, b⟩, d⟩ | ⟨a, b⟩)
    · exact ⟨⟨a, by omega⟩, d⟩
    · exact ⟨⟨by omega, by omega⟩, by rw [hc t (by omega) (by omega)]; exact hy⟩
  · rintro ⟨⟨a, b⟩, d⟩
    rcases Int.lt_or_le t T with h5 | h5
    · exact .inl ⟨⟨a, h5⟩, d⟩
    · exact .inr ⟨by omega, by omega⟩
theorem Inv.done {hs : List Wd} {i : Ivl} {M R : List Ivl} {T : Int} {c : Nat} (h : Inv hs i M T c) (hT : i.to ≤ T) (hR : NF R) (hm : ∀ t, Mem R t ↔ (i.fr ≤ t ∧ t < i.to) ∧ inH hs t = true) : M = R := nf_uniq h.nf hR (fun t => by
  rw [h.m, hm]
  exact ⟨fun q => ⟨q.1.1, q.2⟩, fun q => ⟨⟨q.1, by omega⟩, q.2⟩⟩)

end Go.Proofs.Ytniefocnfcaebaa.Wk
