/- Amounts as texts: plain mathematics. No condition. -/
import Derived.Test.YtjipcopfggnlkaaDoorSh
import Derived.Lib.IndexLaws
set_option linter.unusedSimpArgs false
set_option linter.unusedVariables false
namespace Go.Proofs.YtjipcopfggnlkaaDoor.Mt
open Go
def lat (l : List UInt8) (i : Nat) : Int := ((l.getD i 0).toNat : Int)
theorem bt_lat {s : ByteArray} {i : Nat} (h : i < s.size) : ((s[i]'h).toNat : Int) = lat s.data.toList i := by
  have hd : i < s.data.toList.length := by simpa using h
  unfold lat
  rw [List.getD_eq_getElem?_getD, List.getElem?_eq_getElem hd]
  simp
  rfl
theorem lat_in (l : List UInt8) (i : Nat) : 0 ≤ lat l i ∧ lat l i ≤ 255 := by
  unfold lat
  have := (l.getD i 0).toNat_lt
  omega
theorem strd_list (l : List UInt8) : (strd l).data.toList = l := rfl
theorem strd_of (s : ByteArray) : strd s.data.toList = s := rfl
def dig (c : UInt8) : Bool := decide (48 ≤ c.toNat) && decide (c.toNat ≤ 57)
def dgB (l : List UInt8) : Bool := l.all dig
theorem dg_bad {l : List UInt8} {i : Nat} (hi : i < l.length) (h : lat l i < 48 ∨ 57 < lat l i) : dgB l = false := by
  unfold dgB
  rw [List.all_eq_false]
  refine ⟨l[i], List.getElem_mem hi, ?_⟩
  unfold lat at h
  rw [List.getD_eq_getElem?_getD, List.getElem?_eq_getElem hi] at h
  simp only [Option.getD_some] at h
  unfold dig
  simp
  omega
theorem dg_all {l : List UInt8} (h : ∀ i, i < l.length → 48 ≤ lat l i ∧ lat l i ≤ 57) : dgB l = true := by
  unfold dgB
  rw [List.all_eq_true]
  intro c hc
  obtain ⟨i, hi, e⟩ := List.getElem_of_mem hc
  have := h i hi
  unfold lat at this
  rw [List.getD_eq_getElem?_getD, List.getElem?_eq_getElem hi] at this
  simp only [Option.getD_some] at this
  rw [e] at this
  unfold dig
  simp
  omega
def cU (t : List UInt8) : List UInt8 := t.takeWhile (fun c => c != 46)
def cC (t : List UInt8) : List UInt8 := t.drop ((cU t).length + 1)
def tx (l : List UInt8) : List UInt8 := Lib.trimPrefix l [45]
theorem idx_cut : ∀ t : List UInt8, (Lib.indexByte t 46 = -1 ∧ cU t = t) ∨ (Lib.indexByte t 46 = (((cU t).length : Nat) : Int) ∧ (cU t).length < t.length) := by
  intro t
  induction t with
  | nil => left; exact ⟨rfl, rfl⟩
  | cons b l ih =>
    by_cases hb : b = 46
    · right
      subst hb
      refine ⟨by simp [Lib.indexByte, cU], by simp [cU]⟩
    · have e1 : cU (b :: l) = b :: cU l := by unfold cU; rw [List.takeWhile_cons]; simp [hb]
      have hb2 : (b == (46 : UInt8)) = false := by simp [hb]
      rcases ih with ⟨h1, h2⟩ | ⟨h1, h2⟩
      · left
        refine ⟨?_, by rw [e1, h2]⟩
        rw [Lib.indexByte, hb2, h1]
        decide
      · right
        refine ⟨?_, by rw [e1]; simpa using h2⟩
        rw [Lib.indexByte, hb2, h1, e1]
        have : ((((cU l).length : Nat) : Int) == -1) = false := by first | (simp; done) | (simp; omega)
        rw [this]
        simp
theorem cU_take (t : List UInt8) : cU t = t.take (cU t).length := by
  have h := List.takeWhile_prefix (p := fun c : UInt8 => c != 46) (l := t)
  exact List.prefix_iff_eq_take.1 h
/-- what is no amount's format is refused, in the layer's order -/
def amB (l : List UInt8) : Bool :=
  if cU (tx l) = [] then false else if dgB (cU (tx l)) = false then false else if (cC (tx l)).length ≠ 2 then false else if dgB (cC (tx l)) = false then false else
    if cU (tx l) = [48] ∨ lat (cU (tx l)) 0 ≠ 48 then decide (l ≠ [45, 48, 46, 48, 48]) else false
def st (n : Nat) (c : UInt8) : Nat := if c = 45 ∨ c = 46 then n else 10 * n + (c.toNat - 48)
def nv (l : List UInt8) : Nat := l.foldl st 0
def paE (l : List UInt8) : Int := if amB l = false then 5 else if 1125899906842624 < nv l then 13 else 0
def paV (l : List UInt8) : Int := if paE l = 0 then (if lat l 0 = 45 then -((nv l : Nat) : Int) else ((nv l : Nat) : Int)) else 0
theorem pa_no {l : List UInt8} (h : amB l = false) : paE l = 5 ∧ paV l = 0 := by
  have e : paE l = 5 := if_pos h
  exact ⟨e, by unfold paV; rw [if_neg (by rw [e]; decide)]⟩
theorem pa_big {l : List UInt8} (h : amB l = true) (hb : 1125899906842624 < nv l) : paE l = 13 ∧ paV l = 0 := by
  have e : paE l = 13 := by unfold paE; rw [if_neg (by rw [h]; decide), if_pos hb]
  exact ⟨e, by unfold paV; rw [if_neg (by rw [e]; decide)]⟩
theorem pa_ok {l : List UInt8} (h : amB l = true) (hb : nv l ≤ 1125899906842624) : paE l = 0 ∧ paV l = if lat l 0 = 45 then -((nv l : Nat) : Int) else ((nv l : Nat) : Int) := by
  have e : paE l = 0 := by unfold paE; rw [if_neg (by rw [h]; decide), if_neg (by omega)]
  exact ⟨e, if_pos e⟩
theorem st_ge (n : Nat) (c : UInt8) : n ≤ st n c := by unfold st; split <;> omega
theorem fold_ge : ∀ (l : List UInt8) (n : Nat), n ≤ l.foldl st n := by
  intro l
  induction l with
  | nil => intro n; exact Nat.le_refl _
  | cons c l ih => intro n; exact Nat.le_trans (st_ge n c) (ih _)
theorem nv_take_le (l : List UInt8) (i : Nat) : nv (l.take i) ≤ nv l := by
  have h : nv l = (l.drop i).foldl st (nv (l.take i)) := by
    unfold nv
    rw [← List.foldl_append, List.take_append_drop]
  rw [h]
  exact fold_ge _ _
theorem nv_succ {l : List UInt8} {i : Nat} (h : i < l.length) : nv (l.take (i + 1)) = st (nv (l.take i)) (l.getD i 0) := by
  unfold nv
  rw [List.take_succ_eq_append_getElem h, List.foldl_append]
  simp [List.getD_eq_getElem?_getD, List.getElem?_eq_getElem h]
theorem tx_cases (l : List UInt8) : (∃ t, l = 45 :: t ∧ tx l = t) ∨ (lat l 0 ≠ 45 ∧ tx l = l) ∨ (l = [] ∧ tx l = []) := by
  match l with
  | [] => right; right; exact ⟨rfl, rfl⟩
  | c :: t =>
    by_cases h : c = 45
    · left; subst h; exact ⟨t, rfl, by simp [tx, Lib.trimPrefix, Lib.hasPrefix]⟩
    · right; left
      refine ⟨?_, ?_⟩
      · intro h2
        apply h
        unfold lat at h2
        simp only [List.getD_cons_zero] at h2
        have : c.toNat = 45 := by omega
        exact UInt8.toNat_inj.1 this
      · have : (45 == c) = false := by simp; first | done | exact fun h2 => h h2.symm
        simp [tx, Lib.trimPrefix, Lib.hasPrefix, List.isPrefixOf, this]
/-- the parts of what is an amount's format -/
structure Am (l U C : List UInt8) : Prop where
  text : tx l = U ++ 46 :: C
  ne : U ≠ []
  du : dgB U = true
  dc : dgB C = true
  two : C.length = 2
  lead : U = [48] ∨ lat U 0 ≠ 48
  zero : l ≠ [45, 48, 46, 48, 48]
theorem am_parts {l : List UInt8} (h : amB l = true) : Am l (cU (tx l)) (cC (tx l)) := by
  unfold amB at h
  split at h
  · cases h
  · next h1 =>
    split at h
    · cases h
    · next h2 =>
      split at h
      · cases h
      · next h3 =>
        split at h
        · cases h
        · next h4 =>
          split at h
          · next h5 =>
            have h6 := of_decide_eq_true h
            have hl2 : (cC (tx l)).length = 2 := by omega
            have hlt : (cU (tx l)).length < (tx l).length := by
              unfold cC at hl2
              rw [List.length_drop] at hl2
              omega
            refine ⟨?_, h1, by simpa using h2, by simpa using h4, hl2, h5, h6⟩
            rcases idx_cut (tx l) with ⟨g1, g2⟩ | ⟨g1, g2⟩
            · rw [g2] at hlt; omega
            · have g3 := (Lib.indexByte_some g1).1
              have e1 : tx l = (tx l).take (cU (tx l)).length ++ (tx l).drop (cU (tx l)).length := (List.take_append_drop _ _).symm
              rw [← cU_take] at e1
              rw [List.drop_eq_getElem_cons g2] at e1
              have e2 : (tx l)[(cU (tx l)).length] = 46 := by
                rw [List.getElem?_eq_getElem g2] at g3
                exact Option.some.inj g3
              rw [e2] at e1
              exact e1
          · cases h
theorem am_bytes {l : List UInt8} (h : amB l = true) : 0 < l.length ∧ ∀ c ∈ l, c = 45 ∨ c = 46 ∨ (48 ≤ c.toNat ∧ c.toNat ≤ 57) := by
  have ha := am_parts h
  have hd : ∀ L : List UInt8, dgB L = true → ∀ c ∈ L, 48 ≤ c.toNat ∧ c.toNat ≤ 57 := by
    intro L hL c hc
    unfold dgB at hL
    have := List.all_eq_true.1 hL c hc
    unfold dig at this
    simpa using this
  have ht : ∀ c ∈ tx l, c = 45 ∨ c = 46 ∨ (48 ≤ c.toNat ∧ c.toNat ≤ 57) := by
    intro c hc
    rw [ha.text, List.mem_append, List.mem_cons] at hc
    rcases hc with hc | hc | hc
    · exact .inr (.inr (hd _ ha.du c hc))
    · exact .inr (.inl hc)
    · exact .inr (.inr (hd _ ha.dc c hc))
  have hne : 0 < (tx l).length := by rw [ha.text, List.length_append, List.length_cons]; omega
  rcases tx_cases l with ⟨t, e1, e2⟩ | ⟨_, e2⟩ | ⟨e1, e2⟩
  · rw [e1]
    refine ⟨by simp, fun c hc => ?_⟩
    rw [List.mem_cons] at hc
    rcases hc with hc | hc
    · exact .inl hc
    · exact ht c (by rw [e2]; exact hc)
  · rw [e2] at hne ht
    exact ⟨hne, ht⟩
  · rw [e2] at hne
    simp at hne
end Go.Proofs.YtjipcopfggnlkaaDoor.Mt
