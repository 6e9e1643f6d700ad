/- Posting an entry, both sides. Condition: few entries, amounts that fit. -/
import Derived.Test.YtmmadlhkniikdaaAvR
import Derived.Test.YtmmadlhkniikdaaB3
set_option linter.unusedSimpArgs false
set_option linter.unusedVariables false
namespace Go.Proofs.Ytmmadlhkniikdaa.Wk
open Go Go.RowKit Go.Proofs.Ytmmadlhkniikdaa.Av
theorem mfind_mapS {α : Type} (key : α → ByteArray) (val : α → DV) (p : ByteArray) : ∀ l : List α, mfind .string (.string p) (l.map fun x => (Value.string (key x), val x)) = some ((l.find? fun x => sEq (key x) p).map val)
  | [] => rfl
  | x :: l => by
    have ih := mfind_mapS key val p l
    have hb : Instr.sameNow .string (.string p) (.string (key x)) = some (sEq (key x) p) := by
      show some (p == key x) = _
      congr 1
      by_cases h : p = key x
      · rw [← h, show sEq p p = true by simp [sEq]]
        exact (MapKept.bytes_beq p p).2 rfl
      · rw [show sEq (key x) p = false from by simp [sEq, Ne.symm h]]
        cases hq : p == key x with
        | false => rfl
        | true => exact absurd ((MapKept.bytes_beq p (key x)).1 hq) h
    simp only [List.map_cons, mfind, hb]
    cases h : sEq (key x) p with
    | true => simp [h]
    | false => simp [h]; exact ih
theorem same_s (p q : ByteArray) : Instr.sameNow .string (.string p) (.string q) = some (sEq q p) := by
  show some (p == q) = _
  congr 1
  by_cases h : p = q
  · rw [← h, show sEq p p = true by simp [sEq]]
    exact (MapKept.bytes_beq p p).2 rfl
  · rw [show sEq q p = false from by simp [sEq, Ne.symm h]]
    cases hq : p == q with
    | false => rfl
    | true => exact absurd ((MapKept.bytes_beq p q).1 hq) h
abbrev MI := List (ByteArray × Int)
def gI (o : MI) (p : ByteArray) : Option Int := (o.find? fun x => sEq x.1 p).map Prod.snd
def fI (x : ByteArray × Int) : Value × DV := (.string x.1, .fl (.int .i64 x.2))
def setI (o : MI) : List (Value × DV) := o.map fI
theorem mfindI (o : MI) (p : ByteArray) : mfind .string (.string p) (setI o) = some ((gI o p).map fun v => DV.fl (.int .i64 v)) := by
  show mfind .string (.string p) (o.map fun x => (Value.string x.1, DV.fl (.int .i64 x.2))) = _
  unfold gI
  rw [mfind_mapS (fun x : ByteArray × Int => x.1) (fun x => .fl (.int .i64 x.2)) p o, Option.map_map]; rfl
def putI (p : ByteArray) (v : Int) : MI → MI
  | [] => [(p, v)]
  | x :: o => bif sEq x.1 p then (p, v) :: o else x :: putI p v o
theorem mput_setI (p : ByteArray) (v : Int) : ∀ o : MI, mput .string (.string p) (.fl (.int .i64 v)) (setI o) = setI (putI p v o)
  | [] => rfl
  | x :: o => by
    have ih := mput_setI p v o
    have hb := same_s p x.1
    show (match Instr.sameNow .string (.string p) (.string x.1) with
      | some true => _
      | _ => _) = _
    rw [hb]
    cases h : sEq x.1 p with
    | true => simp only [putI, h, cond_true]; rfl
    | false => simp only [putI, h, cond_false]; exact congrArg _ ih
theorem gI_app (o : MI) (p q : ByteArray) (v : Int) : gI (o ++ [(q, v)]) p = match gI o p with
    | some t => some t
    | none => bif sEq q p then some v else none := by
  unfold gI
  rw [List.find?_append]
  cases h : o.find? (fun x => sEq x.1 p) with
  | some y => simp
  | none => cases hb : sEq q p <;> simp [hb]
theorem gI_put (p q : ByteArray) (v : Int) : ∀ o : MI, gI (putI q v o) p = bif sEq q p then some v else gI o p
  | [] => by cases hb : sEq q p <;> simp [gI, putI, hb]
  | x :: o => by
    have ih := gI_put p q v o
    cases h : sEq x.1 q with
    | true =>
      have e : x.1 = q := sEq_eq h
      simp only [putI, h, cond_true]
      cases hb : sEq q p with
      | true => simp [gI, hb]
      | false => simp [gI, hb, e]
    | false =>
      simp only [putI, h, cond_false]
      cases hx : sEq x.1 p with
      | true =>
        have hn : sEq q p = false := by
          have e : x.1 = p := sEq_eq hx
          cases hq : sEq q p with
          | false => rfl
          | true => rw [e, ← sEq_eq hq] at h; simp [sEq] at h
        simp [gI, hx, hn]
      | false =>
        have e1 : gI (x :: putI q v o) p = gI (putI q v o) p := by simp [gI, hx]
        have e2 : gI (x :: o) p = gI o p := by simp [gI, hx]
        rw [e1, e2, ih]
/-- no key stands twice -/
def kn (o : MI) : Prop := o.Pairwise fun x y => sEq x.1 y.1 = false
theorem gI_in {o : MI} {a : ByteArray} {v : Int} (h : gI o a = some v) : (a, v) ∈ o := by
  unfold gI at h
  cases hf : o.find? (fun x => sEq x.1 a) with
  | none => rw [hf] at h; cases h
  | some x =>
    rw [hf] at h
    injection h with h
    have hk := List.find?_some hf
    have hm := List.mem_of_find?_eq_some hf
    have : x = (a, v) := by rw [← sEq_eq hk, ← h]
    rw [← this]; exact hm
theorem gI_mem : ∀ {o : MI}, kn o → ∀ {x : ByteArray × Int}, x ∈ o → gI o x.1 = some x.2
  | [], _, x, hx => by cases hx
  | y :: o, h, x, hx => by
    unfold kn at h
    rw [List.pairwise_cons] at h
    rcases List.mem_cons.1 hx with rfl | hx
    · simp [gI, sEq]
    · have hn := h.1 x hx
      have e : gI (y :: o) x.1 = gI o x.1 := by simp [gI, hn]
      rw [e]; exact gI_mem h.2 hx
theorem kn_app {o : MI} {p : ByteArray} {v : Int} (h : kn o) (hn : gI o p = none) : kn (o ++ [(p, v)]) := by
  unfold kn
  rw [List.pairwise_append]
  refine ⟨h, List.pairwise_singleton _ _, fun x hx y hy => ?_⟩
  rw [List.mem_singleton] at hy
  subst hy
  cases hq : sEq x.1 p with
  | false => rfl
  | true => have := gI_mem h hx; rw [sEq_eq hq, hn] at this; cases this
theorem putI_key {p : ByteArray} {v : Int} : ∀ {o : MI} {x : ByteArray × Int}, x ∈ putI p v o → x.1 = p ∨ ∃ y ∈ o, y.1 = x.1
  | [], x, hx => by simp only [putI, List.mem_singleton] at hx; rw [hx]; exact .inl rfl
  | y :: o, x, hx => by
    cases h : sEq y.1 p with
    | true =>
      simp only [putI, h, cond_true] at hx
      rcases List.mem_cons.1 hx with rfl | hx
      · exact .inl rfl
      · exact .inr ⟨x, List.mem_cons_of_mem _ hx, rfl⟩
    | false =>
      simp only [putI, h, cond_false] at hx
      rcases List.mem_cons.1 hx with rfl | hx
      · exact .inr ⟨x, List.mem_cons_self .., rfl⟩
      · rcases putI_key hx with e | ⟨z, hz, e⟩
        · exact .inl e
        · exact .inr ⟨z, List.mem_cons_of_mem _ hz, e⟩
theorem kn_put {p : ByteArray} {v : Int} : ∀ {o : MI}, kn o → kn (putI p v o)
  | [], _ => by simp [putI, kn]
  | y :: o, h => by
    have h' : kn o ∧ ∀ z ∈ o, sEq y.1 z.1 = false := by unfold kn at h; rw [List.pairwise_cons] at h; exact ⟨h.2, h.1⟩
    cases hb : sEq y.1 p with
    | true =>
      simp only [putI, hb, cond_true]
      unfold kn
      rw [List.pairwise_cons]
      exact ⟨fun z hz => by show sEq p z.1 = false; rw [← sEq_eq hb]; exact h'.2 z hz, h'.1⟩
    | false =>
      simp only [putI, hb, cond_false]
      unfold kn
      rw [List.pairwise_cons]
      refine ⟨fun z hz => ?_, kn_put h'.1⟩
      rcases putI_key hz with e | ⟨w, hw, e⟩
      · rw [e]; exact hb
      · rw [← e]; exact h'.2 w hw
/-- one of the first k posts goes to the account -/
def hasA (ps : List Po) (b : ByteArray) : Nat → Bool
  | 0 => false
  | k + 1 => hasA ps b k || sEq (ix ps k).acc b
theorem pb_0 {ps : List Po} {b : ByteArray} : ∀ {k}, hasA ps b k = false → pb ps b k = 0
  | 0, _ => rfl
  | k + 1, h => by
    simp only [hasA, Bool.or_eq_false_iff] at h
    rw [pb_n h.2]; exact pb_0 h.1
theorem hasA_at {ps : List Po} {b : ByteArray} : ∀ {k q}, q < k → sEq (ix ps q).acc b = true → hasA ps b k = true
  | 0, q, h, _ => by omega
  | k + 1, q, h, hb => by
    simp only [hasA]
    rcases Nat.lt_succ_iff_lt_or_eq.1 h with e | e
    · rw [hasA_at e hb, Bool.true_or]
    · rw [← e, hb, Bool.or_true]
theorem hasA_ex {ps : List Po} {b : ByteArray} : ∀ {k}, hasA ps b k = true → ∃ q, q < k ∧ (ix ps q).acc = b
  | 0, h => by cases h
  | k + 1, h => by
    simp only [hasA, Bool.or_eq_true] at h
    rcases h with h | h
    · obtain ⟨q, h1, h2⟩ := hasA_ex h; exact ⟨q, by omega, h2⟩
    · exact ⟨k, by omega, sEq_eq h⟩
/-- the balances of the accounts of an entry -/
def pmA (ps : List Po) : Nat → MI
  | 0 => []
  | k + 1 => match gI (pmA ps k) (ix ps k).acc with
    | none => pmA ps k ++ [((ix ps k).acc, 0 + (ix ps k).cents)]
    | some v => putI (ix ps k).acc (v + (ix ps k).cents) (pmA ps k)
def pmE (o : MI) (ps : List Po) : Nat → MI
  | 0 => o
  | k + 1 => match gI (pmE o ps k) (ix ps k).acc with
    | none => pmE o ps k
    | some v => putI (ix ps k).acc (v + (ix ps k).cents) (pmE o ps k)
def pmL (o : MI) (l : List En) : Nat → MI
  | 0 => o
  | i + 1 => pmE (pmL o l i) (ix l i).posts (ix l i).posts.length
theorem pmA_n {ps : List Po} {k : Nat} (h : gI (pmA ps k) (ix ps k).acc = none) : pmA ps (k + 1) = pmA ps k ++ [((ix ps k).acc, 0 + (ix ps k).cents)] := by simp only [pmA, h]
theorem pmA_s {ps : List Po} {k : Nat} {v : Int} (h : gI (pmA ps k) (ix ps k).acc = some v) : pmA ps (k + 1) = putI (ix ps k).acc (v + (ix ps k).cents) (pmA ps k) := by simp only [pmA, h]
theorem pmE_n {o : MI} {ps : List Po} {k : Nat} (h : gI (pmE o ps k) (ix ps k).acc = none) : pmE o ps (k + 1) = pmE o ps k := by simp only [pmE, h]
theorem pmE_s {o : MI} {ps : List Po} {k : Nat} {v : Int} (h : gI (pmE o ps k) (ix ps k).acc = some v) : pmE o ps (k + 1) = putI (ix ps k).acc (v + (ix ps k).cents) (pmE o ps k) := by simp only [pmE, h]
theorem gpmA (ps : List Po) (b : ByteArray) : ∀ k, gI (pmA ps k) b = bif hasA ps b k then some (pb ps b k) else none
  | 0 => rfl
  | k + 1 => by
    have ih := gpmA ps b k
    cases h : gI (pmA ps k) (ix ps k).acc with
    | none =>
      rw [pmA_n h, gI_app, ih]
      simp only [hasA]
      cases hh : hasA ps b k with
      | true =>
        simp only [cond_true, Bool.true_or]
        have : sEq (ix ps k).acc b = false := by
          cases hq : sEq (ix ps k).acc b with
          | false => rfl
          | true => rw [sEq_eq hq, ih, hh] at h; cases h
        rw [pb_n this]
      | false =>
        simp only [cond_false, Bool.false_or]
        cases hq : sEq (ix ps k).acc b with
        | true => rw [pb_y hq, pb_0 hh]
        | false => rfl
    | some v =>
      rw [pmA_s h, gI_put, ih]
      simp only [hasA]
      cases hq : sEq (ix ps k).acc b with
      | true =>
        rw [sEq_eq hq, ih] at h
        cases hh : hasA ps b k with
        | true => rw [hh] at h; injection h with h; simp only [cond_true, Bool.or_true]; rw [pb_y hq, ← h]
        | false => rw [hh] at h; cases h
      | false => simp only [cond_false, Bool.or_false]; rw [pb_n hq]
theorem gpmE (o : MI) (ps : List Po) (b : ByteArray) : ∀ k, gI (pmE o ps k) b = (gI o b).map fun v => v + pb ps b k
  | 0 => by simp [pmE, pb]
  | k + 1 => by
    have ih := gpmE o ps b k
    cases h : gI (pmE o ps k) (ix ps k).acc with
    | none =>
      rw [pmE_n h, ih]
      cases hq : sEq (ix ps k).acc b with
      | true =>
        rw [sEq_eq hq, ih] at h
        cases ho : gI o b with
        | none => rfl
        | some u => rw [ho] at h; cases h
      | false => rw [pb_n hq]
    | some v =>
      rw [pmE_s h, gI_put, ih]
      cases hq : sEq (ix ps k).acc b with
      | true =>
        rw [sEq_eq hq, ih] at h
        cases ho : gI o b with
        | none => rw [ho] at h; cases h
        | some u => rw [ho] at h; injection h with h; simp only [cond_true, Option.map_some]; rw [pb_y hq, ← h]; first | rfl | rw [Int.add_assoc]
      | false => simp only [cond_false]; rw [pb_n hq]
theorem gpmL (o : MI) (l : List En) (b : ByteArray) : ∀ i, gI (pmL o l i) b = (gI o b).map fun v => v + bl l b i
  | 0 => by simp [pmL, bl]
  | i + 1 => by
    simp only [pmL, bl]
    rw [gpmE, gpmL o l b i, Option.map_map]
    congr 1
    funext v
    show v + bl l b i + _ = _
    omega
theorem kpmA (ps : List Po) : ∀ k, kn (pmA ps k)
  | 0 => List.Pairwise.nil
  | k + 1 => by
    cases h : gI (pmA ps k) (ix ps k).acc with
    | none => rw [pmA_n h]; exact kn_app (kpmA ps k) h
    | some v => rw [pmA_s h]; exact kn_put (kpmA ps k)
theorem kpmE {o : MI} (ho : kn o) (ps : List Po) : ∀ k, kn (pmE o ps k)
  | 0 => ho
  | k + 1 => by
    cases h : gI (pmE o ps k) (ix ps k).acc with
    | none => rw [pmE_n h]; exact kpmE ho ps k
    | some v => rw [pmE_s h]; exact kn_put (kpmE ho ps k)
theorem kpmL {o : MI} (ho : kn o) (l : List En) : ∀ i, kn (pmL o l i)
  | 0 => ho
  | i + 1 => kpmE (kpmL ho l i) _ _
def pmB (l : List En) (e : En) : MI := pmL (pmA e.posts e.posts.length) l l.length
theorem gpmB (l : List En) (e : En) (b : ByteArray) : gI (pmB l e) b = bif hasA e.posts b e.posts.length then some (pb e.posts b e.posts.length + bal l b) else none := by
  unfold pmB
  rw [gpmL, gpmA]
  cases hasA e.posts b e.posts.length <;> rfl
theorem bl_pre {l m : List En} {b : ByteArray} : ∀ k, k ≤ l.length → bl (l ++ m) b k = bl l b k
  | 0, _ => rfl
  | k + 1, hk => by
    have e : ix (l ++ m) k = ix l k := by
      rw [← ix_eq (by omega : k < l.length), ← ix_eq (by rw [List.length_append]; omega : k < (l ++ m).length), List.getElem_append_left]
    simp only [bl]; rw [bl_pre k (by omega), e]
theorem bal_app (l : List En) (e : En) (b : ByteArray) : bal (l ++ [e]) b = bal l b + pb e.posts b e.posts.length := by
  unfold bal
  rw [List.length_append, List.length_singleton]
  show bl (l ++ [e]) b l.length + pb (ix (l ++ [e]) l.length).posts b _ = _
  have e1 : ix (l ++ [e]) l.length = e := by
    rw [← ix_eq (by simp : l.length < (l ++ [e]).length), List.getElem_append_right (by omega)]; simp
  rw [e1, bl_pre _ (Nat.le_refl _)]
def okp (l : List En) (e : En) (p : Po) : Bool := fit (bal (l ++ [e]) p.acc)
theorem fitB_y {l : List En} {e : En} (h : ∀ x ∈ pmB l e, fit x.2 = true) : e.posts.all (okp l e) = true := by
  rw [List.all_eq_true]
  intro p hp
  obtain ⟨q, hq, rfl⟩ := mem_ix hp
  have hg := gpmB l e (ix e.posts q).acc
  rw [hasA_at hq (by simp [sEq])] at hg
  have := h _ (gI_in hg)
  show fit (bal (l ++ [e]) _) = true
  rw [bal_app, Int.add_comm]; exact this
theorem fitB_n {l : List En} {e : En} {x : ByteArray × Int} (hx : x ∈ pmB l e) (h : fit x.2 = false) : e.posts.all (okp l e) = false := by
  have hg := gI_mem (kpmL (kpmA _ _) _ _) hx
  have hg2 := gpmB l e x.1
  unfold pmB at hg2
  rw [hg] at hg2
  cases hh : hasA e.posts x.1 e.posts.length with
  | false => rw [hh] at hg2; cases hg2
  | true =>
    rw [hh] at hg2
    injection hg2 with hg2
    obtain ⟨q, h1, h2⟩ := hasA_ex hh
    refine all_no (k := q) h1 ?_
    show fit (bal (l ++ [e]) _) = false
    rw [h2, bal_app, Int.add_comm, ← hg2]; exact h
noncomputable def pst (l : List En) (e : En) : List En × Int :=
  if lck e ≠ 0 then (l, lck e) else if l.any (kq e.key) = true then (l, 9) else if e.posts.all (okp l e) = true then (l ++ [e], 0) else (l, 13)
theorem pst_c {l : List En} {e : En} (h : lck e ≠ 0) : pst l e = (l, lck e) := by unfold pst; rw [if_pos h]
theorem pst_k {l : List En} {e : En} (h : lck e = 0) (h2 : l.any (kq e.key) = true) : pst l e = (l, 9) := by unfold pst; rw [if_neg (by omega), if_pos h2]
theorem pst_m {l : List En} {e : En} (h : lck e = 0) (h2 : l.any (kq e.key) = false) (h3 : e.posts.all (okp l e) = false) : pst l e = (l, 13) := by unfold pst; rw [if_neg (by omega), if_neg (by rw [h2]; simp), if_neg (by rw [h3]; simp)]
theorem pst_y {l : List En} {e : En} (h : lck e = 0) (h2 : l.any (kq e.key) = false) (h3 : e.posts.all (okp l e) = true) : pst l e = (l ++ [e], 0) := by unfold pst; rw [if_neg (by omega), if_neg (by rw [h2]; simp), if_pos h3]
theorem fe_zero {f : Nat → Int} : ∀ {n k}, fe f k n = 0 → ∀ q, k ≤ q → q < k + n → f q = 0
  | 0, k, _, q, h1, h2 => by omega
  | n + 1, k, h, q, h1, h2 => by
    simp only [fe] at h
    by_cases hk : f k = 0
    · rw [if_pos hk] at h
      rcases Nat.lt_or_ge k q with e | e
      · exact fe_zero h q (by omega) (by omega)
      · have : q = k := by omega
        rw [this]; exact hk
    · rw [if_neg hk] at h; exact absurd h hk
theorem lck_0 {e : En} (h : lck e = 0) : (∀ p ∈ e.posts, fit p.cents = true) ∧ sm e.posts e.posts.length = 0 ∧ e.posts.length ≠ 0 := by
  unfold lck at h
  split at h
  · cases h
  · split at h
    · cases h
    · split at h
      · cases h
      · split at h
        · cases h
        · split at h
          · rename_i h9; exact absurd h h9
          · split at h
            · cases h
            · rename_i h0 h1 h2
              refine ⟨fun p hp => ?_, by omega, by assumption⟩
              obtain ⟨q, hq, rfl⟩ := mem_ix hp
              have hz : po1 e.posts q = 0 := fe_zero (by have := h1; unfold poE at this; simpa using this) q (by omega) (by omega)
              unfold po1 at hz
              split at hz
              · cases hz
              · split at hz
                · cases hz
                · split at hz
                  · cases hz
                  · rename_i h3
                    cases hb : fit (ix e.posts q).cents with
                    | true => rfl
                    | false => exact absurd hb h3
theorem ok_of {e : En} (hl : e.posts.length ≤ 40) (hk : e.key.size ≤ 100) (ha : ∀ p ∈ e.posts, p.acc.size ≤ 100) (h : lck e = 0) : okE e := ⟨hl, hk, ha, fun p hp => fit_t ((lck_0 h).1 p hp)⟩
theorem pmA_bd {e : En} (he : okE e) {k : Nat} (hk : k ≤ e.posts.length) {b : ByteArray} {v : Int} (h : gI (pmA e.posts k) b = some v) : -45035996273704960 ≤ v ∧ v ≤ 45035996273704960 := by
  rw [gpmA] at h
  cases hh : hasA e.posts b k with
  | false => rw [hh] at h; cases h
  | true => rw [hh] at h; injection h with h; rw [← h]; exact he.pb b k hk
theorem pmE_bd {l : List En} {e x : En} (he : okE e) (hx : okE x) (hl : okL l) {i k : Nat} (hi : i ≤ l.length) (hk : k ≤ x.posts.length) {b : ByteArray} {v : Int} (h : gI (pmE (pmL (pmA e.posts e.posts.length) l i) x.posts k) b = some v) : -2251799813685248000 ≤ v ∧ v ≤ 2251799813685248000 := by
  rw [gpmE, gpmL] at h
  cases ho : gI (pmA e.posts e.posts.length) b with
  | none => rw [ho] at h; cases h
  | some u =>
    rw [ho] at h
    simp only [Option.map_some, Option.some.injEq] at h
    have h1 := pmA_bd he (Nat.le_refl _) ho
    have h2 := hl.bl b i hi
    have h3 := hx.pb b k hk
    omega
theorem er_sub {α : Type} {l : List α} {j : Nat} {x : α} (h : x ∈ l.eraseIdx j) : x ∈ l := (List.eraseIdx_sublist _ _).subset h
theorem er_len {α : Type} {l : List α} {j : Nat} (h : j < l.length) : (l.eraseIdx j).length < l.length := by rw [List.length_eraseIdx]; split <;> omega
theorem er_or {α : Type} [Inhabited α] {l : List α} {j : Nat} (hj : j < l.length) {x : α} (h : x ∈ l) : x ∈ l.eraseIdx j ∨ x = ix l j := by
  obtain ⟨k, hk, rfl⟩ := mem_ix h
  by_cases e : k = j
  · rw [e]; exact .inr rfl
  · left
    rw [List.mem_eraseIdx_iff_getElem]
    exact ⟨k, hk, e, ix_eq hk⟩

set_option maxHeartbeats 4000000 in
set_option maxRecDepth 100000 in
theorem postC (x : Led) (e : En) (hx : okL x.ents) (hx41 : x.ents.length ≤ 41) (hpl : e.posts.length ≤ 40) (hks : e.key.size ≤ 100) (has : ∀ p ∈ e.posts, p.acc.size ≤ 100) : Ctr Try.prog 15 [.ag (eLe x), .ag (eEn e)] (.tu [.ag (eLe ⟨(pst x.ents e).1⟩), .fl (.int .i64 (pst x.ents e).2)]) := by
  refine ctr (n := 109) (rs := #[.cell 4 35, .tmp 5]) (L := [(0, .d (.ag (eLe x))), (1, .d (.ag (eEn e)))]) Try.func15 rfl rfl rfl rfl rfl (fun w0 U0 => ?_)
  refine a_rseq ?_
  refine rg_nam (d := 2) (v := .pt 101 0) (m := 101) (nw := [(101, .bx 35 (eLe x))]) rfl (og rfl (of_eff (op_box 101 rfl rfl rfl rfl) rfl)) rfl ?_
  refine rg_nam (d := 3) (v := .pt 102 0) (m := 102) (nw := [(102, .bx 24 (eEn e))]) rfl (og rfl (of_eff (op_box 102 rfl rfl rfl rfl) rfl)) rfl ?_
  refine rg_nam (d := 4) (v := .pt 103 0) (m := 103) (nw := [(103, .bx 35 [.fl (.slice none 0 0)])]) rfl (og rfl (of_eff (s_alloc 103 rfl ti35 (by kernel_rfl) rfl) rfl)) rfl ?_
  refine rg_put (d := 5) (v := .d (.fl (.int .i64 0))) rfl (og rfl (op_assign rfl rfl rfl)) ?_
  refine rg_done rfl ?_
  refine a_seq ?_
  refine a_rseq ?_
  refine rg_put (d := 19) (v := .d (.ag (eEn e))) rfl (og rfl (of_eff (s_load_pts rfl Try.underlying24 rfl ti24 rfl rfl rfl rfl) rfl)) ?_
  refine rg_put (d := 20) (v := .d (.fl (.int .i64 (lck e)))) rfl (og rfl (op_call rfl Try.func11 nm11 rfl (.cons rfl (.d _) .nil) (lck11 e (by omega) (fun p hp => by have := has p hp; omega)) rfl)) ?_
  refine rg_put (d := 6) (v := .d (.fl (.int .i64 (lck e)))) rfl (og rfl (op_assign rfl rfl rfl)) ?_
  refine rg_done rfl ?_
  refine a_rseq ?_
  refine rg_put (d := 21) (v := .d (.fl (.int .i64 (lck e)))) rfl (og rfl (op_move rfl rfl rfl)) ?_
  refine rg_put (d := 22) (v := .d (.fl (.bool (((lck e) != 0))))) rfl (og rfl (op_bin rfl rfl rfl (b_neq _ _ _ _) rfl)) ?_
  refine rg_done rfl ?_
  refine a_cond rfl (fun h1 => ?_) (fun h1 => ?_)
  · skip
    have h2 := t_bne h1
    refine a_rseq ?_
    refine rg_put (d := 23) (v := .d (.ag (eLe x))) rfl (og rfl (of_eff (s_load_pts rfl Try.underlying35 rfl ti35 rfl rfl rfl rfl) rfl)) ?_
    refine rg_put (d := 24) (v := .d (.fl (.int .i64 (lck e)))) rfl (og rfl (op_move rfl rfl rfl)) ?_
    refine rg_sto (nw := [(103, .bx 35 (eLe x))]) rfl (og rfl (of_eff (s_store rfl rfl ti35 rfl rfl rfl rfl rfl rfl) rfl)) ?_
    refine rg_put (d := 5) (v := .d (.fl (.int .i64 (lck e)))) rfl (og rfl (op_assign rfl rfl rfl)) ?_
    refine rg_done rfl ?_
    refine a_ret ?_
    show ∃ ds, ResL _ _ _ ds ∧ RV.of ds = _
    refine ⟨[.ag [.sl 3 (List.map eEn x.ents)], .fl (.int .i64 (lck e))], (.cons (.cellT rfl rfl Try.underlying35 rfl ti35 rfl (Cv.ag (xs := [.sl 3 (List.map eEn x.ents)]) (ys := [.sl 3 (List.map eEn x.ents)]) ⟨Cv.refl _, trivial⟩)) (.cons (.tmp rfl (.d _)) .nil)), ?_⟩
    rw [pst_c (t_bne h1)]; rfl
  · skip
    have h3 := f_bne h1
    refine a_skip ?_
    show A _ _ _ _ _ _ _
    refine a_rseq ?_
    have hc0 := f_bne h1
    have hoe := ok_of hpl hks has hc0
    refine rg_nam (d := 25) (v := .ow 104) (m := 104) (nw := [(104, .mp [])]) rfl (og rfl (op_makeMap 104 rfl rfl)) rfl ?_
    refine rg_put (d := 7) (v := .ow 104) rfl (og rfl (op_assign rfl rfl rfl)) ?_
    refine rg_done rfl ?_
    refine a_seq ?_
    refine a_rseq ?_
    refine rg_put (d := 26) (v := .pt 102 2) rfl (og rfl (of_eff (s_field_pt rfl Try.underlying24 rfl ti22 rfl rfl rfl) rfl)) ?_
    refine rg_put (d := 27) (v := .d (.sl 2 (List.map ePo e.posts))) rfl (og rfl (op_load_pt rfl Try.underlying22 rfl rfl rfl rfl rfl)) ?_
    refine rg_put (d := 28) (v := .d (.fl (.int .i64 (e.posts.length : Int)))) rfl (og rfl (s_len rfl Try.underlying22 rfl rfl)) ?_
    refine rg_put (d := 29) (v := .d (.fl (.int .i64 0))) rfl (og rfl (op_move rfl rfl rfl)) ?_
    refine rg_done rfl ?_
    refine a_block ?_
    refine a_loop (ι := Nat) (fun k => SS [(0, .d (.ag (eLe x))), (1, .d (.ag (eEn e))), (2, .pt 101 0), (3, .pt 102 0), (4, .pt 103 0), (5, .d (.fl (.int .i64 0))), (6, .d (.fl (.int .i64 (lck e)))), (7, .ow 104), (22, .d (.fl (.bool (((lck e) != 0))))), (27, .d (.sl 2 (List.map ePo e.posts))), (28, .d (.fl (.int .i64 (e.posts.length : Int)))), (29, .d (.fl (.int .i64 (k : Int))))] [(101, .bx 35 (eLe x)), (102, .bx 24 (eEn e)), (103, .bx 35 [.fl (.slice none 0 0)]), (104, .mp ((setI (pmA e.posts k))))]) (fun k => k ≤ e.posts.length) (fun k => e.posts.length - k) 0 (by omega) (imp_forget rfl ⟨rfl, rfl, rfl, rfl, rfl, rfl, rfl, rfl, rfl, rfl, rfl, (by first | rfl | exact ci (by omega) | exact ci (by simp) | exact cd (by simp) | simp), trivial⟩ ⟨rfl, rfl, rfl, rfl, trivial⟩) (fun k hok => ?_)
    have hk := hok
    refine a_rseq ?_
    refine rg_put (d := 30) (v := .d (.fl (.bool ((decide ((k : Int) < (e.posts.length : Int))))))) rfl (og rfl (op_bin rfl rfl rfl (b_lss _ _ _ _) rfl)) ?_
    refine rg_done rfl ?_
    refine a_seq ?_
    refine a_cond rfl (fun h4 => ?_) (fun h4 => ?_)
    · skip
      have h5 := t_dec h4
      refine a_skip ?_
      show A _ _ _ _ _ _ _
      refine a_seq ?_
      refine a_block ?_
      refine a_rseq ?_
      have hc1 := hoe.c _ (ix_mem (by omega : k < e.posts.length))
      refine rg_put (d := 31) (v := .el ((ePo (ix e.posts k)))) rfl (og rfl (s_index rfl Try.underlying22 ti31 rfl rfl (by omega) (row_at (by omega)) rfl)) ?_
      refine rg_put (d := 32) (v := .d (.ag (ePo (ix e.posts k)))) rfl (og rfl (of_eff (s_load_els rfl Try.underlying31 rfl ti31 rfl rfl rfl) rfl)) ?_
      refine rg_nam (d := 9) (v := .pt 105 0) (m := 105) (nw := [(105, .bx 31 ([.fl (.string (⟨#[]⟩)), .fl (.int .i64 0)]))]) rfl (og rfl (of_eff (s_alloc 105 rfl ti31 (by kernel_rfl) rfl) rfl)) rfl ?_
      refine rg_sto (nw := [(105, .bx 31 ((ePo (ix e.posts k))))]) rfl (og rfl (of_eff (s_store rfl rfl ti31 rfl rfl rfl rfl rfl rfl) rfl)) ?_
      refine rg_done rfl ?_
      refine a_region ?_
      refine rg_put (d := 33) (v := .ow 104) rfl (og rfl (op_move rfl rfl rfl)) ?_
      refine rg_put (d := 34) (v := .pt 105 0) rfl (og rfl (of_eff (s_field_pt rfl Try.underlying31 rfl ti9 rfl rfl rfl) rfl)) ?_
      refine rg_put (d := 35) (v := .d (.fl (.string ((ix e.posts k).acc)))) rfl (og rfl (op_load_pt rfl Try.underlying9 rfl rfl rfl rfl rfl)) ?_
      rcases h6 : gI (pmA e.posts k) ((ix e.posts k).acc) with _ | qh6
      · skip
        refine rg_put (d := 36) (v := .d (.fl (.int .i64 0))) rfl (og rfl (op_lookup1 rfl Try.underlying64 Try.underlying9 rfl ti3 rfl rfl (.ow rfl) rfl (r := none) ((mfindI _ _).trans (congrArg (fun o => some (Option.map (fun v => DV.fl (.int .i64 v)) o)) h6)) rfl rfl)) ?_
        refine rg_put (d := 37) (v := .pt 105 1) rfl (og rfl (of_eff (s_field_pt rfl Try.underlying31 rfl ti3 rfl rfl rfl) rfl)) ?_
        refine rg_put (d := 38) (v := .d (.fl (.int .i64 ((ix e.posts k).cents)))) rfl (og rfl (op_load_pt rfl Try.underlying3 rfl rfl rfl rfl rfl)) ?_
        refine rg_put (d := 39) (v := .d (.fl (.int .i64 ((0 + (ix e.posts k).cents))))) rfl (og rfl (op_bin rfl rfl rfl (fun x y w => b_add64 _ _ _ x y w (by omega)) rfl)) ?_
        refine rg_sto (nw := [(104, .mp ((setI (pmA e.posts k)) ++ [((.string ((ix e.posts k).acc)), .fl (.int .i64 ((0 + (ix e.posts k).cents))))]))]) rfl (og rfl (op_mapPush rfl rfl Try.underlying64 Try.underlying9 rfl rfl rfl rfl ((mfindI _ _).trans (congrArg (fun o => some (Option.map (fun v => DV.fl (.int .i64 v)) o)) h6)) rfl)) ?_
        refine rg_done rfl ?_
        show A _ _ _ _ _ _ _
        refine a_region ?_
        refine rg_put (d := 40) (v := .d (.fl (.int .i64 (((k : Int) + 1))))) rfl (og rfl (op_bin rfl rfl rfl (fun x y w => b_add64 _ _ _ x y w (by omega)) rfl)) ?_
        refine rg_put (d := 29) (v := .d (.fl (.int .i64 (((k : Int) + 1))))) rfl (og rfl (op_move rfl rfl rfl)) ?_
        refine rg_done rfl ?_
        have hst : ((setI (pmA e.posts k)) ++ [((.string ((ix e.posts k).acc)), .fl (.int .i64 ((0 + (ix e.posts k).cents))))]) = setI (pmA e.posts (k + 1)) := by rw [pmA_n h6]; unfold setI; rw [List.map_append]; rfl
        show ∃ i, _ ∧ _ ∧ Imp _ _ _ _ _
        refine ⟨k + 1, (by omega), by omega, imp_forget rfl ⟨rfl, rfl, rfl, rfl, rfl, rfl, rfl, rfl, rfl, rfl, rfl, (by first | rfl | exact ci (by omega) | exact ci (by simp) | exact cd (by simp) | simp), trivial⟩ ⟨rfl, rfl, rfl, (congrArg (fun z => Ob.mp z) hst), trivial⟩⟩
      · skip
        have hqb := pmA_bd hoe (by omega) h6
        refine rg_put (d := 36) (v := .d (.fl (.int .i64 qh6))) rfl (og rfl (op_lookup1 rfl Try.underlying64 Try.underlying9 rfl ti3 rfl rfl (.ow rfl) rfl (r := (some (.fl (.int .i64 qh6)))) ((mfindI _ _).trans (congrArg (fun o => some (Option.map (fun v => DV.fl (.int .i64 v)) o)) h6)) rfl rfl)) ?_
        refine rg_put (d := 37) (v := .pt 105 1) rfl (og rfl (of_eff (s_field_pt rfl Try.underlying31 rfl ti3 rfl rfl rfl) rfl)) ?_
        refine rg_put (d := 38) (v := .d (.fl (.int .i64 ((ix e.posts k).cents)))) rfl (og rfl (op_load_pt rfl Try.underlying3 rfl rfl rfl rfl rfl)) ?_
        refine rg_put (d := 39) (v := .d (.fl (.int .i64 ((qh6 + (ix e.posts k).cents))))) rfl (og rfl (op_bin rfl rfl rfl (fun x y w => b_add64 _ _ _ x y w (by omega)) rfl)) ?_
        refine rg_sto (nw := [(104, .mp (mput .string ((.string ((ix e.posts k).acc))) (.fl (.int .i64 ((qh6 + (ix e.posts k).cents)))) ((setI (pmA e.posts k)))))]) rfl (og rfl (op_mapSet rfl rfl Try.underlying64 Try.underlying9 rfl rfl rfl rfl ((mfindI _ _).trans (congrArg (fun o => some (Option.map (fun v => DV.fl (.int .i64 v)) o)) h6)) rfl (stays_str _))) ?_
        refine rg_done rfl ?_
        show A _ _ _ _ _ _ _
        refine a_region ?_
        refine rg_put (d := 40) (v := .d (.fl (.int .i64 (((k : Int) + 1))))) rfl (og rfl (op_bin rfl rfl rfl (fun x y w => b_add64 _ _ _ x y w (by omega)) rfl)) ?_
        refine rg_put (d := 29) (v := .d (.fl (.int .i64 (((k : Int) + 1))))) rfl (og rfl (op_move rfl rfl rfl)) ?_
        refine rg_done rfl ?_
        have hst : (mput .string ((.string ((ix e.posts k).acc))) (.fl (.int .i64 ((qh6 + (ix e.posts k).cents)))) ((setI (pmA e.posts k)))) = setI (pmA e.posts (k + 1)) := (mput_setI _ _ _).trans (congrArg setI (pmA_s h6).symm)
        show ∃ i, _ ∧ _ ∧ Imp _ _ _ _ _
        refine ⟨k + 1, (by omega), by omega, imp_forget rfl ⟨rfl, rfl, rfl, rfl, rfl, rfl, rfl, rfl, rfl, rfl, rfl, (by first | rfl | exact ci (by omega) | exact ci (by simp) | exact cd (by simp) | simp), trivial⟩ ⟨rfl, rfl, rfl, (congrArg (fun z => Ob.mp z) hst), trivial⟩⟩
    · skip
      have h7 := f_dec h4
      refine a_exit ?_
      show A _ _ _ _ _ _ _
      refine a_rseq ?_
      have hke : k = e.posts.length := by omega
      rw [show (setI (pmA e.posts k)) = (setI (pmA e.posts e.posts.length)) from (by rw [hke])]
      refine rg_put (d := 41) (v := .pt 101 0) rfl (og rfl (of_eff (s_field_pt rfl Try.underlying35 rfl ti33 rfl rfl rfl) rfl)) ?_
      refine rg_put (d := 42) (v := .d (.sl 3 (List.map eEn x.ents))) rfl (og rfl (op_load_pt rfl Try.underlying33 rfl rfl rfl rfl rfl)) ?_
      refine rg_put (d := 43) (v := .d (.fl (.int .i64 (x.ents.length : Int)))) rfl (og rfl (s_len rfl Try.underlying33 rfl rfl)) ?_
      refine rg_put (d := 44) (v := .d (.fl (.int .i64 (((x.ents.length : Int) + 1))))) rfl (og rfl (op_bin rfl rfl rfl (fun x y w => b_add64 _ _ _ x y w (by omega)) rfl)) ?_
      refine rg_nam (d := 45) (v := .ow 106) (m := 106) (nw := [(106, .tr 24 3 (tD eEn []))]) rfl (og rfl (of_eff (op_make0 106 rfl Try.underlying33 ti24 rfl rfl (by omega) (by omega) (by omega) rfl) rfl)) rfl ?_
      refine rg_nam (d := 46) (v := .ow 107) (m := 107) (nw := [(107, .sv [.ow 24 3 (List.map eEn [])]), (106, .no)]) rfl (og rfl (of_eff (of_eff (op_build1 107 rfl Try.underlying35 ti35 (by kernel_rfl) (by kernel_rfl) (fα := eEn) (l := []) rfl rfl rfl) rfl) rfl)) rfl ?_
      refine rg_nam (d := 10) (v := .pt 108 0) (m := 108) (nw := [(108, .bx 35 [.fl (.slice none 0 0)])]) rfl (og rfl (of_eff (s_alloc 108 rfl ti35 (by kernel_rfl) rfl) rfl)) rfl ?_
      refine rg_imp (imp_bt 108 rfl) ?_
      refine rg_sto (nw := [(108, .bt 35 [.ow 24 3 (List.map eEn [])]), (107, .no)]) rfl (og rfl (of_eff (op_store_bt rfl rfl ti35 rfl rfl rfl (.sv rfl) rfl rfl rfl) rfl)) ?_
      refine rg_done rfl ?_
      refine a_seq ?_
      refine a_rseq ?_
      refine rg_put (d := 47) (v := .pt 101 0) rfl (og rfl (of_eff (s_field_pt rfl Try.underlying35 rfl ti33 rfl rfl rfl) rfl)) ?_
      refine rg_put (d := 48) (v := .d (.sl 3 (List.map eEn x.ents))) rfl (og rfl (op_load_pt rfl Try.underlying33 rfl rfl rfl rfl rfl)) ?_
      refine rg_put (d := 49) (v := .d (.fl (.int .i64 (x.ents.length : Int)))) rfl (og rfl (s_len rfl Try.underlying33 rfl rfl)) ?_
      refine rg_put (d := 50) (v := .d (.fl (.int .i64 0))) rfl (og rfl (op_move rfl rfl rfl)) ?_
      refine rg_done rfl ?_
      refine a_block ?_
      refine a_loop (ι := Nat) (fun i => SS [(0, .d (.ag (eLe x))), (1, .d (.ag (eEn e))), (2, .pt 101 0), (3, .pt 102 0), (4, .pt 103 0), (6, .d (.fl (.int .i64 (lck e)))), (7, .ow 104), (10, .pt 108 0), (22, .d (.fl (.bool (((lck e) != 0))))), (27, .d (.sl 2 (List.map ePo e.posts))), (28, .d (.fl (.int .i64 (e.posts.length : Int)))), (29, .d (.fl (.int .i64 (k : Int)))), (30, .d (.fl (.bool ((decide ((k : Int) < (e.posts.length : Int))))))), (48, .d (.sl 3 (List.map eEn x.ents))), (49, .d (.fl (.int .i64 (x.ents.length : Int)))), (50, .d (.fl (.int .i64 (i : Int))))] [(101, .bx 35 (eLe x)), (102, .bx 24 (eEn e)), (103, .bx 35 [.fl (.slice none 0 0)]), (104, .mp ((setI (pmL (pmA e.posts e.posts.length) x.ents i)))), (108, .bt 35 [.ow 24 3 (List.map eEn (x.ents.take i))])]) (fun i => i ≤ x.ents.length ∧ ∀ q, q < i → (sEq (ix x.ents q).key e.key) = false) (fun i => x.ents.length - i) 0 (⟨by omega, fun q h => by omega⟩) (imp_forget rfl ⟨rfl, rfl, rfl, rfl, rfl, rfl, rfl, rfl, rfl, rfl, rfl, rfl, rfl, rfl, rfl, (by first | rfl | exact ci (by omega) | exact ci (by simp) | exact cd (by simp) | simp), trivial⟩ ⟨rfl, rfl, rfl, rfl, rfl, trivial⟩) (fun i hok => ?_)
      obtain ⟨hi, hq⟩ := hok
      refine a_rseq ?_
      refine rg_put (d := 51) (v := .d (.fl (.bool ((decide ((i : Int) < (x.ents.length : Int))))))) rfl (og rfl (op_bin rfl rfl rfl (b_lss _ _ _ _) rfl)) ?_
      refine rg_done rfl ?_
      refine a_seq ?_
      refine a_cond rfl (fun h8 => ?_) (fun h8 => ?_)
      · skip
        have h9 := t_dec h8
        refine a_skip ?_
        show A _ _ _ _ _ _ _
        refine a_seq ?_
        refine a_block ?_
        refine a_rseq ?_
        refine rg_put (d := 52) (v := .el ((eEn (ix x.ents i)))) rfl (og rfl (s_index rfl Try.underlying33 ti24 rfl rfl (by omega) (row_at (by omega)) rfl)) ?_
        refine rg_put (d := 53) (v := .d (.ag (eEn (ix x.ents i)))) rfl (og rfl (of_eff (s_load_els rfl Try.underlying24 rfl ti24 rfl rfl rfl) rfl)) ?_
        refine rg_nam (d := 12) (v := .pt 109 0) (m := 109) (nw := [(109, .bx 24 ([.fl (.string (⟨#[]⟩)), .fl (.int .i64 0), .fl (.slice none 0 0)]))]) rfl (og rfl (of_eff (s_alloc 109 rfl ti24 (by kernel_rfl) rfl) rfl)) rfl ?_
        refine rg_sto (nw := [(109, .bx 24 ((eEn (ix x.ents i))))]) rfl (og rfl (of_eff (s_store rfl rfl ti24 rfl rfl rfl rfl rfl rfl) rfl)) ?_
        refine rg_done rfl ?_
        refine a_seq ?_
        refine a_rseq ?_
        have hpe := hx.e _ (ix_mem (by omega : i < x.ents.length))
        have hpp := hpe.l
        have hcc := hpe.c
        refine rg_put (d := 54) (v := .pt 109 0) rfl (og rfl (of_eff (s_field_pt rfl Try.underlying24 rfl ti9 rfl rfl rfl) rfl)) ?_
        refine rg_put (d := 55) (v := .d (.fl (.string ((ix x.ents i).key)))) rfl (og rfl (op_load_pt rfl Try.underlying9 rfl rfl rfl rfl rfl)) ?_
        refine rg_put (d := 56) (v := .pt 102 0) rfl (og rfl (of_eff (s_field_pt rfl Try.underlying24 rfl ti9 rfl rfl rfl) rfl)) ?_
        refine rg_put (d := 57) (v := .d (.fl (.string e.key))) rfl (og rfl (op_load_pt rfl Try.underlying9 rfl rfl rfl rfl rfl)) ?_
        refine rg_put (d := 58) (v := .d (.fl (.bool ((sEq ((ix x.ents i).key) e.key))))) rfl (og rfl (op_bin rfl rfl rfl (b_seq _ _ _) rfl)) ?_
        refine rg_done rfl ?_
        refine a_cond rfl (fun h10 => ?_) (fun h10 => ?_)
        · skip
          refine a_rseq ?_
          refine rg_put (d := 59) (v := .d (.ag (eLe x))) rfl (og rfl (of_eff (s_load_pts rfl Try.underlying35 rfl ti35 rfl rfl rfl rfl) rfl)) ?_
          refine rg_sto (nw := [(103, .bx 35 (eLe x))]) rfl (og rfl (of_eff (s_store rfl rfl ti35 rfl rfl rfl rfl rfl rfl) rfl)) ?_
          refine rg_put (d := 5) (v := .d (.fl (.int .i64 9))) rfl (og rfl (op_assign rfl rfl rfl)) ?_
          refine rg_done rfl ?_
          refine a_ret ?_
          show ∃ ds, ResL _ _ _ ds ∧ RV.of ds = _
          refine ⟨[.ag [.sl 3 (List.map eEn x.ents)], .fl (.int .i64 9)], (.cons (.cellT rfl rfl Try.underlying35 rfl ti35 rfl (Cv.ag (xs := [.sl 3 (List.map eEn x.ents)]) (ys := [.sl 3 (List.map eEn x.ents)]) ⟨Cv.refl _, trivial⟩)) (.cons (.tmp rfl (.d _)) .nil)), ?_⟩
          rw [pst_k hc0 (any_at (p := kq e.key) (by omega) h10)]; rfl
        · skip
          refine a_skip ?_
          show A _ _ _ _ _ _ _
          refine a_seq ?_
          refine a_rseq ?_
          refine rg_put (d := 60) (v := .pt 109 2) rfl (og rfl (of_eff (s_field_pt rfl Try.underlying24 rfl ti22 rfl rfl rfl) rfl)) ?_
          refine rg_put (d := 61) (v := .d (.sl 2 (List.map ePo ((ix x.ents i).posts)))) rfl (og rfl (op_load_pt rfl Try.underlying22 rfl rfl rfl rfl rfl)) ?_
          refine rg_put (d := 62) (v := .d (.fl (.int .i64 ((((ix x.ents i).posts).length : Int))))) rfl (og rfl (s_len rfl Try.underlying22 rfl rfl)) ?_
          refine rg_put (d := 63) (v := .d (.fl (.int .i64 0))) rfl (og rfl (op_move rfl rfl rfl)) ?_
          refine rg_done rfl ?_
          refine a_block ?_
          refine a_loop (ι := Nat) (fun j => SS [(0, .d (.ag (eLe x))), (1, .d (.ag (eEn e))), (2, .pt 101 0), (3, .pt 102 0), (4, .pt 103 0), (6, .d (.fl (.int .i64 (lck e)))), (7, .ow 104), (10, .pt 108 0), (12, .pt 109 0), (22, .d (.fl (.bool (((lck e) != 0))))), (27, .d (.sl 2 (List.map ePo e.posts))), (28, .d (.fl (.int .i64 (e.posts.length : Int)))), (29, .d (.fl (.int .i64 (k : Int)))), (30, .d (.fl (.bool ((decide ((k : Int) < (e.posts.length : Int))))))), (48, .d (.sl 3 (List.map eEn x.ents))), (49, .d (.fl (.int .i64 (x.ents.length : Int)))), (50, .d (.fl (.int .i64 (i : Int)))), (51, .d (.fl (.bool ((decide ((i : Int) < (x.ents.length : Int))))))), (58, .d (.fl (.bool ((sEq ((ix x.ents i).key) e.key))))), (61, .d (.sl 2 (List.map ePo ((ix x.ents i).posts)))), (62, .d (.fl (.int .i64 ((((ix x.ents i).posts).length : Int))))), (63, .d (.fl (.int .i64 (j : Int))))] [(101, .bx 35 (eLe x)), (102, .bx 24 (eEn e)), (103, .bx 35 [.fl (.slice none 0 0)]), (108, .bt 35 [.ow 24 3 (List.map eEn (x.ents.take i))]), (109, .bx 24 ((eEn (ix x.ents i)))), (104, .mp ((setI (pmE (pmL (pmA e.posts e.posts.length) x.ents i) (ix x.ents i).posts j))))]) (fun j => j ≤ (ix x.ents i).posts.length) (fun j => (ix x.ents i).posts.length - j) 0 (by omega) (imp_forget rfl ⟨rfl, rfl, rfl, rfl, rfl, rfl, rfl, rfl, rfl, rfl, rfl, rfl, rfl, rfl, rfl, rfl, rfl, rfl, rfl, rfl, rfl, (by first | rfl | exact ci (by omega) | exact ci (by simp) | exact cd (by simp) | simp), trivial⟩ ⟨rfl, rfl, rfl, rfl, rfl, rfl, trivial⟩) (fun j hok => ?_)
          have hj := hok
          refine a_rseq ?_
          refine rg_put (d := 64) (v := .d (.fl (.bool ((decide ((j : Int) < (((ix x.ents i).posts).length : Int))))))) rfl (og rfl (op_bin rfl rfl rfl (b_lss _ _ _ _) rfl)) ?_
          refine rg_done rfl ?_
          refine a_seq ?_
          refine a_cond rfl (fun h11 => ?_) (fun h11 => ?_)
          · skip
            have h12 := t_dec h11
            refine a_skip ?_
            show A _ _ _ _ _ _ _
            refine a_seq ?_
            refine a_block ?_
            refine a_rseq ?_
            refine rg_put (d := 65) (v := .el ((ePo ((ix ((ix x.ents i).posts) j))))) rfl (og rfl (s_index rfl Try.underlying22 ti31 rfl rfl (by omega) (row_at (by omega)) rfl)) ?_
            refine rg_put (d := 66) (v := .d (.ag (ePo (((ix ((ix x.ents i).posts) j)))))) rfl (og rfl (of_eff (s_load_els rfl Try.underlying31 rfl ti31 rfl rfl rfl) rfl)) ?_
            refine rg_nam (d := 14) (v := .pt 110 0) (m := 110) (nw := [(110, .bx 31 ([.fl (.string (⟨#[]⟩)), .fl (.int .i64 0)]))]) rfl (og rfl (of_eff (s_alloc 110 rfl ti31 (by kernel_rfl) rfl) rfl)) rfl ?_
            refine rg_sto (nw := [(110, .bx 31 ((ePo (((ix ((ix x.ents i).posts) j))))))]) rfl (og rfl (of_eff (s_store rfl rfl ti31 rfl rfl rfl rfl rfl rfl) rfl)) ?_
            refine rg_done rfl ?_
            refine a_rseq ?_
            refine rg_put (d := 68) (v := .ow 104) rfl (og rfl (op_move rfl rfl rfl)) ?_
            refine rg_put (d := 69) (v := .pt 110 0) rfl (og rfl (of_eff (s_field_pt rfl Try.underlying31 rfl ti9 rfl rfl rfl) rfl)) ?_
            refine rg_put (d := 70) (v := .d (.fl (.string ((((ix ((ix x.ents i).posts) j))).acc)))) rfl (og rfl (op_load_pt rfl Try.underlying9 rfl rfl rfl rfl rfl)) ?_
            rcases h13 : gI (pmE (pmL (pmA e.posts e.posts.length) x.ents i) (ix x.ents i).posts j) ((((ix ((ix x.ents i).posts) j))).acc) with _ | qh13
            · skip
              refine rg_put (d := 71) (v := .tu [.fl (.int .i64 0), .fl (.bool false)]) rfl (og rfl (op_lookup rfl Try.underlying64 Try.underlying9 rfl ti3 rfl rfl (.ow rfl) rfl (r := none) ((mfindI _ _).trans (congrArg (fun o => some (Option.map (fun v => DV.fl (.int .i64 v)) o)) h13)) rfl)) ?_
              refine rg_put (d := 67) (v := .tu [.fl (.int .i64 0), .fl (.bool false)]) rfl (og rfl (op_move rfl rfl rfl)) ?_
              refine rg_put (d := 72) (v := .d (.fl (.int .i64 0))) rfl (og rfl (op_extract rfl rfl rfl rfl)) ?_
              refine rg_put (d := 73) (v := .d (.fl (.bool false))) rfl (og rfl (op_extract rfl rfl rfl rfl)) ?_
              refine rg_put (d := 15) (v := .d (.fl (.int .i64 0))) rfl (og rfl (op_assign rfl rfl rfl)) ?_
              refine rg_put (d := 16) (v := .d (.fl (.bool false))) rfl (og rfl (op_assign rfl rfl rfl)) ?_
              refine rg_done rfl ?_
              refine a_rseq ?_
              refine rg_put (d := 74) (v := .d (.fl (.bool false))) rfl (og rfl (op_move rfl rfl rfl)) ?_
              refine rg_done rfl ?_
              refine a_condF rfl rfl ?_
              refine a_skip ?_
              show A _ _ _ _ _ _ _
              refine a_region ?_
              refine rg_put (d := 82) (v := .d (.fl (.int .i64 (((j : Int) + 1))))) rfl (og rfl (op_bin rfl rfl rfl (fun x y w => b_add64 _ _ _ x y w (by omega)) rfl)) ?_
              refine rg_put (d := 63) (v := .d (.fl (.int .i64 (((j : Int) + 1))))) rfl (og rfl (op_move rfl rfl rfl)) ?_
              refine rg_done rfl ?_
              have hst : (setI (pmE (pmL (pmA e.posts e.posts.length) x.ents i) (ix x.ents i).posts j)) = setI (pmE (pmL (pmA e.posts e.posts.length) x.ents i) (ix x.ents i).posts (j + 1)) := by rw [pmE_n h13]
              show ∃ i, _ ∧ _ ∧ Imp _ _ _ _ _
              refine ⟨j + 1, (by omega), by omega, imp_forget rfl ⟨rfl, rfl, rfl, rfl, rfl, rfl, rfl, rfl, rfl, rfl, rfl, rfl, rfl, rfl, rfl, rfl, rfl, rfl, rfl, rfl, rfl, (by first | rfl | exact ci (by omega) | exact ci (by simp) | exact cd (by simp) | simp), trivial⟩ ⟨rfl, rfl, rfl, rfl, rfl, (congrArg (fun z => Ob.mp z) hst), trivial⟩⟩
            · skip
              have hqb := pmE_bd hoe hpe hx (by omega) (by omega) h13
              refine rg_put (d := 71) (v := .tu [.fl (.int .i64 qh13), .fl (.bool true)]) rfl (og rfl (op_lookup rfl Try.underlying64 Try.underlying9 rfl ti3 rfl rfl (.ow rfl) rfl (r := (some (.fl (.int .i64 qh13)))) ((mfindI _ _).trans (congrArg (fun o => some (Option.map (fun v => DV.fl (.int .i64 v)) o)) h13)) rfl)) ?_
              refine rg_put (d := 67) (v := .tu [.fl (.int .i64 qh13), .fl (.bool true)]) rfl (og rfl (op_move rfl rfl rfl)) ?_
              refine rg_put (d := 72) (v := .d (.fl (.int .i64 qh13))) rfl (og rfl (op_extract rfl rfl rfl rfl)) ?_
              refine rg_put (d := 73) (v := .d (.fl (.bool true))) rfl (og rfl (op_extract rfl rfl rfl rfl)) ?_
              refine rg_put (d := 15) (v := .d (.fl (.int .i64 qh13))) rfl (og rfl (op_assign rfl rfl rfl)) ?_
              refine rg_put (d := 16) (v := .d (.fl (.bool true))) rfl (og rfl (op_assign rfl rfl rfl)) ?_
              refine rg_done rfl ?_
              refine a_rseq ?_
              refine rg_put (d := 74) (v := .d (.fl (.bool true))) rfl (og rfl (op_move rfl rfl rfl)) ?_
              refine rg_done rfl ?_
              refine a_condK rfl rfl ?_
              refine a_region ?_
              have hc1 := hcc _ (ix_mem (by omega : j < (ix x.ents i).posts.length))
              refine rg_put (d := 75) (v := .ow 104) rfl (og rfl (op_move rfl rfl rfl)) ?_
              refine rg_put (d := 76) (v := .pt 110 0) rfl (og rfl (of_eff (s_field_pt rfl Try.underlying31 rfl ti9 rfl rfl rfl) rfl)) ?_
              refine rg_put (d := 77) (v := .d (.fl (.string ((((ix ((ix x.ents i).posts) j))).acc)))) rfl (og rfl (op_load_pt rfl Try.underlying9 rfl rfl rfl rfl rfl)) ?_
              refine rg_put (d := 78) (v := .d (.fl (.int .i64 qh13))) rfl (og rfl (op_lookup1 rfl Try.underlying64 Try.underlying9 rfl ti3 rfl rfl (.ow rfl) rfl (r := (some (.fl (.int .i64 qh13)))) ((mfindI _ _).trans (congrArg (fun o => some (Option.map (fun v => DV.fl (.int .i64 v)) o)) h13)) rfl rfl)) ?_
              refine rg_put (d := 79) (v := .pt 110 1) rfl (og rfl (of_eff (s_field_pt rfl Try.underlying31 rfl ti3 rfl rfl rfl) rfl)) ?_
              refine rg_put (d := 80) (v := .d (.fl (.int .i64 ((((ix ((ix x.ents i).posts) j))).cents)))) rfl (og rfl (op_load_pt rfl Try.underlying3 rfl rfl rfl rfl rfl)) ?_
              refine rg_put (d := 81) (v := .d (.fl (.int .i64 ((qh13 + (((ix ((ix x.ents i).posts) j))).cents))))) rfl (og rfl (op_bin rfl rfl rfl (fun x y w => b_add64 _ _ _ x y w (by omega)) rfl)) ?_
              refine rg_sto (nw := [(104, .mp (mput .string ((.string ((((ix ((ix x.ents i).posts) j))).acc))) (.fl (.int .i64 ((qh13 + (((ix ((ix x.ents i).posts) j))).cents)))) ((setI (pmE (pmL (pmA e.posts e.posts.length) x.ents i) (ix x.ents i).posts j)))))]) rfl (og rfl (op_mapSet rfl rfl Try.underlying64 Try.underlying9 rfl rfl rfl rfl ((mfindI _ _).trans (congrArg (fun o => some (Option.map (fun v => DV.fl (.int .i64 v)) o)) h13)) rfl (stays_str _))) ?_
              refine rg_done rfl ?_
              show A _ _ _ _ _ _ _
              refine a_region ?_
              refine rg_put (d := 82) (v := .d (.fl (.int .i64 (((j : Int) + 1))))) rfl (og rfl (op_bin rfl rfl rfl (fun x y w => b_add64 _ _ _ x y w (by omega)) rfl)) ?_
              refine rg_put (d := 63) (v := .d (.fl (.int .i64 (((j : Int) + 1))))) rfl (og rfl (op_move rfl rfl rfl)) ?_
              refine rg_done rfl ?_
              have hst : (mput .string ((.string ((((ix ((ix x.ents i).posts) j))).acc))) (.fl (.int .i64 ((qh13 + (((ix ((ix x.ents i).posts) j))).cents)))) ((setI (pmE (pmL (pmA e.posts e.posts.length) x.ents i) (ix x.ents i).posts j)))) = setI (pmE (pmL (pmA e.posts e.posts.length) x.ents i) (ix x.ents i).posts (j + 1)) := (mput_setI _ _ _).trans (congrArg setI (pmE_s h13).symm)
              show ∃ i, _ ∧ _ ∧ Imp _ _ _ _ _
              refine ⟨j + 1, (by omega), by omega, imp_forget rfl ⟨rfl, rfl, rfl, rfl, rfl, rfl, rfl, rfl, rfl, rfl, rfl, rfl, rfl, rfl, rfl, rfl, rfl, rfl, rfl, rfl, rfl, (by first | rfl | exact ci (by omega) | exact ci (by simp) | exact cd (by simp) | simp), trivial⟩ ⟨rfl, rfl, rfl, rfl, rfl, (congrArg (fun z => Ob.mp z) hst), trivial⟩⟩
          · skip
            have h14 := f_dec h11
            refine a_exit ?_
            show A _ _ _ _ _ _ _
            refine a_draw (by kernel_rfl) ?_
            refine dr_put (d := 83) (v := .pt 108 0) rfl (og rfl (of_eff (s_field_pt rfl Try.underlying35 rfl ti33 rfl rfl rfl) rfl)) ?_
            refine dr_nam (d := 84) (v := .ow 111) (m := 111) (nw := [(111, .tr 24 3 (tD eEn (x.ents.take i))), (108, .bt 35 [.un])]) rfl (og rfl (of_eff (op_takeBt 111 rfl Try.underlying33 rfl rfl rfl rfl rfl rfl) rfl)) ?_
            refine dr_put (d := 85) (v := .d (.ag (eEn (ix x.ents i)))) rfl (og rfl (of_eff (s_load_pts rfl Try.underlying24 rfl ti24 rfl rfl rfl rfl) rfl)) ?_
            refine dr_put (d := 86) (v := .d (.ag (eEn (ix x.ents i)))) rfl (og rfl (op_call rfl Try.func37 nm37 rfl (.cons rfl (.d _) .nil) (freC (ix x.ents i) (by have := hpe.l; omega)) rfl)) ?_
            refine dr_put (d := 87) (v := .d (.sl 3 (List.map eEn [(ix x.ents i)]))) rfl (og rfl (of_eff (op_slices rfl Try.underlying33 ti24 rfl rfl rfl (by kernel_rfl) (xs := [.ag (eEn (ix x.ents i))]) rfl rfl (.cons rfl rfl (.d _) rfl rfl rfl .nil) rfl) rfl)) ?_
            refine dr_nam (d := 88) (v := .ow 112) (m := 112) (nw := [(112, .tr 24 3 (tD eEn (((x.ents.take i) ++ [(ix x.ents i)])))), (111, .no)]) rfl (og rfl (of_eff (s_append_td 112 rfl Try.underlying33 ti24 rfl rfl rfl rfl rfl (.d _) (by first | omega | (simp only [List.length_append, List.length_cons, List.length_nil, List.length_take]; omega)) rfl) rfl)) ?_
            refine dr_put (d := 89) (v := .pt 108 0) rfl (og rfl (of_eff (s_field_pt rfl Try.underlying35 rfl ti33 rfl rfl rfl) rfl)) ?_
            refine dr_sto (nw := [(108, .bt 35 [.ow 24 3 (List.map eEn (((x.ents.take i) ++ [(ix x.ents i)])))]), (112, .no)]) rfl (og rfl (of_eff (op_store_bt rfl rfl ti33 rfl rfl rfl (.tr rfl) rfl rfl rfl) rfl)) ?_
            refine dr_done rfl (by kernel_rfl) (by kernel_rfl) ?_
            show A _ _ _ _ _ _ _
            refine a_region ?_
            refine rg_put (d := 90) (v := .d (.fl (.int .i64 (((i : Int) + 1))))) rfl (og rfl (op_bin rfl rfl rfl (fun x y w => b_add64 _ _ _ x y w (by omega)) rfl)) ?_
            refine rg_put (d := 50) (v := .d (.fl (.int .i64 (((i : Int) + 1))))) rfl (og rfl (op_move rfl rfl rfl)) ?_
            refine rg_done rfl ?_
            have hx1 : (sEq (ix x.ents i).key e.key) = false := h10
            have hse : ((x.ents.take i) ++ [(ix x.ents i)]) = x.ents.take (i + 1) := (take_ix (by omega)).symm
            have hm1 : setI (pmE (pmL (pmA e.posts e.posts.length) x.ents i) (ix x.ents i).posts j) = setI (pmL (pmA e.posts e.posts.length) x.ents (i + 1)) := by rw [show j = (ix x.ents i).posts.length from by omega]; rfl
            show ∃ i, _ ∧ _ ∧ Imp _ _ _ _ _
            refine ⟨i + 1, ⟨by omega, fun q h => (Nat.lt_succ_iff_lt_or_eq.1 h).elim (hq q) (fun e => by rw [e]; exact hx1)⟩, by omega, imp_forget rfl ⟨rfl, rfl, rfl, rfl, rfl, rfl, rfl, rfl, rfl, rfl, rfl, rfl, rfl, rfl, rfl, (by first | rfl | exact ci (by omega) | exact ci (by simp) | exact cd (by simp) | simp), trivial⟩ ⟨rfl, rfl, rfl, (congrArg (fun z => Ob.mp z) hm1), (congrArg (fun z => Ob.bt 35 [OC.ow 24 3 (List.map eEn z)]) hse), trivial⟩⟩
      · skip
        have h15 := f_dec h8
        refine a_exit ?_
        show A _ _ _ _ _ _ _
        refine a_seq ?_
        refine a_rseq ?_
        have hie : i = x.ents.length := by omega
        rw [show (setI (pmL (pmA e.posts e.posts.length) x.ents i)) = (setI (pmB x.ents e)) from (by rw [hie]; rfl)]
        rw [show (x.ents.take i) = x.ents from (by rw [hie, List.take_length])]
        refine rg_put (d := 91) (v := .ow 104) rfl (og rfl (op_move rfl rfl rfl)) ?_
        refine rg_imp (imp_mp 91 104 rfl rfl) ?_
        refine rg_nam (d := 92) (v := .ow 113) (m := 113) (nw := [(113, .mi (List.map fI (pmB x.ents e)) none)]) rfl (og rfl (op_rangeM 113 rfl Try.underlying64 rfl rfl)) rfl ?_
        refine rg_done rfl ?_
        refine a_block ?_
        refine a_loop (ι := MI × Option (Value × DV)) (fun pr => SS [(0, .d (.ag (eLe x))), (1, .d (.ag (eEn e))), (2, .pt 101 0), (3, .pt 102 0), (4, .pt 103 0), (6, .d (.fl (.int .i64 (lck e)))), (10, .pt 108 0), (22, .d (.fl (.bool (((lck e) != 0))))), (27, .d (.sl 2 (List.map ePo e.posts))), (28, .d (.fl (.int .i64 (e.posts.length : Int)))), (29, .d (.fl (.int .i64 (k : Int)))), (30, .d (.fl (.bool ((decide ((k : Int) < (e.posts.length : Int))))))), (48, .d (.sl 3 (List.map eEn x.ents))), (49, .d (.fl (.int .i64 (x.ents.length : Int)))), (50, .d (.fl (.int .i64 (i : Int)))), (51, .d (.fl (.bool ((decide ((i : Int) < (x.ents.length : Int))))))), (92, .ow 113)] [(101, .bx 35 (eLe x)), (102, .bx 24 (eEn e)), (103, .bx 35 [.fl (.slice none 0 0)]), (108, .bt 35 [.ow 24 3 (List.map eEn x.ents)]), (113, .mi (List.map fI pr.1) pr.2)]) (fun pr => (∀ y ∈ pr.1, y ∈ pmB x.ents e) ∧ ∀ y ∈ pmB x.ents e, y ∈ pr.1 ∨ fit y.2 = true) (fun pr => pr.1.length) (((pmB x.ents e), none)) (⟨fun y hy => hy, fun y hy => .inl hy⟩) (imp_forget rfl ⟨rfl, rfl, rfl, rfl, rfl, rfl, rfl, rfl, rfl, rfl, rfl, rfl, rfl, rfl, rfl, rfl, rfl, trivial⟩ ⟨rfl, rfl, rfl, rfl, rfl, trivial⟩) (fun pr hok => ?_)
        obtain ⟨hs1, hs2⟩ := hok
        refine a_rseq ?_
        refine rg_nextM (α := ByteArray × Int) (f := fI) (l := pr.1) rfl rfl rfl rfl rfl rfl rfl (fun h16 => ?_) (fun jh16 h16 => ?_)
        · skip
          refine rg_put (d := 94) (v := .d (.fl (.bool false))) rfl (og rfl (op_extract rfl rfl rfl rfl)) ?_
          refine rg_done rfl ?_
          refine a_seq ?_
          refine a_condF rfl rfl ?_
          refine a_exit ?_
          show A _ _ _ _ _ _ _
          refine a_dseq (by kernel_rfl) ?_
          have hpe := hoe
          refine dr_put (d := 101) (v := .pt 108 0) rfl (og rfl (of_eff (s_field_pt rfl Try.underlying35 rfl ti33 rfl rfl rfl) rfl)) ?_
          refine dr_nam (d := 102) (v := .ow 114) (m := 114) (nw := [(114, .tr 24 3 (tD eEn x.ents)), (108, .bt 35 [.un])]) rfl (og rfl (of_eff (op_takeBt 114 rfl Try.underlying33 rfl rfl rfl rfl rfl rfl) rfl)) ?_
          refine dr_put (d := 103) (v := .d (.ag (eEn e))) rfl (og rfl (of_eff (s_load_pts rfl Try.underlying24 rfl ti24 rfl rfl rfl rfl) rfl)) ?_
          refine dr_put (d := 104) (v := .d (.ag (eEn e))) rfl (og rfl (op_call rfl Try.func37 nm37 rfl (.cons rfl (.d _) .nil) (freC e (by have := hpe.l; omega)) rfl)) ?_
          refine dr_put (d := 105) (v := .d (.sl 3 (List.map eEn [e]))) rfl (og rfl (of_eff (op_slices rfl Try.underlying33 ti24 rfl rfl rfl (by kernel_rfl) (xs := [.ag (eEn e)]) rfl rfl (.cons rfl rfl (.d _) rfl rfl rfl .nil) rfl) rfl)) ?_
          refine dr_nam (d := 106) (v := .ow 115) (m := 115) (nw := [(115, .tr 24 3 (tD eEn (x.ents ++ [e]))), (114, .no)]) rfl (og rfl (of_eff (s_append_td 115 rfl Try.underlying33 ti24 rfl rfl rfl rfl rfl (.d _) (by first | omega | (simp only [List.length_append, List.length_cons, List.length_nil, List.length_take]; omega)) rfl) rfl)) ?_
          refine dr_put (d := 107) (v := .pt 108 0) rfl (og rfl (of_eff (s_field_pt rfl Try.underlying35 rfl ti33 rfl rfl rfl) rfl)) ?_
          refine dr_sto (nw := [(108, .bt 35 [.ow 24 3 (List.map eEn (x.ents ++ [e]))]), (115, .no)]) rfl (og rfl (of_eff (op_store_bt rfl rfl ti33 rfl rfl rfl (.tr rfl) rfl rfl rfl) rfl)) ?_
          refine dr_done rfl (by kernel_rfl) (by kernel_rfl) ?_
          refine a_rseq ?_
          refine rg_imp (imp_leakBt 108 (ds := [.sl 3 (List.map eEn (x.ents ++ [e]))]) rfl rfl rfl) ?_
          refine rg_put (d := 108) (v := .d (.ag (eLe ((Led.mk (x.ents ++ [e])))))) rfl (og rfl (of_eff (s_load_pts rfl Try.underlying35 rfl ti35 rfl rfl rfl rfl) rfl)) ?_
          refine rg_sto (nw := [(103, .bx 35 ((eLe ((Led.mk (x.ents ++ [e]))))))]) rfl (og rfl (of_eff (s_store rfl rfl ti35 rfl rfl rfl rfl rfl rfl) rfl)) ?_
          refine rg_put (d := 5) (v := .d (.fl (.int .i64 0))) rfl (og rfl (op_assign rfl rfl rfl)) ?_
          refine rg_done rfl ?_
          refine a_ret ?_
          show ∃ ds, ResL _ _ _ ds ∧ RV.of ds = _
          refine ⟨[.ag [.sl 3 (List.map eEn (((Led.mk (x.ents ++ [e]))).ents))], .fl (.int .i64 0)], (.cons (.cellT rfl rfl Try.underlying35 rfl ti35 rfl (Cv.ag (xs := [.sl 3 (List.map eEn (((Led.mk (x.ents ++ [e]))).ents))]) (ys := [.sl 3 (List.map eEn (((Led.mk (x.ents ++ [e]))).ents))]) ⟨Cv.refl _, trivial⟩)) (.cons (.tmp rfl (.d _)) .nil)), ?_⟩
          rw [pst_y hc0 (any_no (p := kq e.key) (fun q h => hq q (by omega))) (fitB_y (fun y hy => (hs2 y hy).elim (fun h => by rw [h16] at h; cases h) id))]; rfl
        · skip
          refine rg_put (d := 94) (v := .d (.fl (.bool true))) rfl (og rfl (op_extract rfl rfl rfl rfl)) ?_
          refine rg_done rfl ?_
          refine a_seq ?_
          refine a_condK rfl rfl ?_
          refine a_skip ?_
          show A _ _ _ _ _ _ _
          refine a_block ?_
          refine a_rseq ?_
          refine rg_put (d := 95) (v := .tu [.fl (.string ((ix pr.1 jh16).1)), .fl (.int .i64 ((ix pr.1 jh16).2))]) rfl (og rfl (of_eff (op_entry (v := (fI (ix pr.1 jh16))) rfl rfl rfl rfl) rfl)) ?_
          refine rg_put (d := 96) (v := .d (.fl (.int .i64 ((ix pr.1 jh16).2)))) rfl (og rfl (op_extract rfl rfl rfl rfl)) ?_
          refine rg_put (d := 18) (v := .d (.fl (.int .i64 ((ix pr.1 jh16).2)))) rfl (og rfl (op_assign rfl rfl rfl)) ?_
          refine rg_done rfl ?_
          refine a_rseq ?_
          refine rg_put (d := 97) (v := .d (.fl (.int .i64 ((ix pr.1 jh16).2)))) rfl (og rfl (op_move rfl rfl rfl)) ?_
          refine rg_put (d := 98) (v := .d (.fl (.bool ((fit ((ix pr.1 jh16).2)))))) rfl (og rfl (op_call rfl Try.func33 nm33 rfl (.cons rfl (.d _) .nil) (fit33 ((ix pr.1 jh16).2)) rfl)) ?_
          refine rg_put (d := 99) (v := .d (.fl (.bool ((!((fit ((ix pr.1 jh16).2)))))))) rfl (og rfl (op_un rfl rfl (u_not _) rfl)) ?_
          refine rg_done rfl ?_
          refine a_cond rfl (fun h17 => ?_) (fun h17 => ?_)
          · skip
            have h18 := t_not h17
            refine a_rseq ?_
            refine rg_put (d := 100) (v := .d (.ag (eLe x))) rfl (og rfl (of_eff (s_load_pts rfl Try.underlying35 rfl ti35 rfl rfl rfl rfl) rfl)) ?_
            refine rg_sto (nw := [(103, .bx 35 (eLe x))]) rfl (og rfl (of_eff (s_store rfl rfl ti35 rfl rfl rfl rfl rfl rfl) rfl)) ?_
            refine rg_put (d := 5) (v := .d (.fl (.int .i64 13))) rfl (og rfl (op_assign rfl rfl rfl)) ?_
            refine rg_done rfl ?_
            refine a_ret ?_
            show ∃ ds, ResL _ _ _ ds ∧ RV.of ds = _
            refine ⟨[.ag [.sl 3 (List.map eEn x.ents)], .fl (.int .i64 13)], (.cons (.cellT rfl rfl Try.underlying35 rfl ti35 rfl (Cv.ag (xs := [.sl 3 (List.map eEn x.ents)]) (ys := [.sl 3 (List.map eEn x.ents)]) ⟨Cv.refl _, trivial⟩)) (.cons (.tmp rfl (.d _)) .nil)), ?_⟩
            rw [pst_m hc0 (any_no (p := kq e.key) (fun q h => hq q (by omega))) (fitB_n (hs1 _ (ix_mem h16)) h18)]; rfl
          · skip
            have h19 := f_not h17
            refine a_skip ?_
            have hjj := h16
            have hnx : (∀ y ∈ pr.1.eraseIdx jh16, y ∈ pmB x.ents e) ∧ ∀ y ∈ pmB x.ents e, y ∈ pr.1.eraseIdx jh16 ∨ fit y.2 = true := ⟨fun y hy => hs1 y (er_sub hy), fun y hy => (hs2 y hy).elim (fun h => (er_or h16 h).imp id (fun h => by rw [h]; exact h19)) .inr⟩
            show ∃ i, _ ∧ _ ∧ Imp _ _ _ _ _
            refine ⟨(pr.1.eraseIdx jh16, some (fI (ix pr.1 jh16))), hnx, (er_len hjj), imp_forget rfl ⟨rfl, rfl, rfl, rfl, rfl, rfl, rfl, rfl, rfl, rfl, rfl, rfl, rfl, rfl, rfl, rfl, rfl, trivial⟩ ⟨rfl, rfl, rfl, rfl, rfl, trivial⟩⟩
set_option maxHeartbeats 4000000 in
set_option maxRecDepth 100000 in
theorem postR (x : Led) (e : En) (hx : okL x.ents) (hx41 : x.ents.length ≤ 41) (hpl : e.posts.length ≤ 40) (hks : e.key.size ≤ 100) (has : ∀ p ∈ e.posts, p.acc.size ≤ 100) : Ctr Try.prog 16 [.ag (eLe x), .ag (eEn e)] (.tu [.ag (eLe ⟨(pst x.ents e).1⟩), .fl (.int .i64 (pst x.ents e).2)]) := by
  refine ctr (n := 71) (rs := #[.cell 4 35, .tmp 5]) (L := [(0, .d (.ag (eLe x))), (1, .d (.ag (eEn e)))]) Try.func16 rfl rfl rfl rfl rfl (fun w0 U0 => ?_)
  refine a_rseq ?_
  refine rg_nam (d := 2) (v := .pt 101 0) (m := 101) (nw := [(101, .bx 35 (eLe x))]) rfl (og rfl (of_eff (op_box 101 rfl rfl rfl rfl) rfl)) rfl ?_
  refine rg_nam (d := 3) (v := .pt 102 0) (m := 102) (nw := [(102, .bx 24 (eEn e))]) rfl (og rfl (of_eff (op_box 102 rfl rfl rfl rfl) rfl)) rfl ?_
  refine rg_nam (d := 4) (v := .pt 103 0) (m := 103) (nw := [(103, .bx 35 [.fl (.slice none 0 0)])]) rfl (og rfl (of_eff (s_alloc 103 rfl ti35 (by kernel_rfl) rfl) rfl)) rfl ?_
  refine rg_put (d := 5) (v := .d (.fl (.int .i64 0))) rfl (og rfl (op_assign rfl rfl rfl)) ?_
  refine rg_done rfl ?_
  refine a_seq ?_
  refine a_rseq ?_
  refine rg_put (d := 12) (v := .d (.ag (eEn e))) rfl (og rfl (of_eff (s_load_pts rfl Try.underlying24 rfl ti24 rfl rfl rfl rfl) rfl)) ?_
  refine rg_put (d := 13) (v := .d (.fl (.int .i64 (lck e)))) rfl (og rfl (op_call rfl Try.func12 nm12 rfl (.cons rfl (.d _) .nil) (lck12 e (by omega) (fun p hp => by have := has p hp; omega)) rfl)) ?_
  refine rg_put (d := 6) (v := .d (.fl (.int .i64 (lck e)))) rfl (og rfl (op_assign rfl rfl rfl)) ?_
  refine rg_done rfl ?_
  refine a_rseq ?_
  refine rg_put (d := 14) (v := .d (.fl (.int .i64 (lck e)))) rfl (og rfl (op_move rfl rfl rfl)) ?_
  refine rg_put (d := 15) (v := .d (.fl (.bool (((lck e) != 0))))) rfl (og rfl (op_bin rfl rfl rfl (b_neq _ _ _ _) rfl)) ?_
  refine rg_done rfl ?_
  refine a_cond rfl (fun h1 => ?_) (fun h1 => ?_)
  · skip
    have h2 := t_bne h1
    refine a_rseq ?_
    refine rg_put (d := 16) (v := .d (.ag (eLe x))) rfl (og rfl (of_eff (s_load_pts rfl Try.underlying35 rfl ti35 rfl rfl rfl rfl) rfl)) ?_
    refine rg_put (d := 17) (v := .d (.fl (.int .i64 (lck e)))) rfl (og rfl (op_move rfl rfl rfl)) ?_
    refine rg_sto (nw := [(103, .bx 35 (eLe x))]) rfl (og rfl (of_eff (s_store rfl rfl ti35 rfl rfl rfl rfl rfl rfl) rfl)) ?_
    refine rg_put (d := 5) (v := .d (.fl (.int .i64 (lck e)))) rfl (og rfl (op_assign rfl rfl rfl)) ?_
    refine rg_done rfl ?_
    refine a_ret ?_
    show ∃ ds, ResL _ _ _ ds ∧ RV.of ds = _
    refine ⟨[.ag [.sl 3 (List.map eEn x.ents)], .fl (.int .i64 (lck e))], (.cons (.cellT rfl rfl Try.underlying35 rfl ti35 rfl (Cv.ag (xs := [.sl 3 (List.map eEn x.ents)]) (ys := [.sl 3 (List.map eEn x.ents)]) ⟨Cv.refl _, trivial⟩)) (.cons (.tmp rfl (.d _)) .nil)), ?_⟩
    rw [pst_c (t_bne h1)]; rfl
  · skip
    have h3 := f_bne h1
    refine a_skip ?_
    show A _ _ _ _ _ _ _
    refine a_seq ?_
    refine a_rseq ?_
    have hc0 := f_bne h1
    have hoe := ok_of hpl hks has hc0
    refine rg_put (d := 19) (v := .d (.ag (eLe x))) rfl (og rfl (of_eff (s_load_pts rfl Try.underlying35 rfl ti35 rfl rfl rfl rfl) rfl)) ?_
    refine rg_put (d := 20) (v := .pt 102 0) rfl (og rfl (of_eff (s_field_pt rfl Try.underlying24 rfl ti9 rfl rfl rfl) rfl)) ?_
    refine rg_put (d := 21) (v := .d (.fl (.string e.key))) rfl (og rfl (op_load_pt rfl Try.underlying9 rfl rfl rfl rfl rfl)) ?_
    refine rg_put (d := 22) (v := .tu [.ag (eEn ((fdE x.ents e.key).1)), .fl (.bool ((fdE x.ents e.key).2))]) rfl (og rfl (op_call rfl Try.func19 nm19 rfl (.cons rfl (.d _) (.cons rfl (.d _) .nil)) (finR x e.key hx) rfl)) ?_
    refine rg_put (d := 18) (v := .tu [.ag (eEn ((fdE x.ents e.key).1)), .fl (.bool ((fdE x.ents e.key).2))]) rfl (og rfl (op_move rfl rfl rfl)) ?_
    refine rg_put (d := 23) (v := .d (.ag (eEn ((fdE x.ents e.key).1)))) rfl (og rfl (op_extract rfl rfl rfl rfl)) ?_
    refine rg_put (d := 24) (v := .d (.fl (.bool ((fdE x.ents e.key).2)))) rfl (og rfl (op_extract rfl rfl rfl rfl)) ?_
    refine rg_nam (d := 7) (v := .pt 104 0) (m := 104) (nw := [(104, .bx 24 ([.fl (.string (⟨#[]⟩)), .fl (.int .i64 0), .fl (.slice none 0 0)]))]) rfl (og rfl (of_eff (s_alloc 104 rfl ti24 (by kernel_rfl) rfl) rfl)) rfl ?_
    refine rg_sto (nw := [(104, .bx 24 ((eEn ((fdE x.ents e.key).1))))]) rfl (og rfl (of_eff (s_store rfl rfl ti24 rfl rfl rfl rfl rfl rfl) rfl)) ?_
    refine rg_put (d := 8) (v := .d (.fl (.bool ((fdE x.ents e.key).2)))) rfl (og rfl (op_assign rfl rfl rfl)) ?_
    refine rg_done rfl ?_
    refine a_rseq ?_
    refine rg_put (d := 25) (v := .d (.fl (.bool ((fdE x.ents e.key).2)))) rfl (og rfl (op_move rfl rfl rfl)) ?_
    refine rg_done rfl ?_
    refine a_cond rfl (fun h4 => ?_) (fun h4 => ?_)
    · skip
      refine a_rseq ?_
      refine rg_put (d := 26) (v := .d (.ag (eLe x))) rfl (og rfl (of_eff (s_load_pts rfl Try.underlying35 rfl ti35 rfl rfl rfl rfl) rfl)) ?_
      refine rg_sto (nw := [(103, .bx 35 (eLe x))]) rfl (og rfl (of_eff (s_store rfl rfl ti35 rfl rfl rfl rfl rfl rfl) rfl)) ?_
      refine rg_put (d := 5) (v := .d (.fl (.int .i64 9))) rfl (og rfl (op_assign rfl rfl rfl)) ?_
      refine rg_done rfl ?_
      refine a_ret ?_
      show ∃ ds, ResL _ _ _ ds ∧ RV.of ds = _
      refine ⟨[.ag [.sl 3 (List.map eEn x.ents)], .fl (.int .i64 9)], (.cons (.cellT rfl rfl Try.underlying35 rfl ti35 rfl (Cv.ag (xs := [.sl 3 (List.map eEn x.ents)]) (ys := [.sl 3 (List.map eEn x.ents)]) ⟨Cv.refl _, trivial⟩)) (.cons (.tmp rfl (.d _)) .nil)), ?_⟩
      rw [pst_k hc0 ((fd_2 _ _).symm.trans h4)]; rfl
    · skip
      refine a_skip ?_
      show A _ _ _ _ _ _ _
      refine a_rseq ?_
      refine rg_nam (d := 9) (v := .pt 105 0) (m := 105) (nw := [(105, .bx 35 [.fl (.slice none 0 0)])]) rfl (og rfl (of_eff (s_alloc 105 rfl ti35 (by kernel_rfl) rfl) rfl)) rfl ?_
      refine rg_done rfl ?_
      refine a_seq ?_
      refine a_rseq ?_
      refine rg_imp (imp_bt 105 rfl) ?_
      refine rg_imp (imp_btnil 105 0 24 3 rfl rfl) ?_
      refine rg_put (d := 10) (v := .d (.fl (.int .i64 0))) rfl (og rfl (op_assign rfl rfl rfl)) ?_
      refine rg_done rfl ?_
      refine a_block ?_
      refine a_loop (ι := Nat) (fun i => SS [(0, .d (.ag (eLe x))), (1, .d (.ag (eEn e))), (2, .pt 101 0), (3, .pt 102 0), (4, .pt 103 0), (5, .d (.fl (.int .i64 0))), (6, .d (.fl (.int .i64 (lck e)))), (8, .d (.fl (.bool ((fdE x.ents e.key).2)))), (9, .pt 105 0), (15, .d (.fl (.bool (((lck e) != 0))))), (25, .d (.fl (.bool ((fdE x.ents e.key).2)))), (10, .d (.fl (.int .i64 (i : Int))))] [(101, .bx 35 (eLe x)), (102, .bx 24 (eEn e)), (103, .bx 35 [.fl (.slice none 0 0)]), (105, .bt 35 [.ow 24 3 (List.map eEn (x.ents.take i))])]) (fun i => i ≤ x.ents.length) (fun i => x.ents.length - i) 0 (by omega) (imp_forget rfl ⟨rfl, rfl, rfl, rfl, rfl, rfl, rfl, rfl, rfl, rfl, rfl, (by first | rfl | exact ci (by omega) | exact ci (by simp) | exact cd (by simp) | simp), trivial⟩ ⟨rfl, rfl, rfl, rfl, trivial⟩) (fun i hok => ?_)
      have hi := hok
      refine a_seq ?_
      refine a_rseq ?_
      refine rg_put (d := 27) (v := .d (.fl (.int .i64 (i : Int)))) rfl (og rfl (op_move rfl rfl rfl)) ?_
      refine rg_put (d := 28) (v := .pt 101 0) rfl (og rfl (of_eff (s_field_pt rfl Try.underlying35 rfl ti33 rfl rfl rfl) rfl)) ?_
      refine rg_put (d := 29) (v := .d (.sl 3 (List.map eEn x.ents))) rfl (og rfl (op_load_pt rfl Try.underlying33 rfl rfl rfl rfl rfl)) ?_
      refine rg_put (d := 30) (v := .d (.fl (.int .i64 (x.ents.length : Int)))) rfl (og rfl (s_len rfl Try.underlying33 rfl rfl)) ?_
      refine rg_put (d := 31) (v := .d (.fl (.bool ((decide ((i : Int) < (x.ents.length : Int))))))) rfl (og rfl (op_bin rfl rfl rfl (b_lss _ _ _ _) rfl)) ?_
      refine rg_done rfl ?_
      refine a_cond rfl (fun h5 => ?_) (fun h5 => ?_)
      · skip
        have h6 := t_dec h5
        refine a_skip ?_
        show A _ _ _ _ _ _ _
        refine a_seq ?_
        refine a_block ?_
        refine a_draw (by kernel_rfl) ?_
        have hpe := hx.e _ (ix_mem (by omega : i < x.ents.length))
        refine dr_put (d := 34) (v := .pt 105 0) rfl (og rfl (of_eff (s_field_pt rfl Try.underlying35 rfl ti33 rfl rfl rfl) rfl)) ?_
        refine dr_nam (d := 35) (v := .ow 106) (m := 106) (nw := [(106, .tr 24 3 (tD eEn (x.ents.take i))), (105, .bt 35 [.un])]) rfl (og rfl (of_eff (op_takeBt 106 rfl Try.underlying33 rfl rfl rfl rfl rfl rfl) rfl)) ?_
        refine dr_put (d := 36) (v := .pt 101 0) rfl (og rfl (of_eff (s_field_pt rfl Try.underlying35 rfl ti33 rfl rfl rfl) rfl)) ?_
        refine dr_put (d := 37) (v := .d (.sl 3 (List.map eEn x.ents))) rfl (og rfl (op_load_pt rfl Try.underlying33 rfl rfl rfl rfl rfl)) ?_
        refine dr_put (d := 38) (v := .d (.fl (.int .i64 (i : Int)))) rfl (og rfl (op_move rfl rfl rfl)) ?_
        refine dr_put (d := 39) (v := .el ((eEn (ix x.ents i)))) rfl (og rfl (s_index rfl Try.underlying33 ti24 rfl rfl (by omega) (row_at (by omega)) rfl)) ?_
        refine dr_put (d := 40) (v := .d (.ag (eEn (ix x.ents i)))) rfl (og rfl (of_eff (s_load_els rfl Try.underlying24 rfl ti24 rfl rfl rfl) rfl)) ?_
        refine dr_put (d := 41) (v := .d (.ag (eEn (ix x.ents i)))) rfl (og rfl (op_call rfl Try.func38 nm38 rfl (.cons rfl (.d _) .nil) (copR (ix x.ents i) (by have := hpe.l; omega)) rfl)) ?_
        refine dr_put (d := 42) (v := .d (.sl 3 (List.map eEn [(ix x.ents i)]))) rfl (og rfl (of_eff (op_slices rfl Try.underlying33 ti24 rfl rfl rfl (by kernel_rfl) (xs := [.ag (eEn (ix x.ents i))]) rfl rfl (.cons rfl rfl (.d _) rfl rfl rfl .nil) rfl) rfl)) ?_
        refine dr_nam (d := 43) (v := .ow 107) (m := 107) (nw := [(107, .tr 24 3 (tD eEn (((x.ents.take i) ++ [(ix x.ents i)])))), (106, .no)]) rfl (og rfl (of_eff (s_append_td 107 rfl Try.underlying33 ti24 rfl rfl rfl rfl rfl (.d _) (by first | omega | (simp only [List.length_append, List.length_cons, List.length_nil, List.length_take]; omega)) rfl) rfl)) ?_
        refine dr_put (d := 44) (v := .pt 105 0) rfl (og rfl (of_eff (s_field_pt rfl Try.underlying35 rfl ti33 rfl rfl rfl) rfl)) ?_
        refine dr_sto (nw := [(105, .bt 35 [.ow 24 3 (List.map eEn (((x.ents.take i) ++ [(ix x.ents i)])))]), (107, .no)]) rfl (og rfl (of_eff (op_store_bt rfl rfl ti33 rfl rfl rfl (.tr rfl) rfl rfl rfl) rfl)) ?_
        refine dr_done rfl (by kernel_rfl) (by kernel_rfl) ?_
        show A _ _ _ _ _ _ _
        refine a_region ?_
        refine rg_put (d := 32) (v := .d (.fl (.int .i64 (i : Int)))) rfl (og rfl (op_move rfl rfl rfl)) ?_
        refine rg_put (d := 33) (v := .d (.fl (.int .i64 (((i : Int) + 1))))) rfl (og rfl (op_bin rfl rfl rfl (fun x y w => b_add64 _ _ _ x y w (by omega)) rfl)) ?_
        refine rg_put (d := 10) (v := .d (.fl (.int .i64 (((i : Int) + 1))))) rfl (og rfl (op_assign rfl rfl rfl)) ?_
        refine rg_done rfl ?_
        have hse : ((x.ents.take i) ++ [(ix x.ents i)]) = x.ents.take (i + 1) := (take_ix (by omega)).symm
        show ∃ i, _ ∧ _ ∧ Imp _ _ _ _ _
        refine ⟨i + 1, (by omega), by omega, imp_forget rfl ⟨rfl, rfl, rfl, rfl, rfl, rfl, rfl, rfl, rfl, rfl, rfl, (by first | rfl | exact ci (by omega) | exact ci (by simp) | exact cd (by simp) | simp), trivial⟩ ⟨rfl, rfl, rfl, (congrArg (fun z => Ob.bt 35 [OC.ow 24 3 (List.map eEn z)]) hse), trivial⟩⟩
      · skip
        have h7 := f_dec h5
        refine a_exit ?_
        show A _ _ _ _ _ _ _
        refine a_dseq (by kernel_rfl) ?_
        have hie : i = x.ents.length := by omega
        rw [show (x.ents.take i) = x.ents from (by rw [hie, List.take_length])]
        have hpe := hoe
        refine dr_put (d := 45) (v := .pt 105 0) rfl (og rfl (of_eff (s_field_pt rfl Try.underlying35 rfl ti33 rfl rfl rfl) rfl)) ?_
        refine dr_nam (d := 46) (v := .ow 108) (m := 108) (nw := [(108, .tr 24 3 (tD eEn x.ents)), (105, .bt 35 [.un])]) rfl (og rfl (of_eff (op_takeBt 108 rfl Try.underlying33 rfl rfl rfl rfl rfl rfl) rfl)) ?_
        refine dr_put (d := 47) (v := .d (.ag (eEn e))) rfl (og rfl (of_eff (s_load_pts rfl Try.underlying24 rfl ti24 rfl rfl rfl rfl) rfl)) ?_
        refine dr_put (d := 48) (v := .d (.ag (eEn e))) rfl (og rfl (op_call rfl Try.func38 nm38 rfl (.cons rfl (.d _) .nil) (copR e (by have := hpe.l; omega)) rfl)) ?_
        refine dr_put (d := 49) (v := .d (.sl 3 (List.map eEn [e]))) rfl (og rfl (of_eff (op_slices rfl Try.underlying33 ti24 rfl rfl rfl (by kernel_rfl) (xs := [.ag (eEn e)]) rfl rfl (.cons rfl rfl (.d _) rfl rfl rfl .nil) rfl) rfl)) ?_
        refine dr_nam (d := 50) (v := .ow 109) (m := 109) (nw := [(109, .tr 24 3 (tD eEn (x.ents ++ [e]))), (108, .no)]) rfl (og rfl (of_eff (s_append_td 109 rfl Try.underlying33 ti24 rfl rfl rfl rfl rfl (.d _) (by first | omega | (simp only [List.length_append, List.length_cons, List.length_nil, List.length_take]; omega)) rfl) rfl)) ?_
        refine dr_put (d := 51) (v := .pt 105 0) rfl (og rfl (of_eff (s_field_pt rfl Try.underlying35 rfl ti33 rfl rfl rfl) rfl)) ?_
        refine dr_sto (nw := [(105, .bt 35 [.ow 24 3 (List.map eEn (x.ents ++ [e]))]), (109, .no)]) rfl (og rfl (of_eff (op_store_bt rfl rfl ti33 rfl rfl rfl (.tr rfl) rfl rfl rfl) rfl)) ?_
        refine dr_done rfl (by kernel_rfl) (by kernel_rfl) ?_
        refine a_seq ?_
        refine a_rseq ?_
        refine rg_imp (imp_leakBt 105 (ds := [.sl 3 (List.map eEn (x.ents ++ [e]))]) rfl rfl rfl) ?_
        have hoa : okL (x.ents ++ [e]) := ⟨by rw [List.length_append]; simp; omega, fun y hy => (List.mem_append.1 hy).elim (hx.e y) (fun h => by rw [List.mem_singleton] at h; rw [h]; exact hoe)⟩
        refine rg_put (d := 11) (v := .d (.fl (.int .i64 0))) rfl (og rfl (op_assign rfl rfl rfl)) ?_
        refine rg_done rfl ?_
        refine a_block ?_
        refine a_loop (ι := Nat) (fun k => SS [(0, .d (.ag (eLe x))), (1, .d (.ag (eEn e))), (2, .pt 101 0), (3, .pt 102 0), (4, .pt 103 0), (6, .d (.fl (.int .i64 (lck e)))), (8, .d (.fl (.bool ((fdE x.ents e.key).2)))), (9, .pt 105 0), (10, .d (.fl (.int .i64 (i : Int)))), (15, .d (.fl (.bool (((lck e) != 0))))), (25, .d (.fl (.bool ((fdE x.ents e.key).2)))), (31, .d (.fl (.bool ((decide ((i : Int) < (x.ents.length : Int))))))), (11, .d (.fl (.int .i64 (k : Int))))] [(101, .bx 35 (eLe x)), (102, .bx 24 (eEn e)), (103, .bx 35 [.fl (.slice none 0 0)]), (105, .bx 35 ([.sl 3 (List.map eEn (x.ents ++ [e]))]))]) (fun k => k ≤ e.posts.length ∧ ∀ q, q < k → (okp x.ents e (ix e.posts q)) = true) (fun k => e.posts.length - k) 0 (⟨by omega, fun q h => by omega⟩) (imp_forget rfl ⟨rfl, rfl, rfl, rfl, rfl, rfl, rfl, rfl, rfl, rfl, rfl, rfl, (by first | rfl | exact ci (by omega) | exact ci (by simp) | exact cd (by simp) | simp), trivial⟩ ⟨rfl, rfl, rfl, rfl, trivial⟩) (fun k hok => ?_)
        obtain ⟨hk, hq⟩ := hok
        refine a_seq ?_
        refine a_rseq ?_
        refine rg_put (d := 52) (v := .d (.fl (.int .i64 (k : Int)))) rfl (og rfl (op_move rfl rfl rfl)) ?_
        refine rg_put (d := 53) (v := .pt 102 2) rfl (og rfl (of_eff (s_field_pt rfl Try.underlying24 rfl ti22 rfl rfl rfl) rfl)) ?_
        refine rg_put (d := 54) (v := .d (.sl 2 (List.map ePo e.posts))) rfl (og rfl (op_load_pt rfl Try.underlying22 rfl rfl rfl rfl rfl)) ?_
        refine rg_put (d := 55) (v := .d (.fl (.int .i64 (e.posts.length : Int)))) rfl (og rfl (s_len rfl Try.underlying22 rfl rfl)) ?_
        refine rg_put (d := 56) (v := .d (.fl (.bool ((decide ((k : Int) < (e.posts.length : Int))))))) rfl (og rfl (op_bin rfl rfl rfl (b_lss _ _ _ _) rfl)) ?_
        refine rg_done rfl ?_
        refine a_cond rfl (fun h8 => ?_) (fun h8 => ?_)
        · skip
          have h9 := t_dec h8
          refine a_skip ?_
          show A _ _ _ _ _ _ _
          refine a_seq ?_
          refine a_block ?_
          refine a_dseq (by kernel_rfl) ?_
          refine dr_put (d := 59) (v := .d (.ag (eLe ((Led.mk (x.ents ++ [e])))))) rfl (og rfl (of_eff (s_load_pts rfl Try.underlying35 rfl ti35 rfl rfl rfl rfl) rfl)) ?_
          refine dr_put (d := 60) (v := .pt 102 2) rfl (og rfl (of_eff (s_field_pt rfl Try.underlying24 rfl ti22 rfl rfl rfl) rfl)) ?_
          refine dr_put (d := 61) (v := .d (.sl 2 (List.map ePo e.posts))) rfl (og rfl (op_load_pt rfl Try.underlying22 rfl rfl rfl rfl rfl)) ?_
          refine dr_put (d := 62) (v := .d (.fl (.int .i64 (k : Int)))) rfl (og rfl (op_move rfl rfl rfl)) ?_
          refine dr_put (d := 63) (v := .el ((ePo (ix e.posts k)))) rfl (og rfl (s_index rfl Try.underlying22 ti31 rfl rfl (by omega) (row_at (by omega)) rfl)) ?_
          refine dr_put (d := 64) (v := .el ((List.drop 0 ((ePo (ix e.posts k)))))) rfl (og rfl (of_eff (s_field_el rfl Try.underlying31 rfl ti9 rfl rfl rfl) rfl)) ?_
          refine dr_put (d := 65) (v := .d (.fl (.string ((ix e.posts k).acc)))) rfl (og rfl (op_load_el rfl Try.underlying9 rfl rfl rfl rfl)) ?_
          refine dr_put (d := 66) (v := .d (.fl (.int .i64 ((bal ((Led.mk (x.ents ++ [e]))).ents ((ix e.posts k).acc)))))) rfl (og rfl (op_call rfl Try.func24 nm24 rfl (.cons rfl (.d _) (.cons rfl (.d _) .nil)) (balR ((Led.mk (x.ents ++ [e]))) ((ix e.posts k).acc) hoa) rfl)) ?_
          refine dr_put (d := 67) (v := .d (.fl (.bool ((fit ((bal ((Led.mk (x.ents ++ [e]))).ents ((ix e.posts k).acc)))))))) rfl (og rfl (op_call rfl Try.func35 nm35 rfl (.cons rfl (.d _) .nil) (fit35 ((bal ((Led.mk (x.ents ++ [e]))).ents ((ix e.posts k).acc)))) rfl)) ?_
          refine dr_put (d := 68) (v := .d (.fl (.bool ((!((fit ((bal ((Led.mk (x.ents ++ [e]))).ents ((ix e.posts k).acc)))))))))) rfl (og rfl (op_un rfl rfl (u_not _) rfl)) ?_
          refine dr_done rfl (by kernel_rfl) (by kernel_rfl) ?_
          refine a_cond rfl (fun h10 => ?_) (fun h10 => ?_)
          · skip
            have h11 := t_not h10
            refine a_rseq ?_
            refine rg_put (d := 69) (v := .d (.ag (eLe x))) rfl (og rfl (of_eff (s_load_pts rfl Try.underlying35 rfl ti35 rfl rfl rfl rfl) rfl)) ?_
            refine rg_sto (nw := [(103, .bx 35 (eLe x))]) rfl (og rfl (of_eff (s_store rfl rfl ti35 rfl rfl rfl rfl rfl rfl) rfl)) ?_
            refine rg_put (d := 5) (v := .d (.fl (.int .i64 13))) rfl (og rfl (op_assign rfl rfl rfl)) ?_
            refine rg_done rfl ?_
            refine a_ret ?_
            show ∃ ds, ResL _ _ _ ds ∧ RV.of ds = _
            refine ⟨[.ag [.sl 3 (List.map eEn x.ents)], .fl (.int .i64 13)], (.cons (.cellT rfl rfl Try.underlying35 rfl ti35 rfl (Cv.ag (xs := [.sl 3 (List.map eEn x.ents)]) (ys := [.sl 3 (List.map eEn x.ents)]) ⟨Cv.refl _, trivial⟩)) (.cons (.tmp rfl (.d _)) .nil)), ?_⟩
            rw [pst_m hc0 ((fd_2 _ _).symm.trans h4) (all_no (p := okp x.ents e) (k := k) (by omega) h11)]; rfl
          · skip
            have h12 := f_not h10
            refine a_skip ?_
            show A _ _ _ _ _ _ _
            refine a_region ?_
            refine rg_put (d := 57) (v := .d (.fl (.int .i64 (k : Int)))) rfl (og rfl (op_move rfl rfl rfl)) ?_
            refine rg_put (d := 58) (v := .d (.fl (.int .i64 (((k : Int) + 1))))) rfl (og rfl (op_bin rfl rfl rfl (fun x y w => b_add64 _ _ _ x y w (by omega)) rfl)) ?_
            refine rg_put (d := 11) (v := .d (.fl (.int .i64 (((k : Int) + 1))))) rfl (og rfl (op_assign rfl rfl rfl)) ?_
            refine rg_done rfl ?_
            have hx1 : (okp x.ents e (ix e.posts k)) = true := h12
            show ∃ i, _ ∧ _ ∧ Imp _ _ _ _ _
            refine ⟨k + 1, ⟨by omega, fun q h => (Nat.lt_succ_iff_lt_or_eq.1 h).elim (hq q) (fun e => by rw [e]; exact hx1)⟩, by omega, imp_forget rfl ⟨rfl, rfl, rfl, rfl, rfl, rfl, rfl, rfl, rfl, rfl, rfl, rfl, (by first | rfl | exact ci (by omega) | exact ci (by simp) | exact cd (by simp) | simp), trivial⟩ ⟨rfl, rfl, rfl, rfl, trivial⟩⟩
        · skip
          have h13 := f_dec h8
          refine a_exit ?_
          show A _ _ _ _ _ _ _
          refine a_rseq ?_
          refine rg_put (d := 70) (v := .d (.ag (eLe ((Led.mk (x.ents ++ [e])))))) rfl (og rfl (of_eff (s_load_pts rfl Try.underlying35 rfl ti35 rfl rfl rfl rfl) rfl)) ?_
          refine rg_sto (nw := [(103, .bx 35 ((eLe ((Led.mk (x.ents ++ [e]))))))]) rfl (og rfl (of_eff (s_store rfl rfl ti35 rfl rfl rfl rfl rfl rfl) rfl)) ?_
          refine rg_put (d := 5) (v := .d (.fl (.int .i64 0))) rfl (og rfl (op_assign rfl rfl rfl)) ?_
          refine rg_done rfl ?_
          refine a_ret ?_
          show ∃ ds, ResL _ _ _ ds ∧ RV.of ds = _
          refine ⟨[.ag [.sl 3 (List.map eEn (((Led.mk (x.ents ++ [e]))).ents))], .fl (.int .i64 0)], (.cons (.cellT rfl rfl Try.underlying35 rfl ti35 rfl (Cv.ag (xs := [.sl 3 (List.map eEn (((Led.mk (x.ents ++ [e]))).ents))]) (ys := [.sl 3 (List.map eEn (((Led.mk (x.ents ++ [e]))).ents))]) ⟨Cv.refl _, trivial⟩)) (.cons (.tmp rfl (.d _)) .nil)), ?_⟩
          rw [pst_y hc0 ((fd_2 _ _).symm.trans h4) (all_yes (p := okp x.ents e) (fun q h => hq q (by omega)))]; rfl
end Go.Proofs.Ytmmadlhkniikdaa.Wk
