/- Holding and releasing every image once. No condition. -/
import Derived.Test.YtaecdkhpidligaaM1
set_option linter.unusedSimpArgs false
set_option linter.unusedVariables false
namespace Go.Proofs.Ytaecdkhpidligaa.Wk
open Go Go.RowKit Go.Proofs.Ytaecdkhpidligaa.Av
open Go.Proofs.Ytaecdkhpidligaa.Wr
theorem fe_each {f : Nat → Int} : ∀ (n i : Nat), Wk.fe f i n = 0 → ∀ j, i ≤ j → j < i + n → f j = 0
  | 0, i, _, j, h1, h2 => by omega
  | n + 1, i, h, j, h1, h2 => by
    have hs : Wk.fe f i (n + 1) = if f i = 0 then Wk.fe f (i + 1) n else f i := rfl
    rw [hs] at h
    by_cases hz : f i = 0
    · rw [if_pos hz] at h
      by_cases hj : j = i
      · rw [hj]; exact hz
      · exact fe_each n (i + 1) h j (by omega) (by omega)
    · rw [if_neg hz] at h; exact absurd h hz
theorem fe_nil {f : Nat → Int} : ∀ (n i : Nat), (∀ j, i ≤ j → j < i + n → f j = 0) → Wk.fe f i n = 0
  | 0, _, _ => rfl
  | n + 1, i, h => by
    have hs : Wk.fe f i (n + 1) = if f i = 0 then Wk.fe f (i + 1) n else f i := rfl
    rw [hs, if_pos (h i (by omega) (by omega))]
    exact fe_nil n (i + 1) (fun j h1 h2 => h j (by omega) (by omega))
theorem er_each {f : Nat → Int} : ∀ (n i : Nat), Wr.fe f i n = 0 → ∀ j, i ≤ j → j < i + n → f j = 0 := Wr.fe_zero
theorem er_nil {f : Nat → Int} : ∀ (n i : Nat), (∀ j, i ≤ j → j < i + n → f j = 0) → Wr.fe f i n = 0
  | 0, _, _ => rfl
  | n + 1, i, h => by
    have hs : Wr.fe f i (n + 1) = if f i = 0 then Wr.fe f (i + 1) n else f i := rfl
    rw [hs, if_pos (h i (by omega) (by omega))]
    exact er_nil n (i + 1) (fun j h1 h2 => h j (by omega) (by omega))
theorem sEq_flip (a b : ByteArray) : sEq a b = sEq b a := by unfold sEq; rw [Bool.eq_iff_iff]; simp; exact ⟨Eq.symm, Eq.symm⟩
theorem ix_map {α β : Type} [Inhabited α] [Inhabited β] {f : α → β} {l : List α} {k : Nat} (h : k < l.length) : ix (l.map f) k = f (ix l k) := by
  rw [← Wk.ix_eq (by rw [List.length_map]; exact h), ← Wk.ix_eq h, List.getElem_map]
abbrev ad (x : Im) : Im := addR x CS
def hel (l : List Im) (k : Nat) : List Im := (l.take k).map ad ++ l.drop k
def fre (l : List Im) (k : Nat) : List Im := l.take k ++ (l.drop k).map ad
theorem hel_len (l : List Im) (k : Nat) : (hel l k).length = l.length := by unfold hel; simp; omega
theorem fre_len (l : List Im) (k : Nat) : (fre l k).length = l.length := by unfold fre; simp; omega
theorem hel_zero (l : List Im) : l = hel l 0 := by simp [hel]
theorem hel_all {l : List Im} {k : Nat} (h : k = l.length) : hel l k = l.map ad := by subst h; simp [hel]
theorem hel_fre {l : List Im} {k : Nat} (h : k = l.length) : hel l k = fre l 0 := by rw [hel_all h]; simp [fre]
theorem fre_all {l : List Im} {k : Nat} (h : k = l.length) : fre l k = l := by subst h; simp [fre]
theorem drop_ix {α : Type} [Inhabited α] {l : List α} {k : Nat} (h : k < l.length) : l.drop k = ix l k :: l.drop (k + 1) := by
  rw [← Wk.ix_eq h]; exact List.drop_eq_getElem_cons h
theorem hel_at {l : List Im} {k : Nat} (h : k < l.length) : hel l k = (l.take k).map ad ++ ix l k :: l.drop (k + 1) := by unfold hel; rw [drop_ix h]
theorem fre_at {l : List Im} {k : Nat} (h : k < l.length) : fre l k = l.take k ++ ad (ix l k) :: (l.drop (k + 1)).map ad := by unfold fre; rw [drop_ix h]; rfl
theorem mid_ix {α : Type} [Inhabited α] {a b : List α} {x : α} {k : Nat} (h : a.length = k) : ix (a ++ x :: b) k = x := by subst h; unfold ix; simp
theorem mid_set {α : Type} {a b : List α} {x y : α} {k : Nat} (h : a.length = k) : (a ++ x :: b).set k y = a ++ y :: b := by subst h; simp
theorem hel_ix {l : List Im} {k : Nat} (h : k < l.length) : ix (hel l k) k = ix l k := by rw [hel_at h]; exact mid_ix (by simp; omega)
theorem fre_ix {l : List Im} {k : Nat} (h : k < l.length) : ix (fre l k) k = ad (ix l k) := by rw [fre_at h]; exact mid_ix (by simp; omega)
theorem hel_set {l : List Im} {k : Nat} (h : k < l.length) : (hel l k).set k (ad (ix l k)) = hel l (k + 1) := by
  rw [hel_at h, mid_set (by simp; omega)]
  unfold hel
  rw [take_ix h, List.map_append, List.append_assoc]; rfl
theorem fre_set {l : List Im} {k : Nat} (h : k < l.length) : (fre l k).set k (ix l k) = fre l (k + 1) := by
  rw [fre_at h, mid_set (by simp; omega)]
  unfold fre
  rw [take_ix h, List.append_assoc]; rfl
theorem hel_ids (l : List Im) (k : Nat) : (hel l k).map (·.id) = l.map (·.id) := by
  unfold hel
  rw [List.map_append, List.map_map]
  show (l.take k).map (·.id) ++ (l.drop k).map (·.id) = _
  rw [← List.map_append, List.take_append_drop]
theorem fre_ids (l : List Im) (k : Nat) : (fre l k).map (·.id) = l.map (·.id) := by
  unfold fre
  rw [List.map_append, List.map_map]
  show (l.take k).map (·.id) ++ (l.drop k).map (·.id) = _
  rw [← List.map_append, List.take_append_drop]
theorem ids_ix {m l : List Im} (h : m.map (·.id) = l.map (·.id)) {q : Nat} (hq : q < l.length) : (ix m q).id = (ix l q).id := by
  have hl : m.length = l.length := by have := congrArg List.length h; simpa using this
  rw [← ix_map (f := fun x : Im => x.id) hq, ← ix_map (f := fun x : Im => x.id) (by omega), h]
theorem co_in {x : Int} {L : List (List Int)} (h : 0 ≤ x ∧ x ≤ 18446744073709551615) : ∀ k, ∀ y ∈ co x L k, 0 ≤ y ∧ y ≤ 18446744073709551615
  | 0, y, hy => by cases hy
  | k + 1, y, hy => by
    have hy' : y ∈ co x L k ++ [cl x L (k + 1)] := hy
    rcases List.mem_append.1 hy' with h1 | h1
    · exact co_in h k y h1
    · rw [List.mem_singleton.1 h1]; exact cl_in h (k + 1)
theorem fits_in (id : ByteArray) (l : List Im) : ∀ y ∈ fits id l, 0 ≤ y ∧ y ≤ 18446744073709551615 := co_in (hsh_in _) _
structure Pre (l : List Im) : Prop where
  n : l.length ≤ 10
  p : ∀ x ∈ l, picO x = true
  c : ∀ x ∈ l, chI x = 0
  d : ∀ j, j < l.length → ∀ i, i < j → sEq (ix l i).id (ix l j).id = false
  r : ∀ x ∈ l, R64 x.time ∧ R64 x.purpose ∧ 0 ≤ x.dig ∧ x.dig ≤ 18446744073709551615
theorem pic_ok {x : Im} (h : picO x = true) : x.id.size ≤ 100 ∧ x.hold.length ≤ 4 ∧ ∀ s ∈ x.hold, s.size ≤ 100 ∧ sEq s CS = false := by
  unfold picO at h
  simp only [Bool.and_eq_true, Bool.not_eq_true', decide_eq_false_iff_not, List.all_eq_true] at h
  obtain ⟨⟨h1, h2⟩, h3⟩ := h
  refine ⟨by omega, by omega, fun s hs => ?_⟩
  have := h3 s hs
  unfold hO at this
  simp only [Bool.and_eq_true, Bool.not_eq_true', decide_eq_false_iff_not] at this
  exact ⟨by omega, this.2⟩
theorem Pre.len {l : List Im} (h : Pre l) {q : Nat} (hq : q < l.length) : (ix l q).hold.length ≤ 4 := (pic_ok (h.p _ (ix_mem hq))).2.1
theorem chB_zero {l : List Im} {im : Im} (h : chB l im = 0) : chI im = 0 ∧ dupI l im.id = false := by
  unfold chB at h
  by_cases h1 : (chI im != 0) = true
  · rw [if_pos h1] at h; rw [h] at h1; exact absurd h1 (by decide)
  · rw [if_neg h1] at h
    have h0 : chI im = 0 := by simpa using h1
    refine ⟨h0, ?_⟩
    cases hd : dupI l im.id with
    | false => rfl
    | true => rw [if_pos hd] at h; exact absurd h (by decide)
theorem chB_of {l : List Im} {im : Im} (h1 : chI im = 0) (h2 : dupI l im.id = false) : chB l im = 0 := by unfold chB; rw [h1, h2]; rfl
theorem pre_of {l : List Im} (hp : Wk.pic l = true) (hb : bE l = 0) (hr : ∀ x ∈ l, R64 x.time ∧ R64 x.purpose ∧ 0 ≤ x.dig ∧ x.dig ≤ 18446744073709551615) : Pre l := by
  unfold Wk.pic at hp
  simp only [Bool.and_eq_true, List.all_eq_true, decide_eq_true_eq] at hp
  have hk : ∀ k, k < l.length → chI (ix l k) = 0 ∧ dupI (l.take k) (ix l k).id = false := fun k hk => chB_zero (fe_each l.length 0 hb k (by omega) (by omega))
  refine ⟨by omega, hp.1, fun x hx => ?_, fun j hj i hi => ?_, hr⟩
  · obtain ⟨k, hk', he⟩ := List.mem_iff_getElem.1 hx
    rw [Wk.ix_eq hk'] at he
    rw [← he]; exact (hk k hk').1
  · have h := (hk j hj).2
    unfold dupI at h
    rw [List.any_eq_false] at h
    have hm : ix l i ∈ l.take j := by
      rw [← Wk.ix_eq (by omega : i < l.length)]
      exact List.mem_take_iff_getElem.2 ⟨i, by omega, rfl⟩
    have := h _ hm
    simpa using this
theorem find_at {l m : List Im} (hP : Pre l) (h : m.map (·.id) = l.map (·.id)) {k : Nat} (hk : k < l.length) : Wr.ifind m (ix l k).id = (k : Int) := by
  have hl : m.length = l.length := by have := congrArg List.length h; simpa using this
  refine Wr.idx_at (by omega) (fun q hq => ?_) ?_
  · show sEq (ix m q).id (ix l k).id = false
    rw [ids_ix h (by omega)]; exact hP.d k hk q hq
  · show sEq (ix m k).id (ix l k).id = true
    rw [ids_ix h hk]; exact sEq_self _
theorem nameCS : isN CS = true := by kernel_rfl
theorem hold_go {l : List Im} (hP : Pre l) {k : Nat} (hk : k < l.length) : hld (hel l k) (ix l k).id CS = (hel l (k + 1), 0) := by
  have hf := find_at hP (hel_ids l k) hk
  have hn : ((k : Int)).toNat = k := by omega
  have hh : Wr.has CS (ix l k).hold = false := by
    unfold Wr.has
    rw [Wr.idx_no (fun q hq => by rw [sEq_flip]; exact ((pic_ok (hP.p _ (ix_mem hk))).2.2 _ (ix_mem hq)).2)]
    rfl
  have h4 := hP.len hk
  unfold hld
  rw [nameCS, hf, hn, hel_ix hk, hh, hel_set hk, if_neg (by decide), if_neg (by simp), if_neg (by simp), if_neg (by simp; omega)]
theorem rel_go {l : List Im} (hP : Pre l) {k : Nat} (hk : k < l.length) : rel (fre l k) (ix l k).id CS = (fre l (k + 1), 0) := by
  have hf := find_at hP (fre_ids l k) hk
  have hn : ((k : Int)).toNat = k := by omega
  have hi : Wr.idx (fun x => sEq CS x) (ad (ix l k)).hold = ((ix l k).hold.length : Int) := by
    show Wr.idx (fun x => sEq CS x) ((ix l k).hold ++ [CS]) = _
    refine Wr.idx_at (by simp) (fun q hq => ?_) ?_
    · rw [ix_app hq, sEq_flip]; exact ((pic_ok (hP.p _ (ix_mem hk))).2.2 _ (ix_mem hq)).2
    · rw [ix_snoc]; exact sEq_self _
  have hd : delR (ad (ix l k)) (ix l k).hold.length = ix l k := by
    show ({ ix l k with hold := ((ix l k).hold ++ [CS]).take (ix l k).hold.length ++ ((ix l k).hold ++ [CS]).drop ((ix l k).hold.length + 1) } : Im) = ix l k
    rw [List.take_left, List.drop_of_length_le (by simp), List.append_nil]
  unfold rel
  rw [hf, hn, fre_ix hk, hi, if_neg (by simp), if_neg (by simp)]
  rw [show (((ix l k).hold.length : Int)).toNat = (ix l k).hold.length by omega, hd, fre_set hk]
theorem Pre.held {l : List Im} (hP : Pre l) (k : Nat) : ∀ x ∈ hel l k, x.id.size ≤ 100 ∧ x.hold.length ≤ 5 ∧ (∀ s ∈ x.hold, s.size ≤ 100) ∧ R64 x.time ∧ R64 x.purpose ∧ 0 ≤ x.dig ∧ x.dig ≤ 18446744073709551615 := by
  intro x hx
  unfold hel at hx
  rcases List.mem_append.1 hx with h | h
  · obtain ⟨y, hy, rfl⟩ := List.mem_map.1 h
    have hy := List.mem_of_mem_take hy
    obtain ⟨a, b, c⟩ := pic_ok (hP.p y hy)
    refine ⟨a, by show (y.hold ++ [CS]).length ≤ 5; simp; omega, fun s hs => ?_, hP.r y hy⟩
    have hs' : s ∈ y.hold ++ [CS] := hs
    rcases List.mem_append.1 hs' with h | h
    · exact (c s h).1
    · rw [List.mem_singleton.1 h]; decide
  · have hy := List.mem_of_mem_drop h
    obtain ⟨a, b, c⟩ := pic_ok (hP.p x hy)
    exact ⟨a, by omega, fun s hs => (c s hs).1, hP.r x hy⟩
theorem Pre.freed {l : List Im} (hP : Pre l) (k : Nat) : ∀ q, q < (fre l k).length → (ix (fre l k) q).hold.length ≤ 1000 := by
  intro q hq
  have hx := ix_mem hq
  unfold fre at hx
  rcases List.mem_append.1 hx with h | h
  · have := (pic_ok (hP.p _ (List.mem_of_mem_take h))).2.1
    unfold fre; omega
  · obtain ⟨y, hy, he⟩ := List.mem_map.1 h
    have := (pic_ok (hP.p y (List.mem_of_mem_drop hy))).2.1
    unfold fre; rw [← he]; show (y.hold ++ [CS]).length ≤ 1000; simp; omega
theorem Pre.okd {l : List Im} (hP : Pre l) (k : Nat) : ∀ x ∈ hel l k, Okd x := fun x hx => by
  obtain ⟨a, b, c, d, e, f⟩ := hP.held k x hx
  exact ⟨by omega, by omega, fun s hs => by have := c s hs; omega, d, e, f⟩
theorem Pre.bE {l : List Im} (hP : Pre l) : Wk.bE (l.map ad) = 0 := by
  refine fe_nil _ _ (fun j _ hj => ?_)
  rw [List.length_map] at hj
  have hj : j < l.length := by omega
  unfold bk
  rw [ix_map hj, ← List.map_take]
  refine chB_of ?_ ?_
  · have h := hP.c _ (ix_mem hj)
    have h4 := hP.len hj
    unfold chI at h ⊢
    show (if (!(isF (ix l j).id)) = true then (5 : Int) else if (!(Wk.isT (ix l j).time)) = true then 12 else if (decide ((ix l j).purpose < 1) || decide (4 < (ix l j).purpose)) = true then 1 else if (decide ((1024 : Int) < (((ix l j).hold ++ [CS]).length : Int))) = true then 3 else 0) = 0
    rw [if_neg (c := (decide ((1024 : Int) < (((ix l j).hold ++ [CS]).length : Int))) = true) (by simp; omega)]
    rw [if_neg (c := (decide ((1024 : Int) < (((ix l j).hold).length : Int))) = true) (by simp; omega)] at h
    exact h
  · unfold dupI
    rw [List.any_eq_false]
    intro x hx
    obtain ⟨y, hy, rfl⟩ := List.mem_map.1 hx
    obtain ⟨i, hi, he⟩ := List.mem_take_iff_getElem.1 hy
    rw [Wk.ix_eq (by omega)] at he
    show ¬ sEq y.id (ix l j).id = true
    rw [← he, hP.d j hj i (by omega)]; simp
abbrev V1 : ByteArray := ⟨#[118, 49]⟩
def hpk (l : List Im) : Pk := ⟨V1, l.map ad, fits V1 (l.map ad)⟩
theorem nameV1 : isF V1 = true := by kernel_rfl
theorem bld_zero {id : ByteArray} {l : List Im} (h : isF id = true) (h0 : (bld id l).2 = 0) : Wk.bE l = 0 := by
  unfold bld at h0
  rw [if_neg (by rw [h]; decide)] at h0
  split at h0
  · exact absurd h0 (by decide)
  · split at h0
    · rename_i hh; exact absurd h0 hh
    · rename_i hh; exact Decidable.not_not.1 hh
theorem bld_held {l : List Im} (hP : Pre l) : bld V1 (l.map ad) = (hpk l, 0) := bld_ok nameV1 (decide_eq_false (by have := hP.n; rw [List.length_map]; omega)) hP.bE
theorem okp_held {l : List Im} (hP : Pre l) : Okp (hpk l) := by
  have hn := hP.n
  have ho : ∀ x ∈ l.map ad, Okd x := by rw [← hel_all rfl]; exact hP.okd _
  refine ⟨by show V1.size ≤ 1000; decide, by show (l.map ad).length ≤ 2000; simp; omega, by show (fits V1 (l.map ad)).length ≤ 100000; rw [fits_len]; simp; omega, ho, ?_⟩
  exact fits_in _ _
theorem purge_zero {l : List Kp} {m : List Im} {c : List Int} {t : Int} (h : (purge l m c t).2 = 0) : ck l = 0 ∧ ((c.length : Int) != (m.length : Int)) = false ∧ Wr.isT t = true ∧ Wr.fe (er l m c t) 0 m.length = 0 := by
  unfold purge at h
  split at h
  · rename_i h1
    have h : ck l = 0 := h
    rw [h] at h1; exact absurd h1 (by decide)
  · rename_i h1
    have h1 : ck l = 0 := by simpa using h1
    split at h
    · exact absurd h (by decide)
    · rename_i h2
      split at h
      · exact absurd h (by decide)
      · rename_i h3
        split at h
        · rename_i h4; exact ⟨h1, by simpa using h2, by simpa using h3, h4⟩
        · rename_i h4; exact absurd h h4
theorem unt_held {l : List Kp} {im : Im} {c : Int} (h0 : ck l = 0) (h : (unt l im c).2 = 0 ∨ (unt l im c).2 = 11 ∨ (unt l im c).2 = 32) : unt l (ad im) c = (0, 32) := by
  have e : unt l (ad im) c = (if (ck l != 0) = true then (0, ck l) else if (!Wr.isT im.time || (!Wr.isT c && c != -1)) = true then (0, 12) else
  match rule l im.purpose with
  | none => (0, 10)
  | some q => if (decide ((0 : Int) < ((im.hold ++ [CS]).length : Int))) = true then (0, 32) else if (c == -1) = true then (0, 11) else (max (im.time + q.seconds) (c + q.least), 0)) := rfl
  rw [e]
  unfold unt at h
  have hz : ¬ (ck l != 0) = true := by rw [h0]; decide
  rw [if_neg hz] at h ⊢
  by_cases h2 : (!Wr.isT im.time || (!Wr.isT c && c != -1)) = true
  · rw [if_pos h2] at h; exfalso; revert h; decide
  · rw [if_neg h2] at h ⊢
    cases hr : rule l im.purpose with
    | none =>
      rw [hr] at h
      have h : (10 : Int) = 0 ∨ (10 : Int) = 11 ∨ (10 : Int) = 32 := h
      omega
    | some q => show (if (decide ((0 : Int) < ((im.hold ++ [CS]).length : Int))) = true then ((0 : Int), (32 : Int)) else _) = _; rw [if_pos (by simp <;> omega)]
theorem purge_held {l : List Kp} {m : List Im} {c : List Int} {t : Int} (h : (purge l m c t).2 = 0) : purge l (m.map ad) c t = ((m.map ad, []), 0) := by
  obtain ⟨h1, h2, h3, h4⟩ := purge_zero h
  have hu : ∀ k, k < m.length → kp l (m.map ad) c t k = true := by
    intro k hk
    have he : er l m c t k = 0 := er_each _ _ h4 k (by omega) (by omega)
    have hq : (unt l (ix m k) (ix c k)).2 = 0 ∨ (unt l (ix m k) (ix c k)).2 = 11 ∨ (unt l (ix m k) (ix c k)).2 = 32 := by
      unfold er at he
      by_cases hk' : kp l m c t k = true
      · unfold kp at hk'
        simp only [Bool.or_eq_true, Bool.and_eq_true, beq_iff_eq] at hk'
        omega
      · rw [if_neg hk'] at he; exact Or.inl he
    unfold kp
    rw [ix_map hk, unt_held h1 hq]
    rfl
  have hA : ∀ k, k ≤ m.length → kA l (m.map ad) c t k = (m.map ad).take k ∧ kB l (m.map ad) c t k = [] := by
    intro k
    induction k with
    | zero => intro _; exact ⟨by simp [kA], rfl⟩
    | succ k ih =>
      intro hk
      obtain ⟨i1, i2⟩ := ih (by omega)
      refine ⟨?_, ?_⟩
      · show (if kp l (m.map ad) c t k = true then kA l (m.map ad) c t k ++ [ix (m.map ad) k] else kA l (m.map ad) c t k) = _
        rw [if_pos (hu k (by omega)), i1, take_ix (by rw [List.length_map]; omega)]
      · show (if kp l (m.map ad) c t k = true then kB l (m.map ad) c t k else kB l (m.map ad) c t k ++ [(ix (m.map ad) k).id]) = _
        rw [if_pos (hu k (by omega)), i2]
  have hf : Wr.fe (er l (m.map ad) c t) 0 (m.map ad).length = 0 := er_nil _ _ (fun j _ hj => by
    unfold er
    rw [if_pos (hu j (by rw [List.length_map] at hj; omega))])
  obtain ⟨a, b⟩ := hA m.length (by omega)
  unfold purge
  rw [h1, List.length_map, h2, h3, if_neg (by decide), if_neg (by decide), if_neg (by decide)]
  rw [List.length_map] at hf
  rw [if_pos hf, a, b, List.take_of_length_le (by simp)]
theorem kB_len {l : List Kp} {m : List Im} {c : List Int} {t : Int} (k : Nat) : (kB l m c t k).length ≤ k := by
  induction k with
  | zero => simp [kB]
  | succ k ih => unfold kB; split <;> (try simp) <;> omega
theorem purge_len (l : List Kp) (m : List Im) (c : List Int) (t : Int) : (purge l m c t).1.1.length ≤ m.length ∧ (purge l m c t).1.2.length ≤ m.length := by
  unfold purge
  split
  · simp
  · split
    · simp
    · split
      · simp
      · split
        · exact ⟨kA_len _, kB_len _⟩
        · simp
theorem hold8 {l : List Im} (hP : Pre l) {k : Nat} (hk : k < l.length) : Ctr Try.prog 8 [.sl 5 (List.map eIm (hel l k)), .fl (.string (ix l k).id), .fl (.string CS)] (.tu [.sl 5 (List.map eIm (hel l (k + 1))), .fl (.int .i64 0)]) := by
  have hn := hP.n
  have := ret_hold (hel l k) (ix l k).id CS (by rw [hel_len]; omega) (fun q hq => by have := (hP.held k _ (ix_mem hq)).2.1; omega)
  rw [hold_go hP hk] at this
  exact this
theorem rel10 {l : List Im} (hP : Pre l) {k : Nat} (hk : k < l.length) : Ctr Try.prog 10 [.sl 5 (List.map eIm (fre l k)), .fl (.string (ix l k).id), .fl (.string CS)] (.tu [.sl 5 (List.map eIm (fre l (k + 1))), .fl (.int .i64 0)]) := by
  have hn := hP.n
  have := ret_rel (fre l k) (ix l k).id CS (by rw [fre_len]; omega) (hP.freed k)
  rw [rel_go hP hk] at this
  exact this
theorem build6 {l : List Im} (hP : Pre l) {k : Nat} (hk : k = l.length) : Ctr Try.prog 6 [.fl (.string V1), .sl 5 (List.map eIm (hel l k))] (.tu [.ag (ePk (hpk l)), .fl (.int .i64 0)]) := by
  have hn := hP.n
  have := build15 V1 (hel l k) (by decide) (by rw [hel_len]; omega) (hP.okd k)
  rw [hel_all hk, bld_held hP] at this
  rw [hel_all hk]
  exact this
theorem ver9 {l : List Im} (hP : Pre l) : Ctr Try.prog 9 [.ag (ePk (hpk l))] (.d (.fl (.bool true))) := by
  have := verify20 (hpk l) (okp_held hP)
  rw [show lEq (hpk l).chain (fits (hpk l).case (hpk l).images) = true from lEq_refl _] at this
  exact this
theorem purgeH {l : List Kp} {m : List Im} {c : List Int} {t : Int} (hP : Pre m) (h : (purge l m c t).2 = 0) {k : Nat} (hk : k = m.length) : Ctr Try.prog 7 [.sl 3 (List.map eKp l), .sl 5 (List.map eIm (hel m k)), .sl 1 (List.map (rI .i64) c), .fl (.int .i64 t)] (.tu [.sl 5 (List.map eIm (hel m k)), .sl 1 (List.map rS ([] : List ByteArray)), .fl (.int .i64 0)]) := by
  have hn := hP.n
  have := ret_purge l (hel m k) c t (by rw [hel_len]; omega) (fun q hq => by have := (hP.held k _ (ix_mem hq)).2.1; omega)
  rw [hel_all hk, purge_held h] at this
  rw [hel_all hk]
  exact this
theorem purgeF {l : List Kp} {m : List Im} {c : List Int} {t : Int} (hP : Pre m) {k : Nat} (hk : k = m.length) : Ctr Try.prog 7 [.sl 3 (List.map eKp l), .sl 5 (List.map eIm (fre m k)), .sl 1 (List.map (rI .i64) c), .fl (.int .i64 t)] (.tu [.sl 5 (List.map eIm (purge l m c t).1.1), .sl 1 (List.map rS (purge l m c t).1.2), .fl (.int .i64 (purge l m c t).2)]) := by
  have hn := hP.n
  have := ret_purge l (fre m k) c t (by rw [fre_len]; omega) (hP.freed k)
  rw [fre_all hk] at this
  rw [fre_all hk]
  exact this

end Go.Proofs.Ytaecdkhpidligaa.Wk
