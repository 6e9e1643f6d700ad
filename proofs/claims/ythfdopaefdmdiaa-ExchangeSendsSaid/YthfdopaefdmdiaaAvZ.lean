import Derived.Test.YthfdopaefdmdiaaAvF
import Derived.SizedLaws
import Derived.Deep.Slices
set_option linter.unusedVariables false
set_option linter.unusedSimpArgs false
namespace Go.Proofs.Ythfdopaefdmdiaa.Av
open Go Go.RowKit Go.ChangeShapes Go.WideShapes Go.Deep
def OpensZ (P : Program) (t : TypeId) {α : Type} (f : α → List DV) (ok : α → Prop) : Prop :=
  ∀ (H : Type) (enc : TypeId × Value → H) (w : World) (base : Nat) (spare : Nat → Bool) (held : Bool) (fuel : Nat) (cs : List Value) (x : DataW H × List MemPlace),
    DataW.trod enc P w base spare held fuel t cs = some x → (∀ n ∈ x.1.weights P t, n ≤ reachBytes) → ∃ a, Rc w (UA w) cs (f a) ∧ ok a
section
variable {P : Program} {t : TypeId}
theorem z_of {α : Type} {f : α → List DV} {ok : α → Prop} (h : Opens P t f ok) : OpensZ P t f ok := fun H enc w base spare held fuel cs x hx _ => h H enc w base spare held fuel cs x hx
theorem opensZ_str (hu : P.underlying t = some .string) : OpensZ P t rS (fun s => s.size ≤ 140737488351232) := by
  intro H enc w base spare held fuel cs x h hz
  obtain ⟨n, rfl, rfl, hw⟩ := DataW.trod_string hu h
  refine ⟨n, rc_one (.fl _) rfl, ?_⟩
  have := hz n.data.toList.length (by simp [DataW.weights])
  unfold reachBytes at this
  have e : n.data.toList.length = n.size := by simp
  omega
theorem z_all {H : Type} {e : TypeId} : ∀ {ds : List (DataW H)} {d : DataW H}, d ∈ ds → ∀ n ∈ d.weights P e, n ∈ DataW.weightsAll P e ds
  | d0 :: ds, d, hd, n, hn => by
    simp only [DataW.weightsAll, List.mem_append]
    rcases List.mem_cons.1 hd with rfl | h
    · exact Or.inl hn
    · exact Or.inr (z_all h n hn)
  | [], _, hd, _, _ => by cases hd
theorem z_elem {H : Type} {e : TypeId} (hu : P.underlying t = some (.slice e)) {n : Nat} {D : Nat → DataW H} {r : List (DataW H)} {i : Nat} (hi : i < n) {q : Nat} (hq : q ∈ (D i).weights P e) : q ∈ (DataW.slice ((List.range n).map D) r).weights P t := by
  unfold DataW.weights
  rw [hu]
  simp only [List.mem_cons, List.mem_append]
  exact Or.inr (Or.inl (z_all (List.mem_map.2 ⟨i, List.mem_range.2 hi, rfl⟩) q hq))
theorem z_field {H : Type} {fs : Array Field} (hu : P.underlying t = some (.struct fs)) {ys : List (DataW H × List MemPlace)} {i : Nat} {f : Field} (hf : fs[i]? = some f) {y : DataW H × List MemPlace} (hy : ys[i]? = some y) {q : Nat} (hq : q ∈ y.1.weights P f.type) : q ∈ (DataW.agg (ys.map (·.1))).weights P t := by
  unfold DataW.weights
  rw [hu]
  exact DataW.weights_mem_each (j := i) (t := f.type) (d := y.1) (by simp [hf]) (by simp [hy]) q hq
theorem field_ofZ {α : Type} {A : Option α} {ys : List α} {i : Nat} (h : A = ys[i]?) (hi : i < ys.length) : ∃ y, A = some y ∧ ys[i]? = some y := ⟨_, h.trans (List.getElem?_eq_getElem hi), List.getElem?_eq_getElem hi⟩
theorem opensZ_len {z : Nat} {α : Type} {f : α → List DV} {ok : List α → Prop} (h : OpensZ P t (rL z f) ok) : OpensZ P t (rL z f) (fun l => l.length ≤ 9223372036854775807 ∧ ok l) := by
  intro H enc w base spare held fuel cs x hx hz9
  obtain ⟨a, h1, h2⟩ := h H enc w base spare held fuel cs x hx hz9
  refine ⟨a, h1, ?_, h2⟩
  have hl := h1.1.1
  have hc : ∃ u, cs = [u] := by
    match cs, hl with
    | [u], _ => exact ⟨u, rfl⟩
  obtain ⟨u, rfl⟩ := hc
  have := rd_len (h1.1.2 0 u _ rfl rfl)
  simpa using this
theorem opensZ_lenB {e : TypeId} {B z : Nat} {α : Type} {f : α → List DV} {ok : List α → Prop} (hu : P.underlying t = some (.slice e)) (hB : P.bytesOf e = B) (h : OpensZ P t (rL z f) ok) : OpensZ P t (rL z f) (fun l => l.length * B ≤ 140737488351232 ∧ ok l) := by
  intro H enc w base spare held fuel cs x hx hz9
  obtain ⟨a, h1, h2⟩ := h H enc w base spare held fuel cs x hx hz9
  refine ⟨a, h1, ?_, h2⟩
  rcases open_slice hu hx with ⟨rfl, _⟩ | ⟨ad, n, cap, m, k, D, Pl, rfl, hb, hnc, hm, hmm, rfl, hi⟩
  · have hr : Rd w (UA w) (.slice none 0 0) (.sl z (a.map f)) := h1.1.2 0 _ _ rfl rfl
    have : a.map f = [] := by
      generalize a.map f = rows at hr
      cases hr; rfl
    have : a = [] := by simpa using this
    rw [this]; simp
  · have hr : Rd w (UA w) (.slice (some ad) n cap) (.sl z (a.map f)) := h1.1.2 0 _ _ rfl rfl
    have hn : a.length = n := by
      have : (a.map f).length = n := by
        generalize a.map f = rows at hr
        cases hr with
        | sn => rfl
        | sl b off n c z rows u hn => exact hn
      simpa using this
    have hnm : n ≤ m := by rw [hmm]; split <;> omega
    rw [hn]
    unfold reachBytes at hz9
    have hw : n * P.bytesOf e ≤ 140737488351232 := by
      have hle : ∀ q, n * P.bytesOf e ≤ (n + q) * P.bytesOf e := fun q => Nat.mul_le_mul_right _ (by omega)
      have h0 := hz9 _ (by unfold DataW.weights; rw [hu]; exact List.mem_cons_self ..)
      simp only [List.length_map, List.length_range] at h0
      exact Nat.le_trans (hle _) h0
    rw [hB] at hw; exact hw
theorem opensZ_slice {e : TypeId} {z : Nat} {α : Type} [Inhabited α] {f : α → List DV} {ok : α → Prop} (hu : P.underlying t = some (.slice e)) (hz : P.cellsOf e = z) (hz0 : 0 < z) (hE : OpensZ P e f ok) (hl : ∀ a, (f a).length = z) : OpensZ P t (rL z f) (fun l => ∀ a ∈ l, ok a) := by
  intro H enc w base spare held fuel cs x h hz9
  rcases open_slice hu h with ⟨rfl, _⟩ | ⟨a, n, cap, m, k, D, Pl, rfl, hb, hnc, hm, hmm, rfl, hi⟩
  · exact ⟨[], rc_one (.sn none 0 z) rfl, fun a h => by cases h⟩
  · have hnm : n ≤ m := by rw [hmm]; split <;> omega
    unfold maxLen at hm
    obtain ⟨R, hR⟩ := choose_lt (α := α) (n := n) (p := fun i r => ∃ cs', w.cells? base (a.add (i * z)) z = some cs' ∧ Rc w (UA w) cs' (f r) ∧ ok r) (fun i hin => by
      obtain ⟨cs', hc, ht⟩ := hi i (by omega)
      obtain ⟨r, h1, h2⟩ := hE _ _ _ _ _ _ _ _ _ ht (fun q hq => hz9 q (z_elem hu hin hq))
      rw [hz] at hc
      exact ⟨r, cs', hc, h1, h2⟩)
    refine ⟨(List.range n).map R, rc_one ?_ rfl, fun x hx => ?_⟩
    · rcases Nat.eq_zero_or_pos n with h0 | h0
      · subst h0; exact .sn _ _ _
      · obtain ⟨b, off, spot⟩ := a
        have hspot : spot = none := by
          obtain ⟨cs', hc, hr, _⟩ := hR 0 h0
          obtain ⟨_, hcl, hat⟩ := World.cells?_some hc
          have := hat 0 hz0
          rw [add_add, List.getElem?_eq_getElem (by omega)] at this
          simpa [Addr.add] using World.cell?_spot this
        subst hspot
        have ha : ∀ j, (⟨b, off, none⟩ : Addr).add j = ⟨b, off + j, none⟩ := fun j => by
          unfold Addr.add
          by_cases hj : j = 0 <;> simp [hj]
        have key : ∀ i j x, cellAt (((List.range n).map R).map f) i j = some x → ∃ u, w.cell? ⟨b, off + i * z + j, none⟩ = some u ∧ u.oneCell' = true ∧ Rd w (UA w) u x := by
          intro i j x hx
          unfold cellAt at hx
          rcases Nat.lt_or_ge i n with hin | hin
          · obtain ⟨cs', hc, hr, _⟩ := hR i hin
            obtain ⟨_, hcl, hat⟩ := World.cells?_some hc
            rw [List.map_map, List.getElem?_map, List.getElem?_range hin] at hx
            have hx' : (f (R i))[j]? = some x := hx
            have hjl : j < z := by have := (List.getElem?_eq_some_iff.1 hx').1; rw [hl] at this; exact this
            have h3 := hat j hjl
            rw [add_add, ha, List.getElem?_eq_getElem (by omega), ← Nat.add_assoc] at h3
            exact ⟨_, h3, hr.2 _ (List.getElem_mem _), hr.1.2 j _ x (List.getElem?_eq_getElem (by omega)) hx'⟩
          · rw [List.getElem?_eq_none (by simpa using hin)] at hx; cases hx
        refine .sl b off n cap z _ (fun i j => (w.cell? ⟨b, off + i * z + j, none⟩).getD undef) (by simp) (fun r hr => ?_) ⟨by omega, hnc⟩ (fun i j x hx => ?_) (fun i j x hx => ?_)
        · obtain ⟨y, _, rfl⟩ := List.mem_map.1 hr
          exact hl y
        · obtain ⟨u, h1, h2, h3⟩ := key i j x hx
          rw [h1]
          exact ⟨rfl, ua_lt h1, h2⟩
        · obtain ⟨u, h1, h2, h3⟩ := key i j x hx
          rw [h1]
          exact h3
    · obtain ⟨i, hi', rfl⟩ := List.mem_map.1 hx
      obtain ⟨_, _, _, h2⟩ := hR i (List.mem_range.1 hi')
      exact h2
end
section
variable {P : Program} {t : TypeId} {H : Type} {enc : TypeId × Value → H} {w : World} {base : Nat} {spare : Nat → Bool} {held : Bool}
theorem arg_sliceZ {e : TypeId} {r : Reach} {b0 : Nat} {v : Value} {d : DataW H} {p : List MemPlace} {z : Nat} {α : Type} {f : α → List DV} {ok : List α → Prop} (hu : P.underlying t = some (.slice e)) (hO : OpensZ P t (rL z f) ok) (hv : Value.okWide P w r b0 t v) (h : DataW.Trod enc P w base spare held t v d p) (hz : ∀ n ∈ d.weights P t, n ≤ reachBytes) : ∃ l, Rd w (UA w) v (.sl z (l.map f)) ∧ ok l := by
  obtain ⟨A, n, c, rfl⟩ := okWide_slice hu hv
  obtain ⟨fuel, hf⟩ := h
  obtain ⟨l, h1, h2⟩ := hO _ _ _ _ _ _ _ _ _ hf hz
  exact ⟨l, h1.1.2 0 _ _ rfl rfl, h2⟩
theorem arg_structZ {fs : Array Field} {r : Reach} {b0 : Nat} {v : Value} {d : DataW H} {p : List MemPlace} {α : Type} {f : α → List DV} {ok : α → Prop} (hu : P.underlying t = some (.struct fs)) (hO : OpensZ P t f ok) (hv : Value.okWide P w r b0 t v) (h : DataW.Trod enc P w base spare held t v d p) (hz : ∀ n ∈ d.weights P t, n ≤ reachBytes) : ∃ x, Rd w (UA w) v (.ag (f x)) ∧ ok x := by
  obtain ⟨cs, rfl, _⟩ := okWide_struct hu hv
  obtain ⟨fuel, hf⟩ := h
  obtain ⟨l, h1, h2⟩ := hO _ _ _ _ _ _ _ _ _ hf hz
  exact ⟨l, .ag cs _ (by have := h1.1.1; simpa [Value.cells] using this) (fun u hu => h1.2 u hu) (fun j u x h3 h4 => h1.1.2 j u x h3 h4), h2⟩
theorem z_arg {ts : List TypeId} {ds : List (DataW H)} (h : (DataW.weightsEach P ts ds).all (· ≤ reachBytes) = true) {j : Nat} {d : DataW H} (ht : ts[j]? = some t) (hd : ds[j]? = some d) : ∀ n ∈ d.weights P t, n ≤ reachBytes := fun n hn => by
  simpa using List.all_eq_true.1 h n (DataW.weights_mem_each ht hd n hn)
end
end Go.Proofs.Ythfdopaefdmdiaa.Av
