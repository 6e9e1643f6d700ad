/- What an argument reads as, in data. Conditions: it reads as data. -/
import Derived.Test.YteplcjhnmmpicaaAv20
import Derived.Deep.Slices
import Derived.Deep.Fields
import Derived.ChangeSame
import Derived.OpenShut
set_option linter.unusedSimpArgs false
set_option linter.unusedVariables false
namespace Go.Proofs.Yteplcjhnmmpicaa.Av
open Go Go.RowKit Go.ChangeShapes Go.WideShapes Go.Deep
/-- every cell that was there may be read -/
def UA (w : World) (b : Nat) : Nat := match w.heap[b]? with
  | some (.cells vs _ _) => vs.size
  | _ => 0
theorem ua_lt {w : World} {b o : Nat} {u : Value} (h : w.cell? ⟨b, o, none⟩ = some u) : o < UA w b := by
  unfold World.cell? at h
  unfold UA
  split at h
  · rename_i vs _ _ hb
    simp only at h hb
    rw [hb]
    simp at h
    exact (Array.getElem?_eq_some_iff.1 h).1
  · cases h
def Opens (P : Program) (t : TypeId) {α : Type} (f : α → List DV) (ok : α → Prop) : Prop :=
  ∀ (H : Type) (enc : TypeId × Value → H) (w : World) (base : Nat) (spare : Nat → Bool) (held : Bool) (fuel : Nat) (cs : List Value) (x : DataW H × List MemPlace),
    DataW.trod enc P w base spare held fuel t cs = some x → ∃ a, Rc w (UA w) cs (f a) ∧ ok a
section
variable {P : Program} {t : TypeId}
theorem rc_one {w : World} {U : Nat → Nat} {v : Value} {d : DV} (h : Rd w U v d) (h1 : v.oneCell' = true) : Rc w U [v] [d] := ⟨Rds.cons h Rds.nil, fun u hu => by simp at hu; subst hu; exact h1⟩
theorem opens_int {k : IntKind} (hu : P.underlying t = some (.int k)) : Opens P t (rI k) (fun n => (Lit.int k n).wf = true) := by
  intro H enc w base spare held fuel cs x h
  obtain ⟨n, rfl, _, hw⟩ := DataW.trod_int hu h
  exact ⟨n, rc_one (.fl _) rfl, hw⟩
theorem opens_bool (hu : P.underlying t = some .bool) : Opens P t rB (fun _ => True) := by
  intro H enc w base spare held fuel cs x h
  obtain ⟨n, rfl, _⟩ := DataW.trod_bool hu h
  exact ⟨n, rc_one (.fl _) rfl, trivial⟩
theorem opens_str (hu : P.underlying t = some .string) : Opens P t rS (fun s => s.size ≤ maxLen) := by
  intro H enc w base spare held fuel cs x h
  obtain ⟨n, rfl, _, hw⟩ := DataW.trod_string hu h
  exact ⟨n, rc_one (.fl _) rfl, hw⟩
theorem opens_slice {e : TypeId} {z : Nat} {α : Type} [Inhabited α] {f : α → List DV} {ok : α → Prop} (hu : P.underlying t = some (.slice e)) (hz : P.cellsOf e = z) (hz0 : 0 < z) (hE : Opens P e f ok) (hl : ∀ a, (f a).length = z) : Opens P t (rL z f) (fun l => ∀ a ∈ l, ok a) := by
  intro H enc w base spare held fuel cs x h
  rcases open_slice hu h with ⟨rfl, _⟩ | ⟨a, n, cap, m, k, D, Pl, rfl, hb, hnc, hm, hmm, _, hi⟩
  · exact ⟨[], rc_one (.sn none 0 z) rfl, fun a h => by cases h⟩
  · have hnm : n ≤ m := by rw [hmm]; split <;> omega
    unfold maxLen at hm
    obtain ⟨R, hR⟩ := choose_lt (α := α) (n := n) (p := fun i r => ∃ cs', w.cells? base (a.add (i * z)) z = some cs' ∧ Rc w (UA w) cs' (f r) ∧ ok r) (fun i hin => by
      obtain ⟨cs', hc, ht⟩ := hi i (by omega)
      obtain ⟨r, h1, h2⟩ := hE _ _ _ _ _ _ _ _ _ ht
      rw [hz] at hc
      exact ⟨r, cs', hc, h1, h2⟩)
    refine ⟨(List.range n).map R, rc_one ?_ rfl, fun x hx => ?_⟩
    · rcases Nat.eq_zero_or_pos n with h0 | h0
      · subst h0; exact .sn _ _ _
      · obtain ⟨b, off, spot⟩ := a
        have hspot : spot = none := by
          obtain ⟨cs', hc, hr, _⟩ := hR 0 h0
          obtain ⟨_, hcl, hat⟩ := World.cells?_some hc
          have := hat 0 hz0
          rw [add_add, List.getElem?_eq_getElem (by omega)] at this
          simpa [Addr.add] using World.cell?_spot this
        subst hspot
        have ha : ∀ j, (⟨b, off, none⟩ : Addr).add j = ⟨b, off + j, none⟩ := fun j => by
          unfold Addr.add
          by_cases hj : j = 0 <;> simp [hj]
        have key : ∀ i j x, cellAt (((List.range n).map R).map f) i j = some x → ∃ u, w.cell? ⟨b, off + i * z + j, none⟩ = some u ∧ u.oneCell' = true ∧ Rd w (UA w) u x := by
          intro i j x hx
          unfold cellAt at hx
          rcases Nat.lt_or_ge i n with hin | hin
          · obtain ⟨cs', hc, hr, _⟩ := hR i hin
            obtain ⟨_, hcl, hat⟩ := World.cells?_some hc
            rw [List.map_map, List.getElem?_map, List.getElem?_range hin] at hx
            have hx' : (f (R i))[j]? = some x := hx
            have hjl : j < z := by have := (List.getElem?_eq_some_iff.1 hx').1; rw [hl] at this; exact this
            have h3 := hat j hjl
            rw [add_add, ha, List.getElem?_eq_getElem (by omega), ← Nat.add_assoc] at h3
            exact ⟨_, h3, hr.2 _ (List.getElem_mem _), hr.1.2 j _ x (List.getElem?_eq_getElem (by omega)) hx'⟩
          · rw [List.getElem?_eq_none (by simpa using hin)] at hx; cases hx
        refine .sl b off n cap z _ (fun i j => (w.cell? ⟨b, off + i * z + j, none⟩).getD undef) (by simp) (fun r hr => ?_) ⟨by omega, hnc⟩ (fun i j x hx => ?_) (fun i j x hx => ?_)
        · obtain ⟨y, _, rfl⟩ := List.mem_map.1 hr
          exact hl y
        · obtain ⟨u, h1, h2, h3⟩ := key i j x hx
          rw [h1]
          exact ⟨rfl, ua_lt h1, h2⟩
        · obtain ⟨u, h1, h2, h3⟩ := key i j x hx
          rw [h1]
          exact h3
    · obtain ⟨i, hi', rfl⟩ := List.mem_map.1 hx
      obtain ⟨_, _, _, h2⟩ := hR i (List.mem_range.1 hi')
      exact h2
theorem rc_step {w : World} {U : Nat → Nat} {cs : List Value} {d1 d2 : List DV} {o s : Nat} (h1 : Rc w U ((cs.drop o).take s) d1) (h2 : Rc w U (cs.drop (o + s)) d2) : Rc w U (cs.drop o) (d1 ++ d2) := by
  have := h1.append h2
  rwa [← List.drop_drop, List.take_append_drop] at this
theorem rc_end {w : World} {U : Nat → Nat} {cs : List Value} {n : Nat} (h : cs.length = n) : Rc w U (cs.drop n) [] := by
  rw [List.drop_eq_nil_of_le (by omega)]
  exact ⟨Rds.nil, fun u hu => by cases hu⟩
theorem field_of {α : Type} {A : Option α} {ys : List α} {i : Nat} (h : A = ys[i]?) (hi : i < ys.length) : ∃ y, A = some y := ⟨_, h.trans (List.getElem?_eq_getElem hi)⟩
section
variable {H : Type} {enc : TypeId × Value → H} {w : World} {base : Nat} {spare : Nat → Bool} {held : Bool}
theorem arg_slice {e : TypeId} {r : Reach} {b0 : Nat} {v : Value} {d : DataW H} {p : List MemPlace} {z : Nat} {α : Type} {f : α → List DV} {ok : List α → Prop} (hu : P.underlying t = some (.slice e)) (hO : Opens P t (rL z f) ok) (hv : Value.okWide P w r b0 t v) (h : DataW.Trod enc P w base spare held t v d p) : ∃ l, Rd w (UA w) v (.sl z (l.map f)) ∧ ok l := by
  obtain ⟨A, n, c, rfl⟩ := okWide_slice hu hv
  obtain ⟨fuel, hf⟩ := h
  obtain ⟨l, h1, h2⟩ := hO _ _ _ _ _ _ _ _ _ hf
  exact ⟨l, h1.1.2 0 _ _ rfl rfl, h2⟩
theorem arg_struct {fs : Array Field} {r : Reach} {b0 : Nat} {v : Value} {d : DataW H} {p : List MemPlace} {α : Type} {f : α → List DV} {ok : α → Prop} (hu : P.underlying t = some (.struct fs)) (hO : Opens P t f ok) (hv : Value.okWide P w r b0 t v) (h : DataW.Trod enc P w base spare held t v d p) : ∃ x, Rd w (UA w) v (.ag (f x)) ∧ ok x := by
  obtain ⟨cs, rfl, _⟩ := okWide_struct hu hv
  obtain ⟨fuel, hf⟩ := h
  obtain ⟨l, h1, h2⟩ := hO _ _ _ _ _ _ _ _ _ hf
  exact ⟨l, .ag cs _ (by have := h1.1.1; simpa [Value.cells] using this) (fun u hu => h1.2 u hu) (fun j u x h3 h4 => h1.1.2 j u x h3 h4), h2⟩
end
/-- a law that answers yes -/
theorem law_true {f : FuncId} {args : List DV} (hc : Ctr P f args (.d (.fl (.bool true)))) {vals : List Value} {w : World} (h : Rds w (UA w) vals args) : Calls P f vals.toArray w fun e w' => e = .returned (.bool true) ∧ Below w.heap.size w w' := by
  refine Calls.mono (hc vals (UA w) w h) ?_
  rintro e w' ⟨v, U', rfl, h1, _, h3⟩
  have h3' : Rd w' U' v (.fl (.bool true)) := h3
  cases h3'
  exact ⟨rfl, h1⟩
end
end Go.Proofs.Yteplcjhnmmpicaa.Av
