/- Rules for states of data. Conditions: as each theorem names them. -/
import Derived.Test.YtobgdemhadlgnaaAvA
import Derived.MapKept
import Derived.ChangeMaps4
import Derived.Laws.RangeString
import Derived.Laws.RangeAny
import Derived.Deep.Slices
import Derived.Deep.Fields
import Derived.ChangeSame
import Derived.OpenShut
set_option linter.unusedSimpArgs false
set_option linter.unusedVariables false
namespace Go.Proofs.Ytobgdemhadlgnaa.Av
open Go Go.RowKit
section
variable {P : Program} {N : Nat} {w0 : World} {U0 : Nat → Nat}
/-- what is appended -/
inductive RowsS (σ : AS) (z : Nat) : AV → List (List OC) → Option Nat → List Nat → Prop
  | d {av : AV} {rows : List (List DV)} {rn : List Nat} (h : AvD σ av (.sl z rows) rn) : RowsS σ z av (rows.map (·.map .dv)) none rn
  | tr {q : Nat} {e : TypeId} {rows : List (List OC)} (h : σ.n q = .tr e z rows) : RowsS σ z (.ow q) rows (some q) [q]
theorem RowsS.get {σ σ' : AS} {a : Act} {w : World} {F : Fr} (hF : Fits w0 U0 σ' a w F) {z : Nat} (hz : 0 < z) {av : AV} {rows : List (List OC)} {kill : Option Nat} {rn : List Nat} (h : RowsS σ z av rows kill rn) (hrn : ∀ q ∈ rn, σ'.n q = σ.n q) {v : Value} (hv : Rav w F av v) :
    ∃ A c, v = .slice A rows.length c ∧ (∀ r ∈ rows, r.length = z) ∧ (rows ≠ [] → ∃ b off news T, A = some ⟨b, off, none⟩ ∧ news.length = rows.length * z ∧ (∀ j u, news[j]? = some u → w.cell? ((⟨b, off, none⟩ : Addr).add j) = some u) ∧ Tcs w F.U w0.heap.size news rows.flatten T ∧ ∀ k b, T k b → ∃ q, kill = some q ∧ (σ'.n q).live = true ∧ F.S q b) := by
  cases h with
  | @d _ rows _ h =>
    have hr : Rd w F.U v (.sl z rows) := h.get hF hrn hv
    cases hr with
    | sn A c => exact ⟨A, c, rfl, (fun r hr => by cases hr), fun h => absurd rfl h⟩
    | sl b off n c _ _ u hn hzz hm hcell hrr =>
      have hr' : Rd w F.U (.slice (some ⟨b, off, none⟩) n c) (.sl z rows) := .sl b off n c z rows u hn hzz hm hcell hrr
      refine ⟨_, c, by rw [List.length_map, hn], fun r hr => ?_, fun hne => ?_⟩
      · obtain ⟨r', h1, rfl⟩ := List.mem_map.1 hr
        simpa using hzz r' h1
      · obtain ⟨news, g1, g2, g3, g4, g5⟩ := rows_cells hr' (fun e => hne (by rw [e]; rfl)) hz
        exact ⟨b, off, news, fun _ _ => False, rfl, by rw [g1, List.length_map, hn], g4, by rw [flat_map_dv]; exact Tcs.ofRc g5, fun k b h => h.elim⟩
  | @tr q e rows h =>
    have hn := hrn q (by simp)
    rw [h] at hn
    have hv' : v = F.γ q := hv
    have hq := hF.n q
    rw [hn] at hq
    obtain ⟨xs, T, g1, g2, g3, g4, g5⟩ := hq
    rcases g1.2 with ⟨h0, h00⟩ | ⟨g, cap, cur, h1, h2, h3, h4, h5, h6, h7⟩
    · exact ⟨none, 0, by rw [hv', h0, h00], g3, fun hne => absurd (List.eq_nil_of_length_eq_zero h00) hne⟩
    · refine ⟨_, cap, by rw [hv', h1], g3, fun hne => ⟨g, 0, xs, T, rfl, by rw [g2.l, flat_len g3], g1.cells (g := g) (by rw [h1]; rfl), g2, fun k b hb => ⟨q, rfl, by rw [hn]; rfl, (g5 b).2 (.inr ⟨k, hb⟩)⟩⟩⟩
theorem nw_kills (m : Nat) (ob : Ob) (ks : List Nat) (k : Nat) : nwGet ((m, ob) :: ks.map (fun q => (q, Ob.no))) k = if k = m then some ob else if k ∈ ks then some .no else none := by
  unfold nwGet
  by_cases a1 : k = m
  · subst a1; rw [Nat.beq_refl, if_pos rfl]; rfl
  · rw [nbeq (Ne.symm a1), if_neg a1]
    show nwGet (ks.map (fun q => (q, Ob.no))) k = _
    induction ks with
    | nil => rfl
    | cons q ks ih =>
      show (bif Nat.beq q k then some Ob.no else nwGet (ks.map (fun q => (q, Ob.no))) k) = _
      by_cases a2 : k = q
      · subst a2; rw [Nat.beq_refl, if_pos (by simp)]; rfl
      · rw [nbeq (Ne.symm a2), cond_false, ih]
        simp [a2]
/-- one new object made of what others owned, and of new blocks -/
theorem Fits.make {σ : AS} {a a' : Act} {w w' : World} {F : Fr} (h : Fits w0 U0 σ a w F) {m : Nat} {ob : Ob} {ks : List Nat} {γv : Value} {βv : Option Nat} {Sm : Nat → Prop} {U' : Nat → Nat} {tw : Option (Nat × AV)} (hf : fresh σ m) (hE : Ext w F.U w' U') (hu : ∀ b, b < w0.heap.size → U' b = F.U b)
    (hk : ∀ k b, (σ.n k).live = true → k ∉ ks → F.S k b → b < w.heap.size → w'.heap[b]? = w.heap[b]? ∧ U' b = F.U b)
    (hS : ∀ b, Sm b → w.heap.size ≤ b ∨ ∃ q ∈ ks, (σ.n q).live = true ∧ F.S q b)
    (hob : Rob w0.heap.size w' ⟨fun k => if k = m then βv else F.β k, fun k => if k = m then γv else F.γ k, U', fun k b => if k = m then Sm b else F.S k b⟩ m ob)
    (hta : ∀ t, a'.tmps.getD t undef = (match tw with | some (d, _) => if d = t then a'.tmps.getD t undef else a.tmps.getD t undef | none => a.tmps.getD t undef)) (htv : ∀ d v, tw = some (d, v) → Rav w' ⟨fun k => if k = m then βv else F.β k, fun k => if k = m then γv else F.γ k, U', fun k b => if k = m then Sm b else F.S k b⟩ v (a'.tmps.getD d undef)) (rn fr : List Nat) :
    Fits w0 U0 ((⟨tw, (m, ob) :: ks.map (fun q => (q, Ob.no)), rn, fr⟩ : Eff).ap σ) a' w' ⟨fun k => if k = m then βv else F.β k, fun k => if k = m then γv else F.γ k, U', fun k b => if k = m then Sm b else F.S k b⟩ := by
  refine h.big (F' := ⟨fun k => if k = m then βv else F.β k, fun k => if k = m then γv else F.γ k, U', fun k b => if k = m then Sm b else F.S k b⟩) hE hu (fun k hk' => ?_) (fun k hk' => ?_) (fun k hl hk' b hb hlt => ?_) (fun k o hk' => ?_) (fun k o k' b hk' hl hkk hl' hb hb' => ?_) (fun k o k' o' b hk' hl hkk hl' hb hb' => ?_) hta htv rn fr
  · rw [nw_kills] at hk'
    have a1 : k ≠ m := fun e => by rw [if_pos e] at hk'; cases hk'
    exact ⟨if_neg a1, if_neg a1, fun b => by show (if k = m then _ else _) ↔ _; rw [if_neg a1]⟩
  · by_cases a1 : k = m
    · right; rw [a1]; exact hf
    · left; exact ⟨if_neg a1, if_neg a1⟩
  · rw [nw_kills] at hk'
    have a1 : k ≠ m := fun e => by rw [if_pos e] at hk'; cases hk'
    rw [if_neg a1] at hk'
    have a2 : k ∉ ks := fun e => by rw [if_pos e] at hk'; cases hk'
    exact hk k b hl a2 hb hlt
  · rw [nw_kills] at hk'
    by_cases a1 : k = m
    · rw [if_pos a1] at hk'; injection hk' with hk'; subst hk' a1; exact hob
    · rw [if_neg a1] at hk'
      by_cases a2 : k ∈ ks
      · rw [if_pos a2] at hk'; injection hk' with hk'; subst hk'; trivial
      · rw [if_neg a2] at hk'; cases hk'
  · rw [nw_kills] at hk' hkk
    have a1' : k' ≠ m := fun e => by rw [if_pos e] at hkk; cases hkk
    rw [if_neg a1'] at hkk
    have a2' : k' ∉ ks := fun e => by rw [if_pos e] at hkk; cases hkk
    by_cases a1 : k = m
    · have hb1 : (if k = m then Sm b else F.S k b) := hb
      rw [if_pos a1] at hb1
      rcases hS b hb1 with h3 | ⟨q, hq, h4, h5⟩
      · have := ((h.n k').lt hl' hb').2; omega
      · exact a2' (h.i q k' b h4 hl' h5 hb' ▸ hq)
    · rw [if_neg a1] at hk'
      by_cases a2 : k ∈ ks
      · rw [if_pos a2] at hk'; injection hk' with hk'; subst hk'; cases hl
      · rw [if_neg a2] at hk'; cases hk'
  · rw [nw_kills] at hk' hkk
    have key : ∀ k (o : Ob), (if k = m then some ob else if k ∈ ks then some Ob.no else none) = some o → o.live = true → k = m := fun k o hk' hl => by
      by_cases a1 : k = m
      · exact a1
      · rw [if_neg a1] at hk'
        by_cases a2 : k ∈ ks
        · rw [if_pos a2] at hk'; injection hk' with hk'; subst hk'; cases hl
        · rw [if_neg a2] at hk'; cases hk'
    rw [key k o hk' hl, key k' o' hkk hl']
theorem Rc.base {w : World} {B B' : Nat} {e : TypeId} {z : Nat} {v : Value} {n : Nat} {xs : List Value} (h : w.ownsRow B e z v n xs) (hB : B' ≤ B) : w.ownsRow B' e z v n xs := by
  refine ⟨h.1, ?_⟩
  rcases h.2 with h0 | ⟨g, cap, cur, h1, h2, h3⟩
  · exact .inl h0
  · exact .inr ⟨g, cap, cur, h1, by omega, h3⟩
theorem Tcs.base {w : World} {U : Nat → Nat} {B B' : Nat} {us : List Value} {cs : List OC} {T : Nat → Nat → Prop} (h : Tcs w U B us cs T) (hB : B' ≤ B) : Tcs w U B' us cs T :=
  ⟨h.l, fun k u c h1 h2 => by
    have := h.c k u c h1 h2
    cases c with
    | un => exact this
    | dv x => exact this
    | ow e z rows => obtain ⟨xs, g1, g2⟩ := this; exact ⟨xs, Rc.base g1 hB, g2⟩, h.o, h.d, h.b⟩
theorem op_append_tr {o : Oper} {σ : AS} {t e : TypeId} {s x : Operand} (m : Nat) (ho : o.op = .call { callee := .builtin .append, args := #[s, x], argTypes := #[t, t] })
    {zv : Value} {sz b : Nat} (ht : P.underlying t = some (.slice e)) (hi : TI P e zv sz b) (hzs : Nat.beq zv.cells.size sz = true) (hz0 : Nat.blt 0 sz = true) {m0 : Nat} {rows rows' : List (List OC)} {kill : Option Nat} {rn : List Nat} {av : AV}
    (hs : σ.ev s = .ow m0) (hm : σ.n m0 = .tr e sz rows) (hx : σ.ev x = av) (hxv : RowsS σ sz av rows' kill rn) (hkm : (match kill with | some q => Nat.beq q m0 | none => false) = false) {n n' : Nat} (hn : rows.length = n) (hn' : rows'.length = n') (hbytes : (n + n') * (b + 1) ≤ 140737488355328) (hd : dOk o N = true) :
    OpS P N w0 U0 o σ ⟨o.dst.map fun d => (d, .ow m), (m, .tr e sz (rows ++ rows')) :: (m0 :: kill.toList).map (fun q => (q, Ob.no)), m0 :: rn, [m]⟩ := by
  obtain ⟨i, i1, i2, i3, i4⟩ := hi
  subst i3
  subst i4
  intro σ' hok a w hst K Q hK
  obtain ⟨F, hF⟩ := hst.f
  have hz0' := Nat.le_of_ble_eq_true hz0
  have hzs' := Nat.eq_of_beq_eq_true hzs
  have hv0 : a.eval s = F.γ m0 := ev_get hok hF (x := s) (by simp [ho, Op.operands, Call.operands]) hs
  have hvx := ev_get hok hF (x := x) (by simp [ho, Op.operands, Call.operands]) hx
  obtain ⟨A, c, hvs, hrz', hsrc⟩ := hxv.get hF hz0' (fun q hq => hok.n q (by simp [hq])) hvx
  have hm' : σ'.n m0 = .tr e i.size rows := by rw [hok.n m0 (by simp)]; exact hm
  have hlive : (σ'.n m0).live = true := by rw [hm']; rfl
  have hob := hF.n m0
  rw [hm'] at hob
  obtain ⟨xs, T, g1, g2, g3, g4, g5⟩ := hob
  have hfr : fresh σ' m := hok.f m (by simp)
  have hrun : ∀ v' w', (Builtin.append_ #[t, t] o.type #[a.eval s, a.eval x]).run P w = .ok v' w' → (execOp a.eval o).run P w = .ok (.value v') w' := by
    intro v' w' hr
    unfold execOp
    simp only [ho, resolve, invoke, builtin, Sem.run_bind, Sem.run_pure, Result.andThen_ok, List.map_toArray, List.map_cons, List.map_nil, hr]
  rw [hv0, hvs] at hrun
  unfold Oper.wp
  have hγγ : ∀ v : Value, (fun k => if k = m then v else F.γ k) m = v := fun v => if_pos rfl
  by_cases hr0 : rows' = []
  · subst hr0
    rw [hrun _ _ (run_app0 (P := P) w w0.heap.size t o.type e i i.size ht i1 rfl _ _ _ g1 A c)]
    rw [List.append_nil] at hK
    have hfit := hF.make (m := m) (ob := .tr e i.size rows) (ks := m0 :: kill.toList) (γv := F.γ m0) (βv := none) (Sm := F.S m0) (U' := F.U) (w' := w) (a' := a.put o.dst (F.γ m0)) (tw := o.dst.map fun d => (d, .ow m)) hfr Ext.rfl (fun _ _ => rfl) (fun _ _ _ _ _ _ => ⟨rfl, rfl⟩) (fun b hb => .inr ⟨m0, by simp, hlive, hb⟩)
      ⟨xs, T, by simp only [↓reduceIte]; exact g1, g2, g3, fun b hb => by simp only [↓reduceIte] at hb; exact g4 b hb, fun b => by simp only [↓reduceIte]; exact g5 b⟩
      (hta_put hd hst.s (.ow m) (F.γ m0)).1 (fun d v h => by
        obtain ⟨rfl, h3⟩ := (hta_put hd hst.s (.ow m) (F.γ m0)).2 d v h
        rw [h3]; exact (hγγ _).symm) (m0 :: rn) [m]
    exact hK _ _ ⟨by rw [put_defers]; exact hst.d, by rw [put_size]; exact hst.s, hst.b, _, hfit⟩
  · obtain ⟨sb, off, news, T2, rfl, n1, n2, n3, n4⟩ := hsrc hr0
    have hpos : 0 < rows'.length := List.length_pos_iff.2 hr0
    subst hn
    subst hn'
    have q1 : (rows.length + rows'.length) * 1 ≤ (rows.length + rows'.length) * (i.bytes + 1) := Nat.mul_le_mul_left _ (by omega)
    have q2 : (rows.length + rows'.length) * i.bytes ≤ (rows.length + rows'.length) * (i.bytes + 1) := Nat.mul_le_mul_left _ (by omega)
    obtain ⟨g, cap, w', hr, hown', hB, hcase⟩ := run_app (P := P) w w0.heap.size t o.type e i zv i.size i.bytes ht i1 i2 rfl rfl hzs' hz0' (F.γ m0) rows.length xs g1 ⟨sb, off, none⟩ rows'.length c news n1 n2 n3.o hpos (by unfold maxLen; omega) (by omega) hst.b.size
    rw [hrun _ _ hr]
    have hgB : w0.heap.size ≤ g := by
      rcases hcase with ⟨rfl, _⟩ | ⟨h1, _⟩
      · exact hst.b.size
      · exact (g1.lt g h1).1
    obtain ⟨U', hU'⟩ : ∃ U' : Nat → Nat, U' = fun b => if b = g then 0 else F.U b := ⟨_, rfl⟩
    have hU1 : U' g = 0 := by rw [hU']; simp
    have hU2 : ∀ b, b ≠ g → U' b = F.U b := fun b hb => by rw [hU']; simp [hb]
    have hkept : ∀ b, b < w.heap.size → b ≠ g → w'.heap[b]? = w.heap[b]? := fun b hlt hne => by
      rcases hcase with ⟨rfl, h2⟩ | ⟨_, h2, _⟩
      · exact h2 b hlt
      · exact h2 b hne
    have hE : Ext w F.U w' U' := by
      refine ⟨?_, fun r es c hmp hu => ?_⟩
      case refine_2 =>
        have hlt : r < w.heap.size := (Array.getElem?_eq_some_iff.1 hmp).1
        have hne : r ≠ g := fun e' => by
          subst e'
          rcases hcase with ⟨h1, _⟩ | ⟨h1, _⟩
          · omega
          · rw [(g4 r h1).1] at hu; omega
        exact ⟨hkept r hlt hne, hU2 r hne⟩
      intro b' o' u' hc ho'
      have hlt := World.block_lt_of_cell? w _ hc
      have hlt' : b' < w.heap.size := hlt
      have hne : b' ≠ g := fun e' => by
        subst e'
        rcases hcase with ⟨h1, _⟩ | ⟨h1, _⟩
        · omega
        · rw [(g4 b' h1).1] at ho'; omega
      exact ⟨(World.cell?_of_block (hkept b' hlt' hne)).trans hc, by rw [hU2 b' hne]; exact ho'⟩
    have hTg : ∀ k, ¬ T k g := fun k hk => by
      rcases hcase with ⟨h1, _⟩ | ⟨h1, _⟩
      · have := (g2.lt hk).2; omega
      · exact (g4 g h1).2 k hk
    have hS0 : ∀ k b, T k b → F.S m0 b := fun k b hk => (g5 b).2 (.inr ⟨k, hk⟩)
    have hkm' : ∀ q, kill = some q → q ≠ m0 := fun q hq e' => by subst hq; subst e'; simp at hkm
    have hT2g : ∀ k, ¬ T2 k g := fun k hk => by
      obtain ⟨q, e1, e2, e3⟩ := n4 k g hk
      rcases hcase with ⟨h1, _⟩ | ⟨h1, _⟩
      · have := ((hF.n q).lt e2 e3).2; omega
      · exact hkm' q e1 (hF.i q m0 g e2 hlive e3 ((g5 g).2 (.inl h1)))
    have hdis : ∀ k k' b, T k b → T2 k' b → False := fun k k' b h1 h2 => by
      obtain ⟨q, e1, e2, e3⟩ := n4 k' b h2
      exact hkm' q e1 (hF.i q m0 b e2 hlive e3 (hS0 k b h1))
    have happ := g2.append n3 hdis
    obtain ⟨T', hT'⟩ : ∃ T' : Nat → Nat → Prop, T' = fun j b => if j < xs.length then T j b else T2 (j - xs.length) b := ⟨_, rfl⟩
    rw [← hT'] at happ
    have hTsub : ∀ q b, T' q b → (∃ k, T k b) ∨ ∃ k, T2 k b := fun q b h => by
      rw [hT'] at h
      split at h
      · exact .inl ⟨_, h⟩
      · exact .inr ⟨_, h⟩
    have hTg' : ∀ q b, T' q b → b ≠ g := fun q b h e' => by
      subst e'
      rcases hTsub q b h with ⟨k, h⟩ | ⟨k, h⟩
      · exact hTg k h
      · exact hT2g k h
    have hTlt : ∀ q b, T' q b → b < w.heap.size := fun q b h => by
      rcases hTsub q b h with ⟨k, h⟩ | ⟨k, h⟩
      · exact (g2.lt h).2
      · exact (n3.lt h).2
    have hfit := hF.make (m := m) (ob := .tr e i.size (rows ++ rows')) (ks := m0 :: kill.toList) (γv := .slice (some ⟨g, 0, none⟩) (rows.length + rows'.length) cap) (βv := none) (Sm := fun b => b = g ∨ ∃ k, T' k b) (U' := U') (w' := w') (a' := a.put o.dst (.slice (some ⟨g, 0, none⟩) (rows.length + rows'.length) cap)) (tw := o.dst.map fun d => (d, .ow m)) hfr hE (fun b hb => hU2 b (by omega))
      (fun k b hl hk hb hlt => by
        have hne : b ≠ g := fun e' => by
          subst e'
          rcases hcase with ⟨h1, _⟩ | ⟨h1, _⟩
          · omega
          · exact hk (by rw [hF.i k m0 b hl hlive hb ((g5 b).2 (.inl h1))]; simp)
        exact ⟨hkept b hlt hne, hU2 b hne⟩)
      (fun b hb => by
        rcases hb with hb | ⟨k, hb⟩
        · subst hb
          rcases hcase with ⟨h1, _⟩ | ⟨h1, _⟩
          · exact .inl (by omega)
          · exact .inr ⟨m0, by simp, hlive, (g5 b).2 (.inl h1)⟩
        · rcases hTsub k b hb with ⟨q, h⟩ | ⟨q, h⟩
          · exact .inr ⟨m0, by simp, hlive, hS0 q b h⟩
          · obtain ⟨q', e1, e2, e3⟩ := n4 q b h
            exact .inr ⟨q', by simp [e1], e2, e3⟩)
      ⟨xs ++ news, T', by simp only [↓reduceIte, List.length_append]; exact hown', by rw [List.flatten_append]; exact happ.ext hE (fun k b hk hlt => ⟨hkept b hlt (hTg' k b hk), hU2 b (hTg' k b hk)⟩), fun r hr => (List.mem_append.1 hr).elim (g3 r) (hrz' r), fun b hb => by
        simp only [↓reduceIte] at hb
        injection hb with hb
        subst hb
        exact ⟨hU1, fun k hk => hTg' k _ hk rfl⟩, fun b => by
        simp only [↓reduceIte]
        constructor
        · rintro (h | h)
          · exact .inl (by rw [h]; rfl)
          · exact .inr h
        · rintro (h | h)
          · injection h with h; exact .inl h.symm
          · exact .inr h⟩
      (hta_put hd hst.s (.ow m) _).1 (fun d v h => by
        obtain ⟨rfl, h3⟩ := (hta_put hd hst.s (.ow m) (.slice (some ⟨g, 0, none⟩) (rows.length + rows'.length) cap)).2 d v h
        rw [h3]; exact (hγγ _).symm) (m0 :: rn) [m]
    exact hK _ _ ⟨by rw [put_defers]; exact hst.d, by rw [put_size]; exact hst.s, hst.b.trans hB, _, hfit⟩
/-- a nil slice is an own row -/
theorem imp_nilT {L : List (Nat × AV)} {M : List (Nat × Ob)} (t m : Nat) (e : TypeId) (z : Nat) (ht : lk L t = .d (.fl (.slice none 0 0))) (hf : freshB L M m = true) : Imp N w0 U0 (SS L M) (SS ((t, .ow m) :: L) ((m, .tr e z []) :: M)) := by
  intro a w hs
  obtain ⟨F, hF⟩ := hs.f
  have hfr := fresh_ss hf
  have hv : a.tmps.getD t undef = .slice none 0 0 := by
    have : Rav w F (lk L t) _ := hF.t t
    rw [ht] at this
    generalize a.tmps.getD t undef = v at this ⊢
    cases this
    rfl
  have hfit := hF.make (m := m) (ob := .tr e z []) (ks := []) (γv := .slice none 0 0) (βv := none) (Sm := fun _ => False) (U' := F.U) (w' := w) (a' := a) (tw := some (t, .ow m)) hfr Ext.rfl (fun _ _ => rfl) (fun _ _ _ _ _ _ => ⟨rfl, rfl⟩) (fun b h => h.elim)
    ⟨[], fun _ _ => False, by simp only [if_true]; exact World.ownsRow_nil _ _ _ _, ⟨rfl, fun k u c h => by simp at h, fun u hu => (by cases hu), fun _ _ _ h => h.elim, fun _ _ h => h.elim⟩, (fun r hr => by cases hr), (fun b hb => by simp only [↓reduceIte] at hb; cases hb), fun b => by
      simp only [↓reduceIte]
      exact ⟨fun h => h.elim, fun h => h.elim (fun h => by cases h) (fun ⟨_, h⟩ => h.elim)⟩⟩
    (fun t' => by simp only; split <;> rfl) (fun d v h => by
      simp only [Option.some.injEq, Prod.mk.injEq] at h
      obtain ⟨rfl, rfl⟩ := h
      rw [hv]; exact (if_pos rfl).symm) [] []
  rw [ap_ss] at hfit
  exact ⟨hs.d, hs.s, hs.b, _, hfit⟩
/-- a slice of nothing -/
theorem op_slice0 {o : Oper} {σ : AS} {t : TypeId} (m : Nat) (ho : o.op = .buildSlice t 0 #[]) {e : TypeId} {zv : Value} {sz b : Nat} (ht : P.underlying t = some (.slice e)) (hi : TI P e zv sz b) (hd : dOk o N = true) : OpS P N w0 U0 o σ ⟨o.dst.map fun d => (d, .ow m), (m, .tr e sz []) :: ([] : List Nat).map (fun q => (q, Ob.no)), [], [m]⟩ := by
  obtain ⟨i, i1, i2, i3, i4⟩ := hi
  subst i3
  intro σ' hok a w hst K Q hK
  obtain ⟨F, hF⟩ := hst.f
  have hex : (execOp a.eval o).run P w = .ok (.value (.slice (some ⟨w.heap.size, 0, none⟩) 0 0)) (w.alloc (.cells #[] e)) := by
    have hbig : ¬ (0 * i.size > 2 ^ 24) := by omega
    unfold execOp
    simp only [ho, Instr.buildSlice, Sem.run_bind, run_underlying ht, Result.andThen_ok, run_sizeOf' i1, if_neg hbig, Nat.zero_mul, if_true, Sem.run_pure]
    simp [Instr.fill, newRow, newObj, Sem.run]
    congr 2
    apply Array.ext'
    simp
  unfold Oper.wp
  rw [hex]
  have hU2 : ∀ b, b < w.heap.size → (fun b => if b = w.heap.size then 0 else F.U b) b = F.U b := fun b hb => by simp; intro h; omega
  have hE : Ext w F.U (w.alloc (.cells #[] e)) (fun b => if b = w.heap.size then 0 else F.U b) := Up.ext ⟨fun b hlt => Below.heap_alloc w _ b hlt, hU2⟩
  have hγγ : ∀ v : Value, (fun k => if k = m then v else F.γ k) m = v := fun v => if_pos rfl
  have hfit := hF.make (m := m) (ob := .tr e i.size []) (ks := []) (γv := .slice (some ⟨w.heap.size, 0, none⟩) 0 0) (βv := none) (Sm := fun b => b = w.heap.size) (U' := fun b => if b = w.heap.size then 0 else F.U b) (w' := w.alloc (.cells #[] e)) (a' := a.put o.dst (.slice (some ⟨w.heap.size, 0, none⟩) 0 0)) (tw := o.dst.map fun d => (d, .ow m)) (hok.f m (by simp)) hE (fun b hb => hU2 b (by have := hst.b.size; omega)) (fun k b _ _ _ hlt => ⟨Below.heap_alloc w _ b hlt, hU2 b hlt⟩) (fun b h => .inl (by omega))
    ⟨[], fun _ _ => False, by
      simp only [↓reduceIte]
      exact ⟨by simp, .inr ⟨w.heap.size, 0, #[], rfl, hst.b.size, Go.heap_alloc_new w _, Nat.le_refl _, by unfold maxLen; omega, by simp, by simp⟩⟩, ⟨rfl, fun k u c h => by simp at h, fun u hu => (by cases hu), fun _ _ _ h => h.elim, fun _ _ h => h.elim⟩, (fun r hr => by cases hr), fun b hb => by
      simp only [↓reduceIte] at hb
      injection hb with hb
      subst hb
      exact ⟨by simp, fun _ h => h⟩, fun b => by
      simp only [↓reduceIte]
      constructor
      · intro h; exact .inl (by rw [h]; rfl)
      · rintro (h | ⟨_, h⟩)
        · injection h with h; exact h.symm
        · exact h.elim⟩
    (hta_put hd hst.s (.ow m) _).1 (fun d v h => by
      obtain ⟨rfl, h3⟩ := (hta_put hd hst.s (.ow m) (.slice (some ⟨w.heap.size, 0, none⟩) 0 0)).2 d v h
      rw [h3]; exact (hγγ _).symm) [] [m]
  exact hK _ _ ⟨by rw [put_defers]; exact hst.d, by rw [put_size]; exact hst.s, hst.b.alloc hst.b.size _, _, hfit⟩
end
end Go.Proofs.Ytobgdemhadlgnaa.Av

namespace Go.Proofs.Ytobgdemhadlgnaa.Av
open Go Go.RowKit
section
variable {P : Program} {N : Nat} {w0 : World} {U0 : Nat → Nat}
theorem own_rd {B : Nat} {w : World} {U : Nat → Nat} {v : Value} {e : TypeId} {z : Nat} {xs : List Value} {rows : List (List DV)} (h1 : w.ownsRow B e z v rows.length xs) (h2 : Rc w U xs rows.flatten) (h3 : ∀ r ∈ rows, r.length = z) (hU : ∀ b, v.ownBlock = some b → U b = rows.length * z) : Rd w U v (.sl z rows) := by
  rcases h1.2 with ⟨hv, hn⟩ | ⟨g, cap, cur, hv, hg, hh, hnc, hcm, hcs, htake⟩
  · have hr : rows = [] := List.eq_nil_of_length_eq_zero hn
    subst hr
    rw [hv]
    exact .sn none 0 z
  · have hU := hU g (by rw [hv]; rfl)
    rw [hv]
    have key : ∀ i j x, cellAt rows i j = some x → rows.flatten[i * z + j]? = some x ∧ i * z + j < rows.length * z ∧ xs[i * z + j]? = some (xs.getD (i * z + j) undef) := fun i j x hx => by
      unfold cellAt at hx
      obtain ⟨r, hr, hj⟩ := Option.bind_eq_some_iff.1 hx
      obtain ⟨g1, g2⟩ := flat_get h3 hr hj
      have hlt : i * z + j < xs.length := by rw [h2.1.1]; exact (List.getElem?_eq_some_iff.1 g1).1
      exact ⟨g1, g2, by simp [List.getD, List.getElem?_eq_getElem hlt]⟩
    refine .sl g 0 rows.length cap z rows (fun i j => xs.getD (i * z + j) undef) rfl h3 ⟨by unfold maxLen at hcm; omega, by omega⟩ (fun i j x hx => ?_) (fun i j x hx => ?_)
    · obtain ⟨g1, g2, hu⟩ := key i j x hx
      refine ⟨?_, by rw [hU, Nat.zero_add]; exact g2, h2.2 _ (List.mem_of_getElem? hu)⟩
      have := h1.cells (g := g) (by rw [hv]; rfl) _ _ hu
      rw [add_plain'] at this
      rw [Nat.zero_add] at this ⊢
      exact this
    · obtain ⟨g1, g2, hu⟩ := key i j x hx
      exact h2.1.2 _ _ _ hu g1
def OC.ok : OC → Bool
  | .un => false
  | _ => true
def OC.len : OC → Nat
  | .ow _ z rows => rows.length * z
  | _ => 0
/-- the extents when all is handed on -/
noncomputable def leakU (U : Nat → Nat) (cs : List OC) (T : Nat → Nat → Prop) : Nat → Nat := fun b => open Classical in if h : ∃ k, T k b then ((cs[Classical.choose h]?).map OC.len).getD 0 else U b
theorem leakU_T {U : Nat → Nat} {cs : List OC} {T : Nat → Nat → Prop} (hd : ∀ k k' b, T k b → T k' b → k = k') {k b : Nat} (h : T k b) {c : OC} (hc : cs[k]? = some c) : leakU U cs T b = c.len := by
  have hex : ∃ k, T k b := ⟨k, h⟩
  unfold leakU
  rw [dif_pos hex, hd _ k b (Classical.choose_spec hex) h, hc]
  rfl
theorem leakU_no {U : Nat → Nat} {cs : List OC} {T : Nat → Nat → Prop} {b : Nat} (h : ¬ ∃ k, T k b) : leakU U cs T b = U b := by
  unfold leakU
  rw [dif_neg h]
/-- cells that own read as data when all is handed on -/
theorem Tcs.leak {w : World} {U U' : Nat → Nat} {B : Nat} {us : List Value} {cs : List OC} {T : Nat → Nat → Prop} (h : Tcs w U B us cs T) (hok : ∀ c ∈ cs, c.ok = true) (hE : Ext w U w U') (hT : ∀ k b c, T k b → cs[k]? = some c → U' b = c.len) : Rc w U' us (cs.map OC.rd) := by
  refine ⟨⟨by rw [List.length_map]; exact h.l, fun k u x hu hx => ?_⟩, h.o⟩
  rw [List.getElem?_map] at hx
  obtain ⟨c, hc, rfl⟩ := Option.map_eq_some_iff.1 hx
  have hoc := hok c (List.mem_of_getElem? hc)
  have hto := h.c k u c hu hc
  cases c with
  | un => cases hoc
  | dv x => exact hto.1.ext hE
  | ow e z rows =>
    obtain ⟨xs, g1, g2, g3, g4, g5⟩ := hto
    exact own_rd g1 (g2.ext hE) g3 (fun b hb => hT k b _ ((g4 b).2 hb) hc)
theorem imp_leak {L : List (Nat × AV)} {M : List (Nat × Ob)} (t m : Nat) {e : TypeId} {z : Nat} {rows : List (List OC)} (ht : lk L t = .ow m) (hm : ln M m = .tr e z rows) (hok : ∀ r ∈ rows, ∀ c ∈ r, c.ok = true) : Imp N w0 U0 (SS L M) (SS ((t, .d (.sl z (rows.map (·.map OC.rd)))) :: L) ((m, .no) :: M)) := by
  intro a w hs
  obtain ⟨F, hF⟩ := hs.f
  have hv : a.tmps.getD t undef = F.γ m := by have := hF.t t; rw [show (SS L M).t t = _ from ht] at this; exact this
  have hob := hF.n m
  rw [show (SS L M).n m = _ from hm] at hob
  obtain ⟨xs, T, g1, g2, g3, g4, g5⟩ := hob
  have hlive : ((SS L M).n m).live = true := by rw [show (SS L M).n m = _ from hm]; rfl
  obtain ⟨U', hU'⟩ : ∃ U' : Nat → Nat, U' = fun b => if (F.γ m).ownBlock = some b then rows.length * z else leakU F.U rows.flatten T b := ⟨_, rfl⟩
  have hUo : ∀ b, (F.γ m).ownBlock = some b → U' b = rows.length * z := fun b hb => by rw [hU']; exact if_pos hb
  have hUT : ∀ k b c, T k b → rows.flatten[k]? = some c → U' b = c.len := fun k b c hk hc => by
    rw [hU']
    have hne : ¬ (F.γ m).ownBlock = some b := fun hb => (g4 b hb).2 k hk
    show (if _ then _ else _) = _
    rw [if_neg hne]
    exact leakU_T g2.d hk hc
  have hUn : ∀ b, ¬ F.S m b → U' b = F.U b := fun b hb => by
    rw [hU']
    have hne : ¬ (F.γ m).ownBlock = some b := fun h => hb ((g5 b).2 (.inl h))
    show (if _ then _ else _) = _
    rw [if_neg hne]
    exact leakU_no (fun h => hb ((g5 b).2 (.inr h)))
  have hU0 : ∀ b, F.S m b → F.U b = 0 := fun b hb => by
    rcases (g5 b).1 hb with h | ⟨k, h⟩
    · exact (g4 b h).1
    · have hk := g2.b k b h
      have hl := g2.l
      have := g2.c k _ _ (List.getElem?_eq_getElem hk) (List.getElem?_eq_getElem (by omega))
      generalize rows.flatten[k]'(by omega) = c at this
      cases c with
      | un => exact absurd h (this b)
      | dv x => exact absurd h (this.2 b)
      | ow e2 z2 rows2 => obtain ⟨_, _, _, _, q4, q5⟩ := this; exact q5 b ((q4 b).1 h)
  have hE : Ext w F.U w U' := ⟨fun b o u hc ho' => ⟨hc, by
    by_cases hb : F.S m b
    · rw [hU0 b hb] at ho'; omega
    · rw [hUn b hb]; exact ho'⟩, fun r es c hr hu => ⟨rfl, hUn r (fun hb => by rw [hU0 r hb] at hu; omega)⟩⟩
  have hflat : (rows.map (·.map OC.rd)).flatten = rows.flatten.map OC.rd := by
    clear hok g3 g1 g2 g4 g5 hUo hUT hUn hm hU'
    induction rows with
    | nil => rfl
    | cons r rows ih => simp only [List.map_cons, List.flatten_cons, List.map_append, ih]
  have hokf : ∀ c ∈ rows.flatten, c.ok = true := fun c hc => by
    obtain ⟨r, hr, hcr⟩ := List.mem_flatten.1 hc
    exact hok r hr c hcr
  have hrcl := g2.leak hokf hE hUT
  rw [← hflat] at hrcl
  have hrd : Rd w U' (F.γ m) (.sl z (rows.map (·.map OC.rd))) := by
    refine own_rd (e := e) (xs := xs) (by rw [List.length_map]; exact g1) hrcl (fun r hr => ?_) (fun b hb => by rw [List.length_map]; exact hUo b hb)
    obtain ⟨r', h1, rfl⟩ := List.mem_map.1 hr
    simpa using g3 r' h1
  have hb := hF.big (F' := ⟨F.β, F.γ, U', fun k x => k ≠ m ∧ F.S k x⟩) (w' := w) (tw := some (t, .d (.sl z (rows.map (·.map OC.rd))))) (nw := [(m, .no)]) hE
    (fun x hx => hUn x (fun h => by have := ((hF.n m).lt hlive h).1; omega))
    (fun k hk => ⟨rfl, rfl, fun x => ⟨fun h => h.2, fun h => ⟨fun e => by subst e; simp [nwGet] at hk, h⟩⟩⟩)
    (fun k hk => .inl ⟨rfl, rfl⟩)
    (fun k hl hk x hx hxl => ⟨rfl, hUn x (fun h => by
      have := hF.i k m x hl hlive hx h
      subst this
      simp [nwGet] at hk)⟩)
    (fun k o hk => by
      unfold nwGet at hk
      cases hb : Nat.beq m k with
      | true => rw [hb] at hk; simp at hk; subst hk; trivial
      | false => rw [hb] at hk; simp [nwGet] at hk)
    (fun k o k' x hk hl => by
      unfold nwGet at hk
      cases hb : Nat.beq m k with
      | true => rw [hb] at hk; simp at hk; subst hk; cases hl
      | false => rw [hb] at hk; simp [nwGet] at hk)
    (fun k o k' o' x hk hl => by
      unfold nwGet at hk
      cases hb : Nat.beq m k with
      | true => rw [hb] at hk; simp at hk; subst hk; cases hl
      | false => rw [hb] at hk; simp [nwGet] at hk)
    (a' := a) (fun t' => by simp only; split <;> rfl) (fun d v h => by
      simp only [Option.some.injEq, Prod.mk.injEq] at h
      obtain ⟨rfl, rfl⟩ := h
      rw [hv]
      exact hrd) [] []
  rw [ap_ss] at hb
  exact ⟨hs.d, hs.s, hs.b, _, hb⟩
/-! ### boxes that own -/
theorem imp_bt {L : List (Nat × AV)} {M : List (Nat × Ob)} (m : Nat) {ty : TypeId} {cs : List DV} (hm : ln M m = .bx ty cs) : Imp N w0 U0 (SS L M) (SS L ((m, .bt ty (cs.map .dv)) :: M)) := by
  intro a w hs
  obtain ⟨F, hF⟩ := hs.f
  have hob := hF.n m
  rw [show (SS L M).n m = _ from hm] at hob
  obtain ⟨b, vs, k1, k2, k3, k4, k5, k6⟩ := hob
  refine ⟨hs.d, hs.s, hs.b, F, hF.u, hF.t, fun k => ?_, fun k k' b h1 h2 h3 h4 => ?_⟩
  · show Rob _ w F k (bif Nat.beq m k then _ else ln M k)
    by_cases e1 : m = k
    · subst e1
      rw [Nat.beq_refl]
      exact ⟨b, vs, fun _ _ => False, k1, k2, k3, k4, Tcs.ofRc k5, fun _ => id, fun b' => ⟨fun h => .inl ((k6 b').1 h), fun h => h.elim (k6 b').2 (fun ⟨_, h⟩ => h.elim)⟩⟩
    · rw [nbeq e1]; exact hF.n k
  · have g : ∀ j, ((SS L ((m, .bt ty (cs.map .dv)) :: M)).n j).live = true → ((SS L M).n j).live = true := fun j hj => by
      by_cases e1 : m = j
      · subst e1; show (ln M m).live = true; rw [hm]; rfl
      · have hj' : (bif Nat.beq m j then _ else ln M j : Ob).live = true := hj
        rw [nbeq e1] at hj'; exact hj'
    exact hF.i k k' b (g k h1) (g k' h2) h3 h4
theorem bt_get {σ : AS} {a : Act} {w : World} {F : Fr} (hF : Fits w0 U0 σ a w F) {m : Nat} {ty : TypeId} {cs : List OC} (h : σ.n m = .bt ty cs) {b : Nat} (hb : F.β m = some b) : ∃ vs T, w0.heap.size ≤ b ∧ F.U b = 0 ∧ w.heap[b]? = some (.cells vs ty (0, 0)) ∧ Tcs w F.U w0.heap.size vs.toList cs T ∧ (∀ k, ¬ T k b) ∧ ∀ b', F.S m b' ↔ (b' = b ∨ ∃ k, T k b') := by
  have := hF.n m
  rw [h] at this
  obtain ⟨b', vs, T, h1, h2⟩ := this
  rw [hb] at h1
  injection h1 with h1
  subst h1
  exact ⟨vs, T, h2⟩
theorem op_store_bt {o : Oper} {σ : AS} {t : TypeId} {x y : Operand} (ho : o.op = .store t x y) (hdn : o.dst = none) {zv : Value} {sz bb : Nat} (hi : TI P t zv sz bb) {m p : Nat} (hx : (σ.ev x).ptOf = some (m, p)) {ty : TypeId} {cs : List OC} (hm : σ.n m = .bt ty cs) {av : AV} (hy : σ.ev y = av) {ds : List OC} {kill : Option Nat} (hsrc : SrcS σ av ds kill)
    (hkm : (match kill with | some q => Nat.beq q m | none => false) = false) (hl : Nat.beq ds.length sz = true) (hj : Nat.ble (p + sz) cs.length = true) :
    OpS P N w0 U0 o σ ⟨none, (m, .bt ty (cs.take p ++ ds ++ cs.drop (p + ds.length))) :: kill.toList.map (fun q => (q, Ob.no)), m :: kill.toList, []⟩ := by
  intro σ' hok a w hs K Q hK
  obtain ⟨F, hF⟩ := hs.f
  obtain ⟨ti, t1, _, t3, _⟩ := hi
  subst t3
  have hl' := Nat.eq_of_beq_eq_true hl
  have hj' := Nat.le_of_ble_eq_true hj
  obtain ⟨g, hβ, h2⟩ := pt_get hok hF (x := x) (by simp [ho, Op.operands]) hx
  have hvy := ev_get hok hF (x := y) (by simp [ho, Op.operands]) hy
  obtain ⟨T2, s1, s2⟩ := hsrc.get hF (fun q hq => hok.n q (by simp [hq])) hvy
  have hm' : σ'.n m = .bt ty cs := by rw [hok.n m (by simp)]; exact hm
  obtain ⟨vs, T, kB, kU, k3, k8, kT, kS⟩ := bt_get hF hm' hβ
  have hlive : (σ'.n m).live = true := by rw [hm']; rfl
  have hkm' : ∀ q, kill = some q → q ≠ m := fun q hq h => by subst hq; subst h; simp at hkm
  have hcl : (a.eval y).cells.toList.length = ti.size := by rw [s1.l, hl']
  have hvl := k8.l
  obtain ⟨cur', hcur'⟩ : ∃ cur' : Array Value, cur' = (vs.toList.take (p + 0) ++ (a.eval y).cells.toList ++ vs.toList.drop (p + 0 + (a.eval y).cells.toList.length)).toArray := ⟨_, rfl⟩
  have hst := run_storeCells_at (P := P) g p ty (a.eval y).cells.toList 0 vs w k3 (by simp at hvl hcl ⊢; omega) s1.o
  rw [← hcur'] at hst
  have hrun : (storeVar t ⟨g, p, none⟩ (a.eval y)).run P w = .ok () (w.setRow g cur') := by
    unfold storeVar
    rw [Sem.run_bind, run_sizeOf' t1]
    have hne : ¬ ((a.eval y).cells.size ≠ ti.size) := by simp at hcl; simp [hcl]
    simp only [Result.andThen_ok]
    rw [if_neg hne]
    simpa using hst
  have hex : (execOp a.eval o).run P w = .ok .skip (w.setRow g cur') := by
    simp only [execOp, ho, Instr.storeAt, Instr.sureAddr, h2, Sem.run_bind, Sem.run_pure, Result.andThen_ok, hrun]
  have hheap : (w.setRow g cur').heap[g]? = some (.cells cur' ty (0, 0)) := setRow_heap w g vs _ ty (0, 0) k3
  have hoth : ∀ b, b ≠ g → (w.setRow g cur').heap[b]? = w.heap[b]? := fun b hb => setRow_other w g b _ hb
  have hE : Ext w F.U (w.setRow g cur') F.U := ⟨fun b' o' u hcu ho' => by
    by_cases hbb : b' = g
    · subst hbb; omega
    · exact ⟨(cell_setRow_other w g _ ⟨b', o', none⟩ hbb).trans hcu, ho'⟩, fun r es c hr hu => ⟨hoth r (fun e => by subst e; omega), rfl⟩⟩
  have hdis : ∀ q k b, T q b → T2 k b → False := fun q k b h3 h4 => by
    obtain ⟨q', e1, e2, e3⟩ := s2 k b h4
    have := hF.i m q' b hlive e2 ((kS b).2 (.inr ⟨q, h3⟩)) e3
    exact hkm' q' e1 this.symm
  have hdis2 : ∀ k, ¬ T2 k g := fun k h4 => by
    obtain ⟨q', e1, e2, e3⟩ := s2 k g h4
    exact hkm' q' e1 (hF.i m q' g hlive e2 ((kS g).2 (.inl rfl)) e3).symm
  have hspl := k8.splice s1 p (by rw [hcl]; omega) hdis
  have hcurl : cur'.toList = vs.toList.take p ++ (a.eval y).cells.toList ++ vs.toList.drop (p + (a.eval y).cells.toList.length) := by rw [hcur']; simp
  rw [← hcurl] at hspl
  obtain ⟨T', hT'⟩ : ∃ T' : Nat → Nat → Prop, T' = fun q b => if q < p then T q b else if q < p + (a.eval y).cells.toList.length then T2 (q - p) b else T q b := ⟨_, rfl⟩
  rw [← hT'] at hspl
  have hTsub : ∀ q b, T' q b → (∃ k, T k b) ∨ ∃ k, T2 k b := fun q b h => by
    rw [hT'] at h
    split at h
    · exact .inl ⟨_, h⟩
    · split at h
      · exact .inr ⟨_, h⟩
      · exact .inl ⟨_, h⟩
  have hTlt : ∀ q b, T' q b → b ≠ g := fun q b h e' => by
    subst e'
    rcases hTsub q b h with ⟨k, h⟩ | ⟨k, h⟩
    · exact kT k h
    · exact hdis2 k h
  have hnw := nw_kills m (.bt ty (cs.take p ++ ds ++ cs.drop (p + ds.length))) kill.toList
  obtain ⟨F', hF'⟩ : ∃ F' : Fr, F' = ⟨F.β, F.γ, F.U, fun k b => if k = m then (b = g ∨ ∃ q, T' q b) else F.S k b⟩ := ⟨_, rfl⟩
  have hU : F'.U = F.U := by rw [hF']
  have hSm : ∀ b, F'.S m b ↔ (b = g ∨ ∃ q, T' q b) := fun b => by rw [hF']; show (if m = m then _ else _) ↔ _; rw [if_pos rfl]
  have hSk : ∀ k, k ≠ m → ∀ b, F'.S k b ↔ F.S k b := fun k a2 b => by rw [hF']; show (if k = m then _ else _) ↔ _; rw [if_neg a2]
  have hown : ∀ b, (b = g ∨ ∃ q, T' q b) → F.S m b ∨ ∃ q', kill = some q' ∧ (σ'.n q').live = true ∧ F.S q' b := fun b h => by
    rcases h with h | ⟨q, h⟩
    · exact .inl ((kS b).2 (.inl h))
    · rcases hTsub q b h with h | ⟨k, h⟩
      · exact .inl ((kS b).2 (.inr h))
      · exact .inr (s2 k b h)
  have hb := hF.big (F' := F') (w' := w.setRow g cur') (tw := none) (nw := (m, .bt ty (cs.take p ++ ds ++ cs.drop (p + ds.length))) :: kill.toList.map (fun q => (q, Ob.no))) (by rw [hU]; exact hE) (fun b _ => by rw [hU])
    (fun k hk => by
      rw [hnw] at hk
      have a1 : k ≠ m := fun h => by rw [if_pos h] at hk; cases hk
      exact ⟨by rw [hF'], by rw [hF'], hSk k a1⟩)
    (fun k hk => .inl ⟨by rw [hF'], by rw [hF']⟩)
    (fun k hl hk b hb hlt => ⟨hoth b (fun e' => by
      subst e'
      have := hF.i k m b hl hlive hb ((kS b).2 (.inl rfl))
      subst this
      rw [hnw, if_pos rfl] at hk; cases hk), by rw [hU]⟩)
    (fun k ob hk => by
      rw [hnw] at hk
      by_cases a1 : k = m
      · rw [if_pos a1] at hk
        injection hk with hk
        subst hk a1
        exact ⟨g, cur', T', by rw [hF']; exact hβ, kB, by rw [hU]; exact kU, hheap, by rw [hU]; exact hspl.ext hE (fun q b hq hlt => ⟨hoth b (hTlt q b hq), rfl⟩), fun q h => hTlt q g h rfl, hSm⟩
      · rw [if_neg a1] at hk
        by_cases a2 : k ∈ kill.toList
        · rw [if_pos a2] at hk; injection hk with hk; subst hk; trivial
        · rw [if_neg a2] at hk; cases hk)
    (fun k ob k' b hk hl hk' hl' hb hb' => by
      rw [hnw] at hk hk'
      by_cases a1 : k = m
      · subst a1
        have a1' : k' ≠ k := fun h => by rw [if_pos h] at hk'; cases hk'
        rw [if_neg a1'] at hk'
        have a2' : k' ∉ kill.toList := fun h => by rw [if_pos h] at hk'; cases hk'
        rcases hown b ((hSm b).1 hb) with h | ⟨q', e1, e2, e3⟩
        · exact a1' (hF.i k k' b hlive hl' h hb').symm
        · exact a2' (by rw [hF.i k' q' b hl' e2 hb' e3]; simp [e1])
      · rw [if_neg a1] at hk
        by_cases a2 : k ∈ kill.toList
        · rw [if_pos a2] at hk; injection hk with hk; subst hk; cases hl
        · rw [if_neg a2] at hk; cases hk)
    (fun k ob k' ob' b hk hl hk' hl' hb hb' => by
      rw [hnw] at hk hk'
      have key : ∀ k (ob : Ob), (if k = m then some (Ob.bt ty (cs.take p ++ ds ++ cs.drop (p + ds.length))) else if k ∈ kill.toList then some .no else none) = some ob → ob.live = true → k = m := fun k ob hk hl => by
        by_cases a1 : k = m
        · exact a1
        · rw [if_neg a1] at hk
          by_cases a2 : k ∈ kill.toList
          · rw [if_pos a2] at hk; injection hk with hk; subst hk; cases hl
          · rw [if_neg a2] at hk; cases hk
      rw [key k ob hk hl, key k' ob' hk' hl'])
    (a' := a) (fun t => rfl) (fun d v h => by cases h) (m :: kill.toList) []
  unfold Oper.wp
  rw [hex, Oper.upon_skip, hdn]
  refine hK _ _ ⟨hs.d, hs.s, hs.b.trans ⟨rfl, rfl, rfl, by simp, fun k hk => hoth k (by omega)⟩, _, hb⟩
/-- a struct that is moved out of its box -/
theorem op_move_bt {o : Oper} {σ : AS} {t : TypeId} {x : Operand} (m3 : Nat) (ho : o.op = .load t x) {d : TypeDesc} (hu : P.underlying t = some d) (ha : aggD d = true) {zv : Value} {sz bb : Nat} (hi : TI P t zv sz bb) {m : Nat} (hx : σ.ev x = .pt m 0) {ty : TypeId} {cs : List OC} (hm : σ.n m = .bt ty cs) (hl : Nat.beq cs.length sz = true) (hd : dOk o N = true) :
    OpS P N w0 U0 o σ ⟨o.dst.map fun d => (d, .ow m3), (m3, .sv cs) :: [m].map (fun q => (q, Ob.no)), [m], [m3]⟩ := by
  intro σ' hok a w hs K Q hK
  obtain ⟨F, hF⟩ := hs.f
  obtain ⟨ti, t1, _, t3, _⟩ := hi
  subst t3
  have hl' := Nat.eq_of_beq_eq_true hl
  obtain ⟨g, hβ, h2⟩ := ev_get hok hF (x := x) (by simp [ho, Op.operands]) hx
  have hm' : σ'.n m = .bt ty cs := by rw [hok.n m (by simp)]; exact hm
  obtain ⟨vs, T, kB, kU, k3, k8, kT, kS⟩ := bt_get hF hm' hβ
  have hlive : (σ'.n m).live = true := by rw [hm']; rfl
  have hvl := k8.l
  have hld := run_load_many (P := P) hu ha t1 (w := w) (b := g) (o := 0) (us := vs.toList) (by omega) (fun j u hu => by rw [Nat.zero_add, cell_of_row w g j vs ty (0, 0) k3]; simpa using hu)
  have hex : (execOp a.eval o).run P w = .ok (.value (.agg vs)) w := by
    simp [execOp, ho, h2, Instr.loadAt, Instr.sureAddr, hld]
  unfold Oper.wp
  rw [hex]
  have hfit := hF.make (m := m3) (ob := .sv cs) (ks := [m]) (γv := .agg vs) (βv := none) (Sm := fun b => ∃ k, T k b) (U' := F.U) (w' := w) (a' := a.put o.dst (.agg vs)) (tw := o.dst.map fun d => (d, .ow m3)) (hok.f m3 (by simp)) Ext.rfl (fun _ _ => rfl) (fun _ _ _ _ _ _ => ⟨rfl, rfl⟩) (fun b hb => .inr ⟨m, by simp, hlive, (kS b).2 (.inr hb)⟩)
    ⟨vs, T, by simp only [↓reduceIte], k8, fun b => by simp only [↓reduceIte]⟩
    (hta_put hd hs.s (.ow m3) _).1 (fun d v h => by
      obtain ⟨rfl, h3⟩ := (hta_put hd hs.s (.ow m3) (.agg vs)).2 d v h
      rw [h3]; exact (if_pos rfl).symm) [m] [m3]
  exact hK _ _ ⟨by rw [put_defers]; exact hs.d, by rw [put_size]; exact hs.s, hs.b, _, hfit⟩
theorem op_load_bt {o : Oper} {σ : AS} {t : TypeId} {x : Operand} (ho : o.op = .load t x) {d : TypeDesc} (hu : P.underlying t = some d) (ha : aggD d = false) {m p : Nat} (hx : (σ.ev x).ptOf = some (m, p)) {ty : TypeId} {cs : List OC} (hm : σ.n m = .bt ty cs) {v : DV} (hv : cs[p]? = some (.dv v)) (hd : dOk o N = true) : OpS P N w0 U0 o σ ⟨o.dst.map fun d => (d, .d v), [], [m], []⟩ :=
  opS_still (P := P) (av := .d v) hd fun σ' hok a w F hF => by
    obtain ⟨b, h1, h2⟩ := pt_get hok hF (x := x) (by simp [ho, Op.operands]) hx
    have hm' : σ'.n m = .bt ty cs := by rw [hok.n m (by simp)]; exact hm
    obtain ⟨vs, T, _, _, k3, k8, _, _⟩ := bt_get hF hm' h1
    have hlt : p < vs.toList.length := by rw [k8.l]; exact (List.getElem?_eq_some_iff.1 hv).1
    obtain ⟨u, hu'⟩ : ∃ u, vs.toList[p]? = some u := ⟨_, List.getElem?_eq_getElem hlt⟩
    have hc : w.cell? ⟨b, p, none⟩ = some u := by rw [cell_of_row w b p vs ty (0, 0) k3]; simpa using hu'
    refine ⟨u, ?_, (k8.c p u _ hu' hv).1⟩
    simp [execOp, ho, h2, Instr.loadAt, Instr.sureAddr, run_load_one hu ha hc]
/-! ### contracts whose result is the caller's own -/
inductive RO where
  | tr (e : TypeId) (z : Nat) (rows : List (List OC))
  | sv (cs : List OC)
def RO.ob : RO → Ob
  | .tr e z rows => .tr e z rows
  | .sv cs => .sv cs
def RresO (w : World) (U : Nat → Nat) (B : Nat) (v : Value) : RO → Prop
  | .tr e z rows => ∃ xs T, w.ownsRow B e z v rows.length xs ∧ Tcs w U B xs rows.flatten T ∧ (∀ r ∈ rows, r.length = z) ∧ ∀ b, v.ownBlock = some b → U b = 0 ∧ ∀ k, ¬ T k b
  | .sv cs => ∃ vs T, v = .agg vs ∧ Tcs w U B vs.toList cs T
def CtrO (P : Program) (f : FuncId) (args : List DV) (r : RO) : Prop :=
  ∀ (vals : List Value) (U : Nat → Nat) (w : World), Rds w U vals args → Calls P f vals.toArray w fun e w' => ∃ v U', e = .returned v ∧ Below w.heap.size w w' ∧ (∀ b, b < w.heap.size → U' b = U b) ∧ RresO w' U' w.heap.size v r
theorem callO_fit {o : Oper} {σ σ' : AS} {a : Act} {w w' : World} {F : Fr} (m : Nat) (hs : St N w0 U0 σ' a w) (hF : Fits w0 U0 σ' a w F) (hfr : fresh σ' m) (hd : dOk o N = true) {v : Value} {U' : Nat → Nat} {r : RO} (h1 : Below w.heap.size w w') (h2 : ∀ b, b < w.heap.size → U' b = F.U b) (h3 : RresO w' U' w.heap.size v r) (rns : List Nat) :
    St N w0 U0 ((⟨o.dst.map fun d => (d, .ow m), (m, r.ob) :: ([] : List Nat).map (fun q => (q, Ob.no)), rns, [m]⟩ : Eff).ap σ') (a.put o.dst v) w' := by
  have hE : Ext w F.U w' U' := (Up.mk h1.block h2 : Up w F.U w' U').ext
  obtain ⟨Sm, hS1, hS2⟩ : ∃ Sm : Nat → Prop, (∀ b, Sm b → w.heap.size ≤ b) ∧ Rob w0.heap.size w' ⟨fun k => if k = m then none else F.β k, fun k => if k = m then v else F.γ k, U', fun k b => if k = m then Sm b else F.S k b⟩ m r.ob := by
    cases r with
    | tr e z rows =>
      obtain ⟨xs, T, g1, g2, g3, g4⟩ := h3
      refine ⟨fun b => v.ownBlock = some b ∨ ∃ k, T k b, fun b hb => ?_, xs, T, by simp only [↓reduceIte]; exact Rc.base g1 hs.b.size, g2.base hs.b.size, g3, fun b hb => by simp only [↓reduceIte] at hb; exact g4 b hb, fun b => by simp only [↓reduceIte]⟩
      rcases hb with hb | ⟨k, hb⟩
      · exact (g1.lt b hb).1
      · exact (g2.lt hb).1
    | sv cs =>
      obtain ⟨vs, T, g1, g2⟩ := h3
      exact ⟨fun b => ∃ k, T k b, fun b ⟨k, hb⟩ => (g2.lt hb).1, vs, T, by simp only [↓reduceIte]; exact g1, g2.base hs.b.size, fun b => by simp only [↓reduceIte]⟩
  have hfit := hF.make (m := m) (ob := r.ob) (ks := []) (γv := v) (βv := none) (Sm := Sm) (U' := U') (w' := w') (a' := a.put o.dst v) (tw := o.dst.map fun d => (d, .ow m)) hfr hE (fun b hb => h2 b (by have := hs.b.size; omega)) (fun k b _ _ _ hlt => ⟨h1.block b hlt, h2 b hlt⟩) (fun b hb => .inl (hS1 b hb)) hS2
    (hta_put hd hs.s (.ow m) _).1 (fun d v' h => by
      obtain ⟨rfl, h3⟩ := (hta_put hd hs.s (.ow m) v).2 d v' h
      rw [h3]; exact (if_pos rfl).symm) rns [m]
  exact ⟨by rw [put_defers]; exact hs.d, by rw [put_size]; exact hs.s, hs.b.trans (h1.mono hs.b.size), _, hfit⟩
theorem op_callO {o : Oper} {σ : AS} {f : FuncId} {args : Array Operand} {ats : Array TypeId} (m : Nat) (ho : o.op = .call { callee := .value (.func f), args := args, argTypes := ats }) {fn : Func} (hf : P.funcs[f]? = some fn) (hn : (fn.name == "runtime.NumGoroutine") = false) (hb : fn.body.isNone = false)
    {ds : List DV} {rns : List Nat} {r : RO} (ha : ArgsS σ args.toList ds rns) (hc : CtrO P f ds r) (hd : dOk o N = true) : OpS P N w0 U0 o σ ⟨o.dst.map fun d => (d, .ow m), (m, r.ob) :: ([] : List Nat).map (fun q => (q, Ob.no)), rns, [m]⟩ := by
  intro σ' hok a w hs K Q hK
  obtain ⟨F, hF⟩ := hs.f
  have hR := ha.get hF hok.n (fun x hx => ev_ok hok (by simp [ho, Op.operands, Call.operands]; exact .inr (by simpa using hx)))
  have hcall := hc _ F.U w hR
  unfold Oper.wp
  have hex : (execOp a.eval o).run P w = .ok (.enter f (args.toList.map a.eval).toArray) w := by
    unfold execOp
    simp only [ho, resolve, Act.eval, Deferred.ofValue, invoke, Sem.run_bind, Sem.run_pure, Result.andThen_ok]
    have e1 : (#[] ++ Array.map a.eval args ++ #[] : Array Value) = (args.toList.map a.eval).toArray := by
      apply Array.ext'
      simp
    rw [e1]
    exact run_call hf hn hb _ w
  rw [hex, Oper.upon_enter]
  refine Calls.mono hcall ?_
  rintro e w' ⟨v, U', rfl, h1, h2, h3⟩
  exact hK _ _ (callO_fit (σ := σ) m hs hF (hok.f m (by simp)) hd h1 h2 h3 rns)
theorem op_callVO {o : Oper} {σ : AS} {fo : Operand} {args : Array Operand} {ats : Array TypeId} (m : Nat) (ho : o.op = .call { callee := .value fo, args := args, argTypes := ats }) {g : FuncId} {caps : List DV} (hfo : σ.ev fo = .d (.fn g caps)) (hg : FnOk P g)
    {ds : List DV} {rns : List Nat} {r : RO} (ha : ArgsS σ args.toList ds rns) (hc : CtrO P g (ds ++ caps) r) (hd : dOk o N = true) : OpS P N w0 U0 o σ ⟨o.dst.map fun d => (d, .ow m), (m, r.ob) :: ([] : List Nat).map (fun q => (q, Ob.no)), rns, [m]⟩ := by
  obtain ⟨fn, hf, hn, hb⟩ := hg
  intro σ' hok a w hs K Q hK
  obtain ⟨F, hF⟩ := hs.f
  have hfv : Rd w F.U (a.eval fo) (.fn g caps) := ev_get hok hF (x := fo) (by simp [ho, Op.operands, Call.operands]) hfo
  obtain ⟨vs, hv, hvs⟩ : ∃ vs : Array Value, a.eval fo = .func (.func g) #[] vs ∧ Rds w F.U vs.toList caps := by
    generalize a.eval fo = v at hfv
    cases hfv with
    | fn _ vs _ h hc => exact ⟨vs, rfl, by simpa using h, hc⟩
  have hR := (ha.get hF hok.n (fun x hx => ev_ok hok (by simp [ho, Op.operands, Call.operands]; exact .inr (by simpa using hx)))).append hvs
  have hcall := hc _ F.U w hR
  unfold Oper.wp
  have hex : (execOp a.eval o).run P w = .ok (.enter g (args.toList.map a.eval ++ vs.toList).toArray) w := by
    unfold execOp
    simp only [ho, resolve, hv, Deferred.ofValue, invoke, Sem.run_bind, Sem.run_pure, Result.andThen_ok]
    have e1 : (#[] ++ Array.map a.eval args ++ vs : Array Value) = (args.toList.map a.eval ++ vs.toList).toArray := by
      apply Array.ext'
      simp
    rw [e1]
    exact run_call hf hn hb _ w
  rw [hex, Oper.upon_enter]
  refine Calls.mono hcall ?_
  rintro e w' ⟨v, U', rfl, h1, h2, h3⟩
  exact hK _ _ (callO_fit (σ := σ) m hs hF (hok.f m (by simp)) hd h1 h2 h3 rns)
/-- what a body hands to its caller as its own -/
inductive ResO (P : Program) (σ : AS) : ResultVar → RO → Prop
  | tmp {t : Tmp} {m : Nat} {e : TypeId} {z : Nat} {rows : List (List OC)} (hv : σ.t t = .ow m) (hm : σ.n m = .tr e z rows) : ResO P σ (.tmp t) (.tr e z rows)
  | tmpS {t : Tmp} {m : Nat} {cs : List OC} (hv : σ.t t = .ow m) (hm : σ.n m = .sv cs) : ResO P σ (.tmp t) (.sv cs)
  | cell {c : Tmp} {ty : TypeId} {m : Nat} {ty' : TypeId} {cs : List OC} {desc : TypeDesc} {zv : Value} {sz b : Nat} (ha : σ.t c = .pt m 0) (hm : σ.n m = .bt ty' cs) (hu : P.underlying ty = some desc) (hg : aggD desc = true) (hi : TI P ty zv sz b) (hl : Nat.beq cs.length sz = true) : ResO P σ (.cell c ty) (.sv cs)
def retO (P : Program) (rs : Array ResultVar) (r : RO) : Exit → AS → Prop
  | .normal, σ | .ret, σ => ∃ rv, rs = #[rv] ∧ ResO P σ rv r
  | _, _ => False
theorem ResO.run {σ : AS} {a : Act} {w : World} {F : Fr} (hF : Fits w0 U0 σ a w F) {rv : ResultVar} {r : RO} (h : ResO P σ rv r) : ∃ v, (resVal a rv).run P w = .ok v w ∧ RresO w F.U w0.heap.size v r := by
  cases h with
  | @tmp t m e z rows hv hm =>
    have h1 := hF.t t
    rw [hv] at h1
    have h2 := hF.n m
    rw [hm] at h2
    obtain ⟨xs, T, g1, g2, g3, g4, g5⟩ := h2
    have h1' : a.tmps.getD t undef = F.γ m := h1
    exact ⟨_, rfl, xs, T, by rw [h1']; exact g1, g2, g3, by rw [h1']; exact g4⟩
  | @tmpS t m cs hv hm =>
    have h1 := hF.t t
    rw [hv] at h1
    have h2 := hF.n m
    rw [hm] at h2
    obtain ⟨vs, T, g1, g2, g3⟩ := h2
    have h1' : a.tmps.getD t undef = F.γ m := h1
    exact ⟨_, rfl, vs, T, by rw [h1']; exact g1, g2⟩
  | @cell c ty m ty' cs desc zv sz b ha hm hu hg hi hl =>
    obtain ⟨ti, t1, _, t3, _⟩ := hi
    subst t3
    have hl' := Nat.eq_of_beq_eq_true hl
    have h1 := hF.t c
    rw [ha] at h1
    obtain ⟨g, hβ, hv⟩ := h1
    obtain ⟨vs, T, kB, kU, k3, k8, kT, kS⟩ := bt_get hF hm hβ
    have hvl := k8.l
    have hld := run_load_many (P := P) hu hg t1 (w := w) (b := g) (o := 0) (us := vs.toList) (by omega) (fun j u hu => by rw [Nat.zero_add, cell_of_row w g j vs ty' (0, 0) k3]; simpa using hu)
    refine ⟨.agg vs, ?_, vs, T, rfl, k8⟩
    simp only [resVal, hv, asAddr, Sem.run_bind, Sem.run_pure, Result.andThen_ok, hld]
theorem ctrO {f : FuncId} {fn : Func} {c : Code} {args : List DV} {r : RO} {n : Nat} {rs : Array ResultVar} {L : List (Nat × AV)} (hf : P.funcs[f]? = some fn) (hb : fn.body = some c) (hn : fn.ntmps = n) (hr : fn.results = rs) (hl : Nat.ble args.length n = true) (hL : args0 args 0 = L)
    (h : ∀ w0 U0, A P n w0 U0 c (retO P rs r) (SS L [])) : CtrO P f args r := by
  subst hn
  subst hr
  subst hL
  intro vals U w hR
  have hle := Nat.le_of_ble_eq_true hl
  have hsz : (vals.toArray ++ Array.replicate (fn.ntmps - vals.toArray.size) undef).size = fn.ntmps := by simp [hR.1]; omega
  refine calls_of_wp hf hb ((h w U).go _ _ ⟨rfl, hsz, Below.refl _ _, ⟨fun _ => none, fun _ => undef, U, fun _ _ => False⟩, fun _ _ => rfl, fun t => ?_, fun m => trivial, fun m m' b h => by cases h⟩ _ (fun e σ' a' w' hr hs' => ?_))
  · show Rav w _ (lk (args0 args 0) t) _
    rw [args0_get]
    split
    · rename_i ht
      have hl := hR.1
      have ht' : t < args.length := by simpa using ht.2
      have hv : (vals.toArray ++ Array.replicate (fn.ntmps - vals.toArray.size) undef).getD t undef = vals[t]'(by omega) := by
        rw [Array.getD_eq_getD_getElem?, Array.getElem?_append_left (by simp; omega)]
        simp [List.getElem?_eq_getElem (show t < vals.length by omega)]
      rw [hv]
      exact hR.2 t _ _ (List.getElem?_eq_getElem (by omega)) (by simp [List.getElem?_eq_getElem ht'])
    · trivial
  · have key : (∃ rv, fn.results = #[rv] ∧ ResO P σ' rv r) → a'.defers = [] ∧ ∃ v, (results fn a'.tmps).run P w' = .ok v w' ∧ ∃ v' U', Ending.returned v = .returned v' ∧ Below w.heap.size w w' ∧ (∀ b, b < w.heap.size → U' b = U b) ∧ RresO w' U' w.heap.size v' r := by
      rintro ⟨rv, hrs, hO⟩
      obtain ⟨F, hF⟩ := hs'.f
      obtain ⟨v, h1, h2⟩ := hO.run hF
      refine ⟨hs'.d, v, ?_, _, F.U, rfl, hs'.b, hF.u, h2⟩
      have hres : results fn a'.tmps = (fn.results.mapM (resVal a') >>= fun vs => pure (if h : vs.size = 1 then vs[0] else .tuple vs)) := rfl
      have hm : (fn.results.mapM (resVal a')).run P w' = .ok #[v] w' := by
        rw [hrs, Array.mapM_eq_mapM_toList]
        simp [h1]
      rw [hres, Sem.run_bind, hm]
      rfl
    cases e with
    | normal => exact key hr
    | ret => exact key hr
    | _ => exact hr.elim
end
end Go.Proofs.Ytobgdemhadlgnaa.Av

namespace Go.Proofs.Ytobgdemhadlgnaa.Av
open Go Go.RowKit
open Go.ChangeMaps (setBlock)
section
variable {P : Program} {N : Nat} {w0 : World} {U0 : Nat → Nat}
def keyTd : TypeDesc → Bool
  | .int _ | .string | .bool => true
  | _ => false
/-- the look-up in the entries -/
def mfind (td : TypeDesc) (k : Value) : List (Value × DV) → Option (Option DV)
  | [] => some none
  | x :: xs => match Instr.sameNow td k x.1 with
    | some true => some (some x.2)
    | some false => mfind td k xs
    | none => none
theorem find_ents {w : World} {U : Nat → Nat} {td : TypeDesc} {k : Value} : ∀ (es : List MapEntry) (xs : List (Value × DV)) (i : Nat), Ents w U es xs → ∀ r, mfind td k xs = some r →
    (r = none → Instr.findNow td k es i = some none) ∧ ∀ d, r = some d → ∃ j v, Instr.findNow td k es i = some (some (j, v)) ∧ Rd w U v d
  | [], [], i, _, r, hr => ⟨fun _ => rfl, fun d hd => by subst hd; simp [mfind] at hr⟩
  | [], x :: xs, i, h, r, hr => by have := h.1; simp at this
  | e :: es, [], i, h, r, hr => by have := h.1; simp at this
  | e :: es, x :: xs, i, h, r, hr => by
    obtain ⟨h1, h2⟩ := h.2 0 e x rfl rfl
    have ih := find_ents (td := td) (k := k) es xs (i + 1) ⟨by have := h.1; simpa using this, fun j e x h3 h4 => h.2 (j + 1) e x (by simpa using h3) (by simpa using h4)⟩ r
    simp only [mfind, Instr.findNow, h1] at hr ⊢
    cases hs : Instr.sameNow td k x.1 with
    | none => rw [hs] at hr; cases hr
    | some b =>
      rw [hs] at hr
      cases b with
      | true =>
        simp only at hr
        injection hr with hr
        subst hr
        exact ⟨fun h => (by cases h), fun d hd => by injection hd with hd; subst hd; exact ⟨i, e.val, rfl, h2⟩⟩
      | false => exact ih hr
theorem run_checkKey' {kt : TypeId} {td : TypeDesc} (h : P.underlying kt = some td) (hk : keyTd td = true) (k : Value) (w : World) (e : Bool) (n : Nat) : (Instr.checkKey e (n + 1) kt k).run P w = .ok () w := by
  cases td <;> first | (cases hk; done) | simp [Instr.checkKey, run_underlying h, Result.andThen]
theorem run_findKey' {kt : TypeId} {td : TypeDesc} (h : P.underlying kt = some td) {k : Value} {es : List MapEntry} {r : Option (Nat × Value)} (hr : Instr.findNow td k es 0 = some r) (w : World) : (Instr.findKey kt k es).run P w = .ok r w := by
  simp [Instr.findKey, run_underlying h, hr, Result.andThen]
def zDV : Value → DV
  | .agg vs => .ag (vs.toList.map .fl)
  | v => .fl v
def zOk : Value → Bool
  | .agg vs => vs.toList.all fun u => u.oneCell'
  | _ => true
theorem rd_zero {w : World} {U : Nat → Nat} {z : Value} (h : zOk z = true) : Rd w U z (zDV z) := by
  cases z with
  | agg vs =>
    refine .ag vs _ (by simp) (fun u hu => List.all_eq_true.1 h u hu) (fun j u x h1 h2 => ?_)
    rw [List.getElem?_map, h1] at h2
    injection h2 with h2
    subst h2
    exact .fl u
  | _ => exact .fl _
/-- a map that is read: as a datum, or of the call's own -/
inductive MapS (σ : AS) : AV → List (Value × DV) → List Nat → Prop
  | d (xs : List (Value × DV)) : MapS σ (.d (.mp xs)) xs []
  | ow {m : Nat} {xs : List (Value × DV)} (h : σ.n m = .mp xs) : MapS σ (.ow m) xs [m]
theorem MapS.get {σ σ' : AS} {a : Act} {w : World} {F : Fr} (hF : Fits w0 U0 σ' a w F) {av : AV} {xs : List (Value × DV)} {rn : List Nat} (h : MapS σ av xs rn) (hrn : ∀ m ∈ rn, σ'.n m = σ.n m) {u : Value} (hu : Rav w F av u) :
    ∃ b es c, u = .map (some b) ∧ w.heap[b]? = some (.map es c) ∧ Ents w F.U es.toList xs := by
  cases h with
  | d =>
    cases hu with
    | mp r es c _ hb hu hl hk hv _ => exact ⟨r, es, c, rfl, hb, by simpa using hl, fun i e x h1 h2 => ⟨hk i e x h1 h2, hv i e x h1 h2⟩⟩
  | @ow m _ h =>
    have := hF.n m
    rw [hrn m (by simp), h] at this
    obtain ⟨b, es, c, h1, _, _, h4, h5, _, _⟩ := this
    have hu' : u = F.γ m := hu
    exact ⟨b, es, c, hu'.trans h1, h4, h5⟩
/-- 'v, ok := m[k]' -/
theorem op_lookup {o : Oper} {σ : AS} {t : TypeId} {x y : Operand} (ho : o.op = .lookup t x y true) {kt et : TypeId} (ht : P.underlying t = some (.map kt et)) {td : TypeDesc} (hk : P.underlying kt = some td) (htd : keyTd td = true)
    {z : Value} {sz bb : Nat} (hi : TI P et z sz bb) (hz : zOk z = true) {av : AV} (hx : σ.ev x = av) {xs : List (Value × DV)} {rn : List Nat} (hm : MapS σ av xs rn) {k : Value} (hy : σ.ev y = .d (.fl k)) {r : Option DV} (hr : mfind td k xs = some r) (hd : dOk o N = true) :
    OpS P N w0 U0 o σ ⟨o.dst.map fun d => (d, .tu [r.getD (zDV z), .fl (.bool r.isSome)]), [], rn, []⟩ := by
  intro σ' hok a w hs K Q hK
  obtain ⟨F, hF⟩ := hs.f
  obtain ⟨b, es, c, h1, h2, h3⟩ := hm.get hF (fun q hq => hok.n q hq) (ev_get hok hF (x := x) (by simp [ho, Op.operands]) hx)
  have hky := ev_get hok hF (x := y) (by simp [ho, Op.operands]) hy
  have hkv : a.eval y = k := by generalize a.eval y = v at hky; cases hky; rfl
  obtain ⟨i, i1, i2, _, _⟩ := hi
  have hzv : (zeroValue et).run P w = .ok z w := by simp [zeroValue, typeInfo, i1, i2]
  obtain ⟨g1, g2⟩ := find_ents es.toList xs 0 h3 r hr
  have key : ∃ v, (execOp a.eval o).run P w = .ok (.value (.tuple #[v, .bool r.isSome])) w ∧ Rd w F.U v (r.getD (zDV z)) := by
    cases r with
    | none =>
      refine ⟨z, ?_, rd_zero hz⟩
      simp [execOp, ho, Instr.lookup, h1, hkv, run_underlying ht, MapKept.run_getObj_map h2, run_checkKey' hk htd, run_findKey' hk (g1 rfl), hzv, Result.andThen]
    | some d =>
      obtain ⟨j, v, e1, e2⟩ := g2 d rfl
      refine ⟨v, ?_, e2⟩
      simp [execOp, ho, Instr.lookup, h1, hkv, run_underlying ht, MapKept.run_getObj_map h2, run_checkKey' hk htd, run_findKey' hk e1, Result.andThen]
  obtain ⟨v, hrun, hv⟩ := key
  unfold Oper.wp
  rw [hrun]
  have hfit := hF.put (U' := F.U) (w' := w) hs.b.size ⟨fun _ _ => rfl, fun _ _ => rfl⟩ hd hs.s (av := .tu [r.getD (zDV z), .fl (.bool r.isSome)]) (v := .tuple #[v, .bool r.isSome]) ⟨_, rfl, Rds.cons hv (Rds.cons (.fl _) Rds.nil)⟩ rn []
  exact hK _ _ ⟨by rw [put_defers]; exact hs.d, by rw [put_size]; exact hs.s, hs.b, _, hfit⟩
/-! ### the call's own object is written -/
theorem setBlock_same {w : World} {b : Nat} (o : Obj) (h : b < w.heap.size) : (setBlock w b o).heap[b]? = some o := by
  simp [setBlock, Array.getElem?_setIfInBounds, h]
theorem setBlock_other {w : World} {b k : Nat} (o : Obj) (h : k ≠ b) : (setBlock w b o).heap[k]? = w.heap[k]? := by
  simp [setBlock, Array.getElem?_setIfInBounds, Ne.symm h]
theorem below_setBlock {B : Nat} {a w : World} (h : Below B a w) {b : Nat} (hb : B ≤ b) (o : Obj) : Below B a (setBlock w b o) :=
  ⟨h.os, h.tape, h.output, by simpa [setBlock] using h.size, fun k hk => (setBlock_other o (by omega)).trans (h.block k hk)⟩
theorem ext_setBlock {w : World} {U : Nat → Nat} {b : Nat} (o : Obj) (hU : U b = 0) : Ext w U (setBlock w b o) U :=
  ⟨fun b' o' u hc ho' => by
    have hne : b' ≠ b := fun e => by rw [e, hU] at ho'; omega
    exact ⟨(World.cell?_of_block (setBlock_other o hne)).trans hc, ho'⟩, fun r es c hr hu => by
    have hne : r ≠ b := fun e => by rw [e, hU] at hu; omega
    exact ⟨setBlock_other o hne, rfl⟩⟩
theorem nw_one {m k : Nat} {o : Ob} : nwGet [(m, o)] k = if k = m then some o else none := by
  show (bif Nat.beq m k then some o else none) = _
  by_cases h : k = m
  · subst h; rw [Nat.beq_refl, if_pos rfl]; rfl
  · rw [nbeq (Ne.symm h), if_neg h]; rfl
theorem Fits.setobj {σ : AS} {a a' : Act} {w : World} {F : Fr} (h : Fits w0 U0 σ a w F) {m b : Nat} (hl : (σ.n m).live = true) (hS : ∀ b', F.S m b' ↔ b' = b) (hU : F.U b = 0) {obj : Obj} {ob : Ob} (hob : Rob w0.heap.size (setBlock w b obj) F m ob) {tw : Option (Nat × AV)}
    (hta : ∀ t, a'.tmps.getD t undef = (match tw with | some (d, _) => if d = t then a'.tmps.getD t undef else a.tmps.getD t undef | none => a.tmps.getD t undef)) (htv : ∀ d v, tw = some (d, v) → Rav (setBlock w b obj) F v (a'.tmps.getD d undef)) (rn : List Nat) :
    Fits w0 U0 ((⟨tw, [(m, ob)], rn, []⟩ : Eff).ap σ) a' (setBlock w b obj) F :=
  h.big (F' := F) (tw := tw) (nw := [(m, ob)]) (ext_setBlock obj hU) (fun _ _ => rfl) (fun k _ => ⟨rfl, rfl, fun _ => Iff.rfl⟩) (fun k _ => .inl ⟨rfl, rfl⟩)
    (fun k hkl hk x hx hlt => ⟨setBlock_other obj (fun e => by
      subst e
      have := h.i k m x hkl hl hx ((hS x).2 rfl)
      rw [nw_one, if_pos this] at hk; cases hk), rfl⟩)
    (fun k o hk => by
      rw [nw_one] at hk
      by_cases e : k = m
      · rw [if_pos e] at hk; injection hk with hk; subst hk e; exact hob
      · rw [if_neg e] at hk; cases hk)
    (fun k o k' x hk hol hk' hkl' hx hx' => by
      rw [nw_one] at hk hk'
      by_cases e : k = m
      · subst e
        have := h.i k k' x hl hkl' hx hx'
        rw [if_pos this.symm] at hk'; cases hk'
      · rw [if_neg e] at hk; cases hk)
    (fun k o k' o' x hk _ hk' _ _ _ => by
      rw [nw_one] at hk hk'
      by_cases e : k = m
      · by_cases e' : k' = m
        · rw [e, e']
        · rw [if_neg e'] at hk'; cases hk'
      · rw [if_neg e] at hk; cases hk)
    hta htv rn []
/-- a block is laid that the call owns -/
theorem Fits.newobj {σ : AS} {a : Act} {w : World} {F : Fr} (h : Fits w0 U0 σ a w F) (hs : w0.heap.size ≤ w.heap.size) {m : Nat} {ob : Ob} (hf : fresh σ m) {γv : Value} (obj : Obj) {o : Oper} (hd : dOk o N = true) (hN : a.tmps.size = N)
    (hob : ∀ F' : Fr, F'.γ m = γv → F'.U w.heap.size = 0 → (∀ b, F'.S m b ↔ b = w.heap.size) → Rob w0.heap.size (w.alloc obj) F' m ob) :
    ∃ F', Fits w0 U0 ((⟨o.dst.map fun d => (d, .ow m), [(m, ob)], [], [m]⟩ : Eff).ap σ) (a.put o.dst γv) (w.alloc obj) F' := by
  obtain ⟨U', hU'⟩ : ∃ U' : Nat → Nat, U' = fun b => if b = w.heap.size then 0 else F.U b := ⟨_, rfl⟩
  have hU1 : U' w.heap.size = 0 := by rw [hU']; simp
  have hU2 : ∀ b, b < w.heap.size → U' b = F.U b := fun b hb => by rw [hU']; simp; intro h; omega
  have hE : Ext w F.U (w.alloc obj) U' := Up.ext ⟨fun b hlt => Below.heap_alloc w _ b hlt, hU2⟩
  exact ⟨_, h.name (kill := none) (bo := some w.heap.size) (γv := γv) (U' := U') (v := γv) (av := .ow m) hf hE (fun b hb => hU2 b (by omega)) (fun k b hl _ hb hlt => ⟨Below.heap_alloc w _ b hlt, hU2 b hlt⟩)
      (fun k b hl _ hb e => by have := live_lt h hl hb; injection e with e; omega)
      (hob _ (if_pos rfl) hU1 (fun b => by show (if m = m then some w.heap.size = some b else _) ↔ _; rw [if_pos rfl]; exact ⟨fun h => by injection h with h; exact h.symm, fun h => by rw [h]⟩)) hd hN (by show γv = (if m = m then γv else _); rw [if_pos rfl]) []⟩
theorem op_makeMap {o : Oper} {σ : AS} {t : TypeId} (m : Nat) (ho : o.op = .makeMap t none) (hd : dOk o N = true) : OpS P N w0 U0 o σ ⟨o.dst.map fun d => (d, .ow m), [(m, .mp [])], [], [m]⟩ := by
  intro σ' hok a w hs K Q hK
  obtain ⟨F, hF⟩ := hs.f
  obtain ⟨F', hfit⟩ := hF.newobj hs.b.size (ob := .mp []) (hok.f m (by simp)) (γv := .map (some w.heap.size)) (.map #[] 0) hd hs.s (fun F' h1 h2 h3 => ⟨w.heap.size, #[], 0, h1, hs.b.size, h2, Go.heap_alloc_new w _, ⟨rfl, fun i e x h => by simp at h⟩, h3, MapKept.stamped_empty 0⟩)
  have hrun : (execOp a.eval o).run P w = .ok (.value (.map (some w.heap.size))) (w.alloc (.map #[] 0)) := by
    simp [execOp, ho, show (Instr.makeMap t none).run P w = .ok (.map (some w.heap.size)) (w.alloc (.map #[] 0)) from rfl, Result.andThen]
  unfold Oper.wp
  rw [hrun]
  exact hK _ _ ⟨by rw [put_defers]; exact hs.d, by rw [put_size]; exact hs.s, hs.b.alloc hs.b.size _, _, hfit⟩
theorem op_range {o : Oper} {σ : AS} {t : TypeId} {x : Operand} (m : Nat) (ho : o.op = .range t x) (hu : P.underlying t = some .string) {s : ByteArray} (hx : σ.ev x = .d (.fl (.string s))) (hd : dOk o N = true) : OpS P N w0 U0 o σ ⟨o.dst.map fun d => (d, .ow m), [(m, .it s 0)], [], [m]⟩ := by
  intro σ' hok a w hs K Q hK
  obtain ⟨F, hF⟩ := hs.f
  have hvx := ev_get hok hF (x := x) (by simp [ho, Op.operands]) hx
  have hv : a.eval x = .string s := by generalize a.eval x = v at hvx; cases hvx; rfl
  obtain ⟨F', hfit⟩ := hF.newobj hs.b.size (ob := .it s 0) (hok.f m (by simp)) (γv := .pointer (some ⟨w.heap.size, 0, none⟩)) (.stringIter s 0) hd hs.s (fun F' h1 h2 h3 => ⟨w.heap.size, h1, hs.b.size, h2, Go.heap_alloc_new w _, h3⟩)
  have hrun : (execOp a.eval o).run P w = .ok (.value (.pointer (some ⟨w.heap.size, 0, none⟩))) (w.alloc (.stringIter s 0)) := by
    simp [execOp, ho, hv, run_range_string w t s hu, World.iter, Result.andThen]
  unfold Oper.wp
  rw [hrun]
  exact hK _ _ ⟨by rw [put_defers]; exact hs.d, by rw [put_size]; exact hs.s, hs.b.alloc hs.b.size _, _, hfit⟩
theorem it_get {σ' : AS} {a : Act} {w : World} {F : Fr} (hF : Fits w0 U0 σ' a w F) {m : Nat} {s : ByteArray} {p : Nat} (h : σ'.n m = .it s p) : ∃ b, F.γ m = .pointer (some ⟨b, 0, none⟩) ∧ w0.heap.size ≤ b ∧ F.U b = 0 ∧ w.heap[b]? = some (.stringIter s p) ∧ ∀ b', F.S m b' ↔ b' = b := by
  have := hF.n m
  rw [h] at this
  exact this
theorem op_next_yes {o : Oper} {σ : AS} {x : Operand} (ho : o.op = .next x true) {m p : Nat} {s : ByteArray} (hx : σ.ev x = .ow m) (hm : σ.n m = .it s p) (hp : p < s.size) (hd : dOk o N = true) :
    OpS P N w0 U0 o σ ⟨o.dst.map fun d => (d, .tu [.fl (.bool true), .fl (.int .i64 p), .fl (.int .i32 (Utf8.decode s p).1)]), [(m, .it s (p + (Utf8.decode s p).2))], [m], []⟩ := by
  intro σ' hok a w hs K Q hK
  obtain ⟨F, hF⟩ := hs.f
  have hv : a.eval x = F.γ m := ev_get hok hF (x := x) (by simp [ho, Op.operands]) hx
  have hm' : σ'.n m = .it s p := by rw [hok.n m (by simp)]; exact hm
  obtain ⟨b, h1, h2, h3, h4, h5⟩ := it_get hF hm'
  have hlt : b < w.heap.size := (Array.getElem?_eq_some_iff.1 h4).1
  have hset : ∀ o', (setObj b o').run P w = .ok () (setBlock w b o') := fun o' => by simp [setObj, Sem.run, h4, setBlock]
  have hget : (getObj b).run P w = .ok (.stringIter s p) w := by simp [getObj, Sem.run, h4]
  have hrun : (execOp a.eval o).run P w = .ok (.value (.tuple #[.bool true, .int .i64 p, .int .i32 (Utf8.decode s p).1])) (setBlock w b (.stringIter s (p + (Utf8.decode s p).2))) := by
    simp [execOp, ho, hv, h1, Instr.next, hget, hp, hset, Result.andThen, goInt]
  have hput := hta_put hd hs.s (.tu [.fl (.bool true), .fl (.int .i64 p), .fl (.int .i32 (Utf8.decode s p).1)]) (.tuple #[.bool true, .int .i64 p, .int .i32 (Utf8.decode s p).1])
  have hfit := hF.setobj (a' := a.put o.dst (.tuple #[.bool true, .int .i64 p, .int .i32 (Utf8.decode s p).1])) (m := m) (b := b) (by rw [hm']; rfl) h5 h3 (obj := .stringIter s (p + (Utf8.decode s p).2)) (ob := .it s (p + (Utf8.decode s p).2)) ⟨b, h1, h2, h3, setBlock_same _ hlt, h5⟩
    (tw := o.dst.map fun d => (d, .tu [.fl (.bool true), .fl (.int .i64 p), .fl (.int .i32 (Utf8.decode s p).1)])) hput.1 (fun d v hdv => by
      obtain ⟨e1, e2⟩ := hput.2 d v hdv
      subst e1
      rw [e2]
      exact ⟨_, rfl, Rds.cons (.fl _) (Rds.cons (.fl _) (Rds.cons (.fl _) Rds.nil))⟩) [m]
  unfold Oper.wp
  rw [hrun]
  exact hK _ _ ⟨by rw [put_defers]; exact hs.d, by rw [put_size]; exact hs.s, below_setBlock hs.b h2 _, _, hfit⟩
theorem op_next_no {o : Oper} {σ : AS} {x : Operand} (ho : o.op = .next x true) {m p : Nat} {s : ByteArray} (hx : σ.ev x = .ow m) (hm : σ.n m = .it s p) (hp : ¬ p < s.size) (hd : dOk o N = true) :
    OpS P N w0 U0 o σ ⟨o.dst.map fun d => (d, .tu [.fl (.bool false)]), [], [m], []⟩ := by
  intro σ' hok a w hs K Q hK
  obtain ⟨F, hF⟩ := hs.f
  have hv : a.eval x = F.γ m := ev_get hok hF (x := x) (by simp [ho, Op.operands]) hx
  have hm' : σ'.n m = .it s p := by rw [hok.n m (by simp)]; exact hm
  obtain ⟨b, h1, h2, h3, h4, h5⟩ := it_get hF hm'
  have hget : (getObj b).run P w = .ok (.stringIter s p) w := by simp [getObj, Sem.run, h4]
  have hrun : (execOp a.eval o).run P w = .ok (.value (.tuple #[.bool false])) w := by
    simp [execOp, ho, hv, h1, Instr.next, hget, hp, Result.andThen]
  have hfit := hF.put (U' := F.U) (w' := w) hs.b.size ⟨fun _ _ => rfl, fun _ _ => rfl⟩ hd hs.s (av := .tu [.fl (.bool false)]) (v := .tuple #[.bool false]) ⟨_, rfl, Rds.cons (.fl _) Rds.nil⟩ [m] []
  unfold Oper.wp
  rw [hrun]
  exact hK _ _ ⟨by rw [put_defers]; exact hs.d, by rw [put_size]; exact hs.s, hs.b, _, hfit⟩
theorem beqB {a b : ByteArray} (h : (a == b) = true) : a = b := by
  cases a; cases b
  congr 1
  exact eq_of_beq h
theorem sameNow_eq {td : TypeDesc} {k k' : Value} (h : Instr.sameNow td k k' = some true) : k = k' := by
  unfold Instr.sameNow at h
  split at h <;> first | (cases h; done) | skip
  · split at h
    · rename_i e; subst e; simp at h; subst h; rfl
    · cases h
  · injection h with h
    rw [beqB h]
  · simp at h; subst h; rfl
/-- 'm[k] = v' at a key that is not there -/
theorem not_self {td : TypeDesc} (htd : keyTd td = true) (k : Value) : Instr.sameNow td k k ≠ some false := by
  cases td <;> simp [keyTd] at htd <;> cases k <;> simp [Instr.sameNow] <;> exact (MapKept.bytes_beq _ _).2 rfl
theorem key_new {td : TypeDesc} (htd : keyTd td = true) {w : World} {U : Nat → Nat} {k : Value} : ∀ {es : List MapEntry} {xs : List (Value × DV)}, Ents w U es xs → mfind td k xs = some none → ∀ e ∈ es, e.key ≠ k
  | [], _, _, _, e, he => by simp at he
  | a :: es, [], h, _, _, _ => by have := h.1; simp at this
  | a :: es, x :: xs, h, hr, e, he => by
    have hx := (h.2 0 a x rfl rfl).1
    have ht : Ents w U es xs := ⟨by have := h.1; simpa using this, fun i e x h1 h2 => h.2 (i + 1) e x (by simpa using h1) (by simpa using h2)⟩
    unfold mfind at hr
    cases hb : Instr.sameNow td k x.1 with
    | none => rw [hb] at hr; cases hr
    | some b =>
      cases b with
      | true => rw [hb] at hr; cases hr
      | false =>
        rw [hb] at hr
        rcases List.mem_cons.1 he with rfl | he
        · intro e2; rw [hx] at e2; rw [e2] at hb; exact not_self htd k hb
        · exact key_new htd ht hr e he
theorem op_mapPush {o : Oper} {σ : AS} {t : TypeId} {x y z : Operand} (ho : o.op = .mapUpdate t x y z) (hdn : o.dst = none) {kt et : TypeId} (ht : P.underlying t = some (.map kt et)) {td : TypeDesc} (hk : P.underlying kt = some td) (htd : keyTd td = true)
    {m : Nat} {xs : List (Value × DV)} (hx : σ.ev x = .ow m) (hm : σ.n m = .mp xs) {k : Value} (hy : σ.ev y = .d (.fl k)) (hr : mfind td k xs = some none) {d : DV} (hz : σ.ev z = .d d) :
    OpS P N w0 U0 o σ ⟨none, [(m, .mp (xs ++ [(k, d)]))], [m], []⟩ := by
  intro σ' hok a w hs K Q hK
  obtain ⟨F, hF⟩ := hs.f
  have hv : a.eval x = F.γ m := ev_get hok hF (x := x) (by simp [ho, Op.operands]) hx
  have hvy := ev_get hok hF (x := y) (by simp [ho, Op.operands]) hy
  have hkv : a.eval y = k := by generalize a.eval y = v at hvy; cases hvy; rfl
  have hvz : Rd w F.U (a.eval z) d := ev_get hok hF (x := z) (by simp [ho, Op.operands]) hz
  have hm' : σ'.n m = .mp xs := by rw [hok.n m (by simp)]; exact hm
  have hn := hF.n m
  rw [hm'] at hn
  obtain ⟨b, es, c, h1, h2, h3, h4, h5, h6, hst⟩ := hn
  have hlt : b < w.heap.size := (Array.getElem?_eq_some_iff.1 h4).1
  obtain ⟨g1, _⟩ := find_ents es.toList xs 0 h5 none hr
  have hrun : (execOp a.eval o).run P w = .ok .skip (setBlock w b (.map (es.push ⟨k, a.eval z, c⟩) (c + 1))) := by
    simp [execOp, ho, hv, h1, hkv, Instr.mapUpdate, run_underlying ht, MapKept.run_getObj_map h4, run_checkKey' hk htd, run_findKey' hk (g1 rfl), MapKept.run_setObj_map _ h4, Result.andThen, setBlock]
  have hE := ext_setBlock (w := w) (Obj.map (es.push ⟨k, a.eval z, c⟩) (c + 1)) h3
  have hents : Ents (setBlock w b (.map (es.push ⟨k, a.eval z, c⟩) (c + 1))) F.U (es.push ⟨k, a.eval z, c⟩).toList (xs ++ [(k, d)]) := by
    have hl := h5.1
    refine ⟨by simp [← hl], fun i e u he hu => ?_⟩
    rw [Array.toList_push] at he
    rcases Nat.lt_or_ge i xs.length with hi | hi
    · rw [List.getElem?_append_left (by omega)] at he
      rw [List.getElem?_append_left hi] at hu
      exact ⟨(h5.2 i e u he hu).1, (h5.2 i e u he hu).2.ext hE⟩
    · rw [List.getElem?_append_right (by omega)] at he
      rw [List.getElem?_append_right hi] at hu
      have hi0 : i - xs.length = 0 := by
        have := (List.getElem?_eq_some_iff.1 hu).1
        simp at this; omega
      rw [hi0] at hu
      rw [show i - es.toList.length = 0 by omega] at he
      simp at he hu
      subst he hu
      exact ⟨rfl, hvz.ext hE⟩
  have hfit := hF.setobj (a' := a) (m := m) (b := b) (by rw [hm']; rfl) h6 h3 (obj := .map (es.push ⟨k, a.eval z, c⟩) (c + 1)) (ob := .mp (xs ++ [(k, d)])) ⟨b, _, _, h1, h2, h3, setBlock_same _ hlt, hents, h6, MapKept.stamped_push hst (fun e he => key_new htd h5 hr e he)⟩
    (tw := none) (fun _ => rfl) (fun _ _ h => by cases h) [m]
  unfold Oper.wp
  rw [hrun]
  have : a.put o.dst undef = a := by rw [hdn]; rfl
  unfold Oper.upon
  simp only [this]
  exact hK _ _ ⟨hs.d, hs.s, below_setBlock hs.b h2 _, _, hfit⟩
end
end Go.Proofs.Ytobgdemhadlgnaa.Av

namespace Go.Proofs.Ytobgdemhadlgnaa.Av
open Go Go.RowKit
open Go.ChangeMaps (setBlock)
section
variable {P : Program} {N : Nat} {w0 : World} {U0 : Nat → Nat}
theorem rg_upd {ops : Array Oper} {o : Oper} {k : Nat} {L : List (Nat × AV)} {M : List (Nat × Ob)} {R : AS → Prop} {d : Nat} {v : AV} {nw : List (Nat × Ob)} {rn : List Nat} (ho : ops[k]? = some o) (h : OpG P N w0 U0 ops o (SS L M) ⟨some (d, v), nw, rn, []⟩) (hr : RG P N w0 U0 ops (k + 1) (SS ((d, v) :: L) (nw ++ M)) R) : RG P N w0 U0 ops k (SS L M) R :=
  rg_step ho h (fun m hm => by cases hm) (by rw [ap_ss]; exact hr)
/-- the call's own map is read only from here on -/
theorem imp_mp {L : List (Nat × AV)} {M : List (Nat × Ob)} (t m : Nat) {xs : List (Value × DV)} (ht : lk L t = .ow m) (hm : ln M m = .mp xs) : Imp N w0 U0 (SS L M) (SS ((t, .d (.mp xs)) :: L) ((m, .no) :: M)) := by
  intro a w hs
  obtain ⟨F, hF⟩ := hs.f
  have hv : a.tmps.getD t undef = F.γ m := by have := hF.t t; rw [show (SS L M).t t = _ from ht] at this; exact this
  have hob := hF.n m
  rw [show (SS L M).n m = _ from hm] at hob
  obtain ⟨b, es, c, k1, k2, k3, k4, k5, k6, hst⟩ := hob
  have hlt : b < w.heap.size := (Array.getElem?_eq_some_iff.1 k4).1
  have hlive : ((SS L M).n m).live = true := by rw [show (SS L M).n m = _ from hm]; rfl
  obtain ⟨U', hU'⟩ : ∃ U' : Nat → Nat, U' = fun x => if x = b then 1 else F.U x := ⟨_, rfl⟩
  have hU1 : U' b = 1 := by rw [hU']; simp
  have hU2 : ∀ x, x ≠ b → U' x = F.U x := fun x h => by rw [hU']; simp [h]
  have hE : Ext w F.U w U' := ⟨fun b' o' u hc ho' => ⟨hc, by
    have hne : b' ≠ b := fun e => by rw [e, k3] at ho'; omega
    rw [hU2 _ hne]; exact ho'⟩, fun r es c hr hu => ⟨rfl, hU2 r (fun e => by rw [e, k3] at hu; omega)⟩⟩
  have := hF.big (F' := ⟨F.β, F.γ, U', fun k x => k ≠ m ∧ F.S k x⟩) (tw := some (t, .d (.mp xs))) (nw := [(m, .no)]) hE
    (fun x hx => hU2 x (by omega))
    (fun k hk => ⟨rfl, rfl, fun x => ⟨fun h => h.2, fun h => ⟨(fun e => by subst e; rw [nw_one, if_pos rfl] at hk; cases hk), h⟩⟩⟩)
    (fun k hk => .inl ⟨rfl, rfl⟩)
    (fun k hl hk x hx hxl => ⟨rfl, hU2 x (fun e => by
        subst e
        have := hF.i k m x hl hlive hx ((k6 x).2 rfl)
        rw [nw_one, if_pos this] at hk; cases hk)⟩)
    (fun k o hk => by
      rw [nw_one] at hk
      by_cases e : k = m
      · rw [if_pos e] at hk; injection hk with hk; subst hk; trivial
      · rw [if_neg e] at hk; cases hk)
    (fun k o k' x hk hl => by
      rw [nw_one] at hk
      by_cases e : k = m
      · rw [if_pos e] at hk; injection hk with hk; subst hk; cases hl
      · rw [if_neg e] at hk; cases hk)
    (fun k o k' o' x hk hl => by
      rw [nw_one] at hk
      by_cases e : k = m
      · rw [if_pos e] at hk; injection hk with hk; subst hk; cases hl
      · rw [if_neg e] at hk; cases hk)
    (a' := a) (fun t' => by simp only; split <;> rfl) (fun d v h => by
      simp only [Option.some.injEq, Prod.mk.injEq] at h
      obtain ⟨rfl, rfl⟩ := h
      rw [hv, k1]
      exact .mp b es c xs k4 (by show 0 < U' b; omega) (by simpa using k5.1) (fun i e x h1 h2 => (k5.2 i e x h1 h2).1) (fun i e x h1 h2 => (k5.2 i e x h1 h2).2.ext hE) hst) [] []
  rw [ap_ss] at this
  exact ⟨hs.d, hs.s, hs.b, _, this⟩
theorem op_max {o : Oper} {σ : AS} {x y : Operand} {ts : Array TypeId} (ho : o.op = .call { callee := .builtin .max, args := #[x, y], argTypes := ts }) {k : IntKind} {n q : Int} (hx : σ.ev x = .d (.fl (.int k n))) (hy : σ.ev y = .d (.fl (.int k q))) (hd : dOk o N = true) :
    OpS P N w0 U0 o σ ⟨o.dst.map fun d => (d, .d (.fl (.int k (max n q)))), [], [], []⟩ :=
  opS_still (P := P) (av := .d (.fl (.int k (max n q)))) hd fun σ' hok a w F hF => by
    have h1 := ev_get hok hF (x := x) (by simp [ho, Op.operands, Call.operands]) hx
    have h2 := ev_get hok hF (x := y) (by simp [ho, Op.operands, Call.operands]) hy
    have e1 : a.eval x = .int k n := by generalize a.eval x = v at h1; cases h1; rfl
    have e2 : a.eval y = .int k q := by generalize a.eval y = v at h2; cases h2; rfl
    refine ⟨_, ?_, Rd.fl _⟩
    have e3 : (if q > n then q else n) = max n q := by omega
    simp [execOp, ho, resolve, invoke, builtin, e1, e2, Builtin.max_, Builtin.max2, e3, Result.andThen]
theorem op_min {o : Oper} {σ : AS} {x y : Operand} {ts : Array TypeId} (ho : o.op = .call { callee := .builtin .min, args := #[x, y], argTypes := ts }) {k : IntKind} {n q : Int} (hx : σ.ev x = .d (.fl (.int k n))) (hy : σ.ev y = .d (.fl (.int k q))) (hd : dOk o N = true) :
    OpS P N w0 U0 o σ ⟨o.dst.map fun d => (d, .d (.fl (.int k (min n q)))), [], [], []⟩ :=
  opS_still (P := P) (av := .d (.fl (.int k (min n q)))) hd fun σ' hok a w F hF => by
    have h1 := ev_get hok hF (x := x) (by simp [ho, Op.operands, Call.operands]) hx
    have h2 := ev_get hok hF (x := y) (by simp [ho, Op.operands, Call.operands]) hy
    have e1 : a.eval x = .int k n := by generalize a.eval x = v at h1; cases h1; rfl
    have e2 : a.eval y = .int k q := by generalize a.eval y = v at h2; cases h2; rfl
    refine ⟨_, ?_, Rd.fl _⟩
    have e3 : (if q < n then q else n) = min n q := by omega
    simp [execOp, ho, resolve, invoke, builtin, e1, e2, Builtin.min_, Builtin.min2, e3, Result.andThen]
theorem of_eff {o : Oper} {σ : AS} {e e' : Eff} (h : OpS P N w0 U0 o σ e) (he : e = e') : OpS P N w0 U0 o σ e' := he ▸ h
/-- the look-up by a whole number among entries that come of a list -/
theorem mfind_map {α : Type} (q : IntKind) (key : α → Int) (val : α → DV) (p : Int) : ∀ l : List α, mfind (.int q) (.int q p) (l.map fun x => (.int q (key x), val x)) = some ((l.find? fun x => p == key x).map val)
  | [] => rfl
  | x :: l => by
    have ih := mfind_map q key val p l
    simp only [List.map_cons, mfind, Instr.sameNow, List.find?_cons, if_true]
    cases h : p == key x with
    | true => rfl
    | false => exact ih
end
end Go.Proofs.Ytobgdemhadlgnaa.Av

namespace Go.Proofs.Ytobgdemhadlgnaa.Av
open Go Go.RowKit
section
variable {P : Program} {N : Nat} {w0 : World} {U0 : Nat → Nat}
theorem ctr_of_O {f : FuncId} {args : List DV} {cs : List OC} (h : CtrO P f args (.sv cs)) (hok : (cs.all OC.ok) = true) : Ctr P f args (.d (.ag (cs.map OC.rd))) := by
  intro vals U w hR
  refine Calls.mono (h vals U w hR) ?_
  rintro e w' ⟨v, U', rfl, h1, h2, h3⟩
  obtain ⟨vs, T, rfl, g⟩ := h3
  refine ⟨_, leakU U' cs T, rfl, h1, fun b hb => ?_, ?_⟩
  · rw [leakU_no (fun ⟨k, hk⟩ => by have := (g.lt hk).1; omega)]
    exact h2 b hb
  · have hzero : ∀ b, (∃ k, T k b) → U' b = 0 := fun b ⟨k, hk⟩ => by
      have hlt := g.b k b hk
      have hl := g.l
      have hto := g.c k _ _ (List.getElem?_eq_getElem hlt) (List.getElem?_eq_getElem (by omega))
      revert hto
      generalize cs[k]'(by omega) = c
      intro hto
      cases c with
      | un => exact absurd hk (hto b)
      | dv x => exact absurd hk (hto.2 b)
      | ow e z rows =>
        obtain ⟨xs, k1, k2, k3, k4, k5⟩ := hto
        exact k5 b ((k4 b).1 hk)
    have hE : Ext w' U' w' (leakU U' cs T) := ⟨fun b o u hc ho => ⟨hc, by
      by_cases hb : ∃ k, T k b
      · rw [hzero b hb] at ho; omega
      · rw [leakU_no hb]; exact ho⟩, fun r es c hr hu => ⟨rfl, leakU_no (fun hb => by rw [hzero r hb] at hu; omega)⟩⟩
    have hrc := g.leak (fun c hc => List.all_eq_true.1 hok c hc) hE (fun k b c hk hc => leakU_T g.d hk hc)
    exact .ag vs _ (by have := hrc.1.1; simpa using this) hrc.2 hrc.1.2
theorem set_get {α : Type} {l : List α} {i : Nat} {r r' : α} (h : l[i]? = some r) : (l.set i r')[i]? = some r' := by
  rw [List.getElem?_set_self (List.getElem?_eq_some_iff.1 h).1]
theorem get_lt {α : Type} {l : List α} {i : Nat} {r : α} (h : l[i]? = some r) : i < l.length := (List.getElem?_eq_some_iff.1 h).1
/-- rows that own nothing, by their elements -/
def tD {α : Type} (f : α → List DV) (l : List α) : List (List OC) := (l.map f).map (·.map OC.dv)
theorem tD_at {α : Type} [Inhabited α] {f : α → List DV} {l : List α} {i : Nat} (h : i < l.length) : (tD f l)[i]? = some (List.map OC.dv (f (ix l i))) := by
  unfold tD; rw [List.getElem?_map, List.getElem?_map, ix_get h]; rfl
theorem tD_len {α : Type} {f : α → List DV} {l : List α} : (tD f l).length = l.length := by simp [tD]
theorem s_append_td {o : Oper} {σ : AS} {t e : TypeId} {s x : Operand} (m : Nat) (ho : o.op = .call { callee := .builtin .append, args := #[s, x], argTypes := #[t, t] })
    {zv : Value} {sz b : Nat} (ht : P.underlying t = some (.slice e)) (hi : TI P e zv sz b) (hzs : Nat.beq zv.cells.size sz = true) (hz0 : Nat.blt 0 sz = true) {m0 : Nat} {α : Type} {f : α → List DV} {l l' : List α} {rn : List Nat} {av : AV}
    (hs : σ.ev s = .ow m0) (hm : σ.n m0 = .tr e sz (tD f l)) (hx : σ.ev x = av) (hxv : AvD σ av (.sl sz (l'.map f)) rn) (hbytes : (l.length + l'.length) * (b + 1) ≤ 140737488355328) (hd : dOk o N = true) :
    OpS P N w0 U0 o σ ⟨o.dst.map fun d => (d, .ow m), [(m, .tr e sz (tD f (l ++ l'))), (m0, .no)], m0 :: rn, [m]⟩ := by
  have := op_append_tr (P := P) (N := N) (w0 := w0) (U0 := U0) m ho ht hi hzs hz0 hs hm hx (RowsS.d hxv) rfl (n := l.length) (n' := l'.length) tD_len (by simp) hbytes hd
  have e1 : tD f l ++ (l'.map f).map (·.map OC.dv) = tD f (l ++ l') := by simp [tD]
  rw [e1] at this
  exact this
end
end Go.Proofs.Ytobgdemhadlgnaa.Av

namespace Go.Proofs.Ytobgdemhadlgnaa.Av
open Go Go.RowKit
section
variable {P : Program} {N : Nat} {w0 : World} {U0 : Nat → Nat}
theorem op_index_trI {o : Oper} {σ : AS} {t : TypeId} {x y : Operand} (ho : o.op = .indexAddr t x y) {e : TypeId} (hu : P.underlying t = some (.slice e)) {zv : Value} {sz b : Nat} (hi : TI P e zv sz b) {m : Nat} {e' : TypeId} {rows : List (List OC)} (hx : σ.ev x = .ow m) (hm : σ.n m = .tr e' sz rows)
    {k : IntKind} {n : Int} (hy : σ.ev y = .d (.fl (.int k n))) (h0 : 0 ≤ n) (hn : n.toNat < rows.length) (hd : dOk o N = true) : OpS P N w0 U0 o σ ⟨o.dst.map fun d => (d, .pe m sz n.toNat 0), [], [m], []⟩ := by
  obtain ⟨q, rfl⟩ := Int.eq_ofNat_of_zero_le h0
  exact op_index_tr ho hu hi hx hm hy hn hd
theorem imp_leakE {L : List (Nat × AV)} {M : List (Nat × Ob)} (t m : Nat) {e : TypeId} {z : Nat} {rows : List (List OC)} {rows' : List (List DV)} (ht : lk L t = .ow m) (hm : ln M m = .tr e z rows) (hok : ∀ r ∈ rows, ∀ c ∈ r, c.ok = true) (he : rows.map (·.map OC.rd) = rows') : Imp N w0 U0 (SS L M) (SS ((t, .d (.sl z rows')) :: L) ((m, .no) :: M)) := by
  subst he; exact imp_leak t m ht hm hok
theorem dec_hi {s : ByteArray} {k : Nat} (h : k < s.size) (h1 : 128 ≤ (bt s k).toNat) : 128 ≤ (Utf8.decode s k).1 := by
  have h' : k < s.data.size := by simpa using h
  have : (s[k]'h) = bt s k := by
    unfold bt
    simp [List.getD, Array.getElem?_eq_getElem h']
    rfl
  exact (decode_high s k h (by rw [this]; exact h1)).1
theorem dec_low {s : ByteArray} {k : Nat} (h : k < s.size) (h1 : ((Utf8.decode s k).1 : Int) < 128) : Utf8.decode s k = ((bt s k).toNat, 1) := by
  have h' : k < s.data.size := by simpa using h
  have hb : (s[k]'h) = bt s k := by
    unfold bt
    simp [List.getD, Array.getElem?_eq_getElem h']
    rfl
  by_cases h2 : 128 ≤ (bt s k).toNat
  · have := dec_hi h h2; omega
  · rw [decode_ascii s k h (by rw [hb]; omega), hb]
theorem eq_self_b (a : Int) : (a == a) = true := by simp
theorem eq_self_bb (a : Bool) : (a == a) = true := by simp
theorem eq_self_s (a : ByteArray) : sEq a a = true := by simp [sEq]
end
end Go.Proofs.Ytobgdemhadlgnaa.Av

namespace Go.Proofs.Ytobgdemhadlgnaa.Av
open Go Go.RowKit
section
variable {P : Program} {N : Nat} {w0 : World} {U0 : Nat → Nat}
inductive BndS (σ : AS) : Option Operand → Nat → Nat → Prop
  | no (d : Nat) : BndS σ none d d
  | so {y : Operand} {k : IntKind} {i : Int} {n : Nat} (d : Nat) (h : σ.ev y = .d (.fl (.int k i))) (e : i = (n : Int)) : BndS σ (some y) d n
theorem BndS.get {σ σ' : AS} {a : Act} {w : World} {F : Fr} (hF : Fits w0 U0 σ' a w F) {x : Option Operand} {d n : Nat} (h : BndS σ x d n) (hev : ∀ y, x = some y → σ'.ev y = σ.ev y) : (x.map a.eval = none ∧ n = d) ∨ ∃ k, x.map a.eval = some (.int k (n : Int)) := by
  cases h with
  | no => exact .inl ⟨rfl, rfl⟩
  | @so y k i n _ h e =>
    subst e
    have := hF.ev y
    rw [hev y rfl, h] at this
    have h2 : a.eval y = .int k (n : Int) := flat_val this
    exact .inr ⟨k, by simp [h2]⟩
theorem run_bounds (w : World) (n c l h : Nat) (lo hi : Option Value) (hlo : (lo = none ∧ l = 0) ∨ ∃ k, lo = some (.int k (l : Int))) (hhi : (hi = none ∧ h = n) ∨ ∃ k, hi = some (.int k (h : Int))) (h1 : l ≤ h) (h2 : h ≤ n) (h3 : n ≤ c) :
    (Instr.sliceBounds true n c lo hi none).run P w = .ok (l, h, c) w := by
  have g1 : ∀ (k : IntKind) (code : BoundsCode), (Instr.sliceBound (.int k (h : Int)) c code).run P w = .ok h w := fun k code => by
    rw [run_sliceBound w k h c code (by omega) (by omega)]; simp
  have g2 : ∀ (k : IntKind) (code : BoundsCode), (Instr.sliceBound (.int k (l : Int)) h code).run P w = .ok l w := fun k code => by
    rw [run_sliceBound w k l h code (by omega) (by omega)]; simp
  rcases hlo with ⟨rfl, rfl⟩ | ⟨k, rfl⟩ <;> rcases hhi with ⟨rfl, rfl⟩ | ⟨k', rfl⟩ <;> simp [Instr.sliceBounds, g1, g2, Result.andThen]
theorem op_slice {o : Oper} {σ : AS} {t : TypeId} {x : Operand} {lo hi : Option Operand} (ho : o.op = .slice t x lo hi none) {e : TypeId} (hu : P.underlying t = some (.slice e)) {zv : Value} {sz b : Nat} (ht : TI P e zv sz b) {rows : List (List DV)} (hx : σ.ev x = .d (.sl sz rows))
    {l h : Nat} (hl : BndS σ lo 0 l) (hh : BndS σ hi rows.length h) (h1 : l ≤ h) (h2 : h ≤ rows.length) (hd : dOk o N = true) : OpS P N w0 U0 o σ ⟨o.dst.map fun d => (d, .d (.sl sz ((rows.drop l).take (h - l)))), [], [], []⟩ :=
  opS_still (P := P) (av := .d (.sl sz ((rows.drop l).take (h - l)))) hd fun σ' hok a w F hF => by
    obtain ⟨i, t1, _, t3, _⟩ := ht
    subst t3
    have hv := ev_get hok hF (x := x) (by simp [ho, Op.operands]) hx
    have e1 := hl.get hF (fun y hy => ev_ok hok (by subst hy; simp [ho, Op.operands]))
    have e2 := hh.get hF (fun y hy => ev_ok hok (by subst hy; simp [ho, Op.operands]))
    have hu' : P.underlying t = some (.slice (P.elem t)) := by simp [Program.elem, hu]
    have hel : P.elem t = e := by simp [Program.elem, hu]
    have key : ∀ (A : Option Addr) (n c : Nat), a.eval x = .slice A n c → rows.length = n → n ≤ c → (execOp a.eval o).run P w = .ok (.value (sliced A l h c i.size)) w := by
      intro A n c hav hn hnc
      have hb := run_bounds (P := P) w n c l h (lo.map a.eval) (hi.map a.eval) e1 (by rw [hn] at e2; exact e2) h1 (by omega) hnc
      unfold execOp
      simp only [ho, hav, Option.map_none, Sem.run_bind, run_sliceAt_slice w t _ _ _ _ hu', run_slice_any w t A n c hu', hb, Result.andThen_ok, hel, run_sizeOf' t1, Sem.run_pure]
    generalize hav : a.eval x = v at hv
    cases hv with
    | sn A c z =>
      have hl0 : l = 0 := by simp at h2; omega
      have hh0 : h = 0 := by simpa using h2
      subst hl0 hh0
      refine ⟨_, key A 0 c hav rfl (by omega), ?_⟩
      exact .sn _ _ _
    | sl b0 off n c z _ u hn hz hm hcell hr =>
      refine ⟨_, key _ n c hav hn hm.2, ?_⟩
      rcases Nat.eq_or_lt_of_le h1 with h3 | h3
      · subst h3
        simp only [Nat.sub_self, List.take_zero, sliced]
        exact .sn _ _ _
      · have hne : ¬ c = l := by omega
        unfold sliced
        rw [if_neg hne]
        have ha : (⟨b0, off, none⟩ : Addr).add (l * i.size) = ⟨b0, off + l * i.size, none⟩ := by
          unfold Addr.add
          by_cases hj : l * i.size = 0 <;> simp [hj]
        simp only [Option.map_some, ha]
        have hrow : ∀ q, ((rows.drop l).take (h - l))[q]? = if q < h - l then rows[l + q]? else none := fun q => by
          rw [List.getElem?_take, List.getElem?_drop]
        have hcl : ∀ q j y, cellAt ((rows.drop l).take (h - l)) q j = some y → cellAt rows (l + q) j = some y := fun q j y hy => by
          unfold cellAt at hy ⊢
          rw [hrow] at hy
          split at hy
          · exact hy
          · cases hy
        have hoff : ∀ q j, off + l * i.size + q * i.size + j = off + (l + q) * i.size + j := fun q j => by rw [Nat.add_mul]; omega
        refine .sl b0 (off + l * i.size) (h - l) (c - l) i.size _ (fun q j => u (l + q) j) (by rw [List.length_take, List.length_drop]; omega) (fun r hr' => hz r (List.mem_of_mem_drop (List.mem_of_mem_take hr'))) ⟨by omega, by omega⟩ (fun q j y hy => ?_) (fun q j y hy => hr _ _ _ (hcl q j y hy))
        rw [hoff]
        exact hcell _ _ _ (hcl q j y hy)
theorem s_slice {o : Oper} {σ : AS} {t : TypeId} {x : Operand} {lo hi : Option Operand} (ho : o.op = .slice t x lo hi none) {e : TypeId} (hu : P.underlying t = some (.slice e)) {zv : Value} {sz b : Nat} (ht : TI P e zv sz b) {α : Type} {f : α → List DV} {L : List α} (hx : σ.ev x = .d (.sl sz (L.map f)))
    {l h : Nat} (hl : BndS σ lo 0 l) (hh : BndS σ hi L.length h) (h1 : l ≤ h) (h2 : h ≤ L.length) (hd : dOk o N = true) : OpS P N w0 U0 o σ ⟨o.dst.map fun d => (d, .d (.sl sz (((L.drop l).take (h - l)).map f))), [], [], []⟩ := by
  have := op_slice (P := P) (N := N) (w0 := w0) (U0 := U0) ho hu ht hx hl (by rw [List.length_map]; exact hh) h1 (by rw [List.length_map]; exact h2) hd
  rwa [← List.map_drop, ← List.map_take] at this
theorem take_one {α : Type} [Inhabited α] {L : List α} {k : Nat} (h : k < L.length) : (L.drop k).take (k + 1 - k) = [ix L k] := by
  rw [drop_ix h, show k + 1 - k = 1 by omega]; rfl
theorem sEq_of {a b : ByteArray} (h : a = b) : sEq a b = true := by rw [h]; simp [sEq]
end
end Go.Proofs.Ytobgdemhadlgnaa.Av

namespace Go.Proofs.Ytobgdemhadlgnaa.Av
open Go Go.RowKit Go.ChangeShapes Go.WideShapes Go.Deep
/-- every cell that was there may be read -/
def UA (w : World) (b : Nat) : Nat := match w.heap[b]? with
  | some (.cells vs _ _) => vs.size
  | _ => 0
theorem ua_lt {w : World} {b o : Nat} {u : Value} (h : w.cell? ⟨b, o, none⟩ = some u) : o < UA w b := by
  unfold World.cell? at h
  unfold UA
  split at h
  · rename_i vs _ _ hb
    simp only at h hb
    rw [hb]
    simp at h
    exact (Array.getElem?_eq_some_iff.1 h).1
  · cases h
def Opens (P : Program) (t : TypeId) {α : Type} (f : α → List DV) (ok : α → Prop) : Prop :=
  ∀ (H : Type) (enc : TypeId × Value → H) (w : World) (base : Nat) (spare : Nat → Bool) (held : Bool) (fuel : Nat) (cs : List Value) (x : DataW H × List MemPlace),
    DataW.trod enc P w base spare held fuel t cs = some x → ∃ a, Rc w (UA w) cs (f a) ∧ ok a
section
variable {P : Program} {t : TypeId}
theorem rc_one {w : World} {U : Nat → Nat} {v : Value} {d : DV} (h : Rd w U v d) (h1 : v.oneCell' = true) : Rc w U [v] [d] := ⟨Rds.cons h Rds.nil, fun u hu => by simp at hu; subst hu; exact h1⟩
theorem opens_int {k : IntKind} (hu : P.underlying t = some (.int k)) : Opens P t (rI k) (fun n => (Lit.int k n).wf = true) := by
  intro H enc w base spare held fuel cs x h
  obtain ⟨n, rfl, _, hw⟩ := DataW.trod_int hu h
  exact ⟨n, rc_one (.fl _) rfl, hw⟩
theorem opens_bool (hu : P.underlying t = some .bool) : Opens P t rB (fun _ => True) := by
  intro H enc w base spare held fuel cs x h
  obtain ⟨n, rfl, _⟩ := DataW.trod_bool hu h
  exact ⟨n, rc_one (.fl _) rfl, trivial⟩
theorem opens_str (hu : P.underlying t = some .string) : Opens P t rS (fun s => s.size ≤ maxLen) := by
  intro H enc w base spare held fuel cs x h
  obtain ⟨n, rfl, _, hw⟩ := DataW.trod_string hu h
  exact ⟨n, rc_one (.fl _) rfl, hw⟩
theorem opens_slice {e : TypeId} {z : Nat} {α : Type} [Inhabited α] {f : α → List DV} {ok : α → Prop} (hu : P.underlying t = some (.slice e)) (hz : P.cellsOf e = z) (hz0 : 0 < z) (hE : Opens P e f ok) (hl : ∀ a, (f a).length = z) : Opens P t (rL z f) (fun l => ∀ a ∈ l, ok a) := by
  intro H enc w base spare held fuel cs x h
  rcases open_slice hu h with ⟨rfl, _⟩ | ⟨a, n, cap, m, k, D, Pl, rfl, hb, hnc, hm, hmm, _, hi⟩
  · exact ⟨[], rc_one (.sn none 0 z) rfl, fun a h => by cases h⟩
  · have hnm : n ≤ m := by rw [hmm]; split <;> omega
    unfold maxLen at hm
    obtain ⟨R, hR⟩ := choose_lt (α := α) (n := n) (p := fun i r => ∃ cs', w.cells? base (a.add (i * z)) z = some cs' ∧ Rc w (UA w) cs' (f r) ∧ ok r) (fun i hin => by
      obtain ⟨cs', hc, ht⟩ := hi i (by omega)
      obtain ⟨r, h1, h2⟩ := hE _ _ _ _ _ _ _ _ _ ht
      rw [hz] at hc
      exact ⟨r, cs', hc, h1, h2⟩)
    refine ⟨(List.range n).map R, rc_one ?_ rfl, fun x hx => ?_⟩
    · rcases Nat.eq_zero_or_pos n with h0 | h0
      · subst h0; exact .sn _ _ _
      · obtain ⟨b, off, spot⟩ := a
        have hspot : spot = none := by
          obtain ⟨cs', hc, hr, _⟩ := hR 0 h0
          obtain ⟨_, hcl, hat⟩ := World.cells?_some hc
          have := hat 0 hz0
          rw [add_add, List.getElem?_eq_getElem (by omega)] at this
          simpa [Addr.add] using World.cell?_spot this
        subst hspot
        have ha : ∀ j, (⟨b, off, none⟩ : Addr).add j = ⟨b, off + j, none⟩ := fun j => by
          unfold Addr.add
          by_cases hj : j = 0 <;> simp [hj]
        have key : ∀ i j x, cellAt (((List.range n).map R).map f) i j = some x → ∃ u, w.cell? ⟨b, off + i * z + j, none⟩ = some u ∧ u.oneCell' = true ∧ Rd w (UA w) u x := by
          intro i j x hx
          unfold cellAt at hx
          rcases Nat.lt_or_ge i n with hin | hin
          · obtain ⟨cs', hc, hr, _⟩ := hR i hin
            obtain ⟨_, hcl, hat⟩ := World.cells?_some hc
            rw [List.map_map, List.getElem?_map, List.getElem?_range hin] at hx
            have hx' : (f (R i))[j]? = some x := hx
            have hjl : j < z := by have := (List.getElem?_eq_some_iff.1 hx').1; rw [hl] at this; exact this
            have h3 := hat j hjl
            rw [add_add, ha, List.getElem?_eq_getElem (by omega), ← Nat.add_assoc] at h3
            exact ⟨_, h3, hr.2 _ (List.getElem_mem _), hr.1.2 j _ x (List.getElem?_eq_getElem (by omega)) hx'⟩
          · rw [List.getElem?_eq_none (by simpa using hin)] at hx; cases hx
        refine .sl b off n cap z _ (fun i j => (w.cell? ⟨b, off + i * z + j, none⟩).getD undef) (by simp) (fun r hr => ?_) ⟨by omega, hnc⟩ (fun i j x hx => ?_) (fun i j x hx => ?_)
        · obtain ⟨y, _, rfl⟩ := List.mem_map.1 hr
          exact hl y
        · obtain ⟨u, h1, h2, h3⟩ := key i j x hx
          rw [h1]
          exact ⟨rfl, ua_lt h1, h2⟩
        · obtain ⟨u, h1, h2, h3⟩ := key i j x hx
          rw [h1]
          exact h3
    · obtain ⟨i, hi', rfl⟩ := List.mem_map.1 hx
      obtain ⟨_, _, _, h2⟩ := hR i (List.mem_range.1 hi')
      exact h2
theorem rc_step {w : World} {U : Nat → Nat} {cs : List Value} {d1 d2 : List DV} {o s : Nat} (h1 : Rc w U ((cs.drop o).take s) d1) (h2 : Rc w U (cs.drop (o + s)) d2) : Rc w U (cs.drop o) (d1 ++ d2) := by
  have := h1.append h2
  rwa [← List.drop_drop, List.take_append_drop] at this
theorem rc_end {w : World} {U : Nat → Nat} {cs : List Value} {n : Nat} (h : cs.length = n) : Rc w U (cs.drop n) [] := by
  rw [List.drop_eq_nil_of_le (by omega)]
  exact ⟨Rds.nil, fun u hu => by cases hu⟩
theorem field_of {α : Type} {A : Option α} {ys : List α} {i : Nat} (h : A = ys[i]?) (hi : i < ys.length) : ∃ y, A = some y := ⟨_, h.trans (List.getElem?_eq_getElem hi)⟩
section
variable {H : Type} {enc : TypeId × Value → H} {w : World} {base : Nat} {spare : Nat → Bool} {held : Bool}
theorem arg_slice {e : TypeId} {r : Reach} {b0 : Nat} {v : Value} {d : DataW H} {p : List MemPlace} {z : Nat} {α : Type} {f : α → List DV} {ok : List α → Prop} (hu : P.underlying t = some (.slice e)) (hO : Opens P t (rL z f) ok) (hv : Value.okWide P w r b0 t v) (h : DataW.Trod enc P w base spare held t v d p) : ∃ l, Rd w (UA w) v (.sl z (l.map f)) ∧ ok l := by
  obtain ⟨A, n, c, rfl⟩ := okWide_slice hu hv
  obtain ⟨fuel, hf⟩ := h
  obtain ⟨l, h1, h2⟩ := hO _ _ _ _ _ _ _ _ _ hf
  exact ⟨l, h1.1.2 0 _ _ rfl rfl, h2⟩
theorem arg_struct {fs : Array Field} {r : Reach} {b0 : Nat} {v : Value} {d : DataW H} {p : List MemPlace} {α : Type} {f : α → List DV} {ok : α → Prop} (hu : P.underlying t = some (.struct fs)) (hO : Opens P t f ok) (hv : Value.okWide P w r b0 t v) (h : DataW.Trod enc P w base spare held t v d p) : ∃ x, Rd w (UA w) v (.ag (f x)) ∧ ok x := by
  obtain ⟨cs, rfl, _⟩ := okWide_struct hu hv
  obtain ⟨fuel, hf⟩ := h
  obtain ⟨l, h1, h2⟩ := hO _ _ _ _ _ _ _ _ _ hf
  exact ⟨l, .ag cs _ (by have := h1.1.1; simpa [Value.cells] using this) (fun u hu => h1.2 u hu) (fun j u x h3 h4 => h1.1.2 j u x h3 h4), h2⟩
end
/-- a law that answers yes -/
theorem law_true {f : FuncId} {args : List DV} (hc : Ctr P f args (.d (.fl (.bool true)))) {vals : List Value} {w : World} (h : Rds w (UA w) vals args) : Calls P f vals.toArray w fun e w' => e = .returned (.bool true) ∧ Below w.heap.size w w' := by
  refine Calls.mono (hc vals (UA w) w h) ?_
  rintro e w' ⟨v, U', rfl, h1, _, h3⟩
  have h3' : Rd w' U' v (.fl (.bool true)) := h3
  cases h3'
  exact ⟨rfl, h1⟩
end
end Go.Proofs.Ytobgdemhadlgnaa.Av

namespace Go.Proofs.Ytobgdemhadlgnaa.Av
open Go Go.RowKit
section
variable {P : Program} {N : Nat} {w0 : World} {U0 : Nat → Nat}
theorem op_lookup1 {o : Oper} {σ : AS} {t : TypeId} {x y : Operand} (ho : o.op = .lookup t x y false) {kt et : TypeId} (ht : P.underlying t = some (.map kt et)) {td : TypeDesc} (hk : P.underlying kt = some td) (htd : keyTd td = true)
    {z : Value} {sz bb : Nat} (hi : TI P et z sz bb) (hz : zOk z = true) {av : AV} (hx : σ.ev x = av) {xs : List (Value × DV)} {rn : List Nat} (hm : MapS σ av xs rn) {k : Value} (hy : σ.ev y = .d (.fl k)) {r : Option DV} (hr : mfind td k xs = some r) {d : DV} (he : r.getD (zDV z) = d) (hd : dOk o N = true) :
    OpS P N w0 U0 o σ ⟨o.dst.map fun q => (q, .d d), [], rn, []⟩ := by
  subst he
  intro σ' hok a w hs K Q hK
  obtain ⟨F, hF⟩ := hs.f
  obtain ⟨b, es, c, h1, h2, h3⟩ := hm.get hF (fun q hq => hok.n q hq) (ev_get hok hF (x := x) (by simp [ho, Op.operands]) hx)
  have hky := ev_get hok hF (x := y) (by simp [ho, Op.operands]) hy
  have hkv : a.eval y = k := by generalize a.eval y = v at hky; cases hky; rfl
  obtain ⟨i, i1, i2, _, _⟩ := hi
  have hzv : (zeroValue et).run P w = .ok z w := by simp [zeroValue, typeInfo, i1, i2]
  obtain ⟨g1, g2⟩ := find_ents es.toList xs 0 h3 r hr
  have key : ∃ v, (execOp a.eval o).run P w = .ok (.value v) w ∧ Rd w F.U v (r.getD (zDV z)) := by
    cases r with
    | none =>
      refine ⟨z, ?_, rd_zero hz⟩
      simp [execOp, ho, Instr.lookup, h1, hkv, run_underlying ht, MapKept.run_getObj_map h2, run_checkKey' hk htd, run_findKey' hk (g1 rfl), hzv, Result.andThen]
    | some d =>
      obtain ⟨j, v, e1, e2⟩ := g2 d rfl
      refine ⟨v, ?_, e2⟩
      simp [execOp, ho, Instr.lookup, h1, hkv, run_underlying ht, MapKept.run_getObj_map h2, run_checkKey' hk htd, run_findKey' hk e1, Result.andThen]
  obtain ⟨v, hrun, hv⟩ := key
  unfold Oper.wp
  rw [hrun]
  have hfit := hF.put (U' := F.U) (w' := w) hs.b.size ⟨fun _ _ => rfl, fun _ _ => rfl⟩ hd hs.s (av := .d (r.getD (zDV z))) (v := v) hv rn []
  exact hK _ _ ⟨by rw [put_defers]; exact hs.d, by rw [put_size]; exact hs.s, hs.b, _, hfit⟩
theorem run_boundsS (w : World) (n l h : Nat) (lo hi : Option Value) (hlo : (lo = none ∧ l = 0) ∨ ∃ k, lo = some (.int k (l : Int))) (hhi : (hi = none ∧ h = n) ∨ ∃ k, hi = some (.int k (h : Int))) (h1 : l ≤ h) (h2 : h ≤ n) :
    (Instr.sliceBounds false n n lo hi none).run P w = .ok (l, h, n) w := by
  have g1 : ∀ (k : IntKind) (code : BoundsCode), (Instr.sliceBound (.int k (h : Int)) n code).run P w = .ok h w := fun k code => by
    rw [run_sliceBound w k h n code (by omega) (by omega)]; simp
  have g2 : ∀ (k : IntKind) (code : BoundsCode), (Instr.sliceBound (.int k (l : Int)) h code).run P w = .ok l w := fun k code => by
    rw [run_sliceBound w k l h code (by omega) (by omega)]; simp
  rcases hlo with ⟨rfl, rfl⟩ | ⟨k, rfl⟩ <;> rcases hhi with ⟨rfl, rfl⟩ | ⟨k', rfl⟩ <;> simp [Instr.sliceBounds, g1, g2, Result.andThen]
theorem op_strslice {o : Oper} {σ : AS} {t : TypeId} {x : Operand} {lo hi : Option Operand} (ho : o.op = .slice t x lo hi none) (hu : P.underlying t = some .string) {s : ByteArray} (hx : σ.ev x = .d (.fl (.string s)))
    {l h : Nat} (hl : BndS σ lo 0 l) (hh : BndS σ hi s.size h) (h1 : l ≤ h) (h2 : h ≤ s.size) (hd : dOk o N = true) : OpS P N w0 U0 o σ ⟨o.dst.map fun d => (d, .d (.fl (.string (s.extract l h)))), [], [], []⟩ :=
  opS_still (P := P) (av := .d (.fl (.string (s.extract l h)))) hd fun σ' hok a w F hF => by
    have hv := flat_val (ev_get hok hF (x := x) (by simp [ho, Op.operands]) hx)
    have e1 := hl.get hF (fun y hy => ev_ok hok (by subst hy; simp [ho, Op.operands]))
    have e2 := hh.get hF (fun y hy => ev_ok hok (by subst hy; simp [ho, Op.operands]))
    have hb := run_boundsS (P := P) w s.size l h (lo.map a.eval) (hi.map a.eval) e1 e2 h1 h2
    refine ⟨_, ?_, Rd.fl _⟩
    simp only [execOp, ho, hv, Option.map_none, Sem.run_bind, run_sliceAt_string w t _ _ _ _ hu, Instr.slice, run_underlying hu, Result.andThen_ok]
    simp [hb, Result.andThen]
/-- a set of strings: the look-up among entries that come of a list -/
theorem mfind_set {α : Type} (key : α → ByteArray) (p : ByteArray) : ∀ l : List α, mfind .string (.string p) (l.map fun x => (Value.string (key x), DV.fl (.bool true))) = some (if (l.any fun x => sEq (key x) p) = true then some (.fl (.bool true)) else none)
  | [] => rfl
  | x :: l => by
    have ih := mfind_set key p l
    have hb : Instr.sameNow .string (.string p) (.string (key x)) = some (sEq (key x) p) := by
      show some (p == key x) = _
      congr 1
      by_cases h : p = key x
      · rw [← h, show sEq p p = true by simp [sEq]]
        exact (MapKept.bytes_beq p p).2 rfl
      · rw [show sEq (key x) p = false from by simp [sEq, Ne.symm h]]
        cases hq : p == key x with
        | false => rfl
        | true => exact absurd ((MapKept.bytes_beq p (key x)).1 hq) h
    simp only [List.map_cons, mfind, hb, List.any_cons]
    rcases fot (sEq (key x) p) with h | h
    · simp only [h, Bool.false_or]; exact ih
    · simp [h]
end
end Go.Proofs.Ytobgdemhadlgnaa.Av

namespace Go.Proofs.Ytobgdemhadlgnaa.Av
open Go Go.RowKit
section
variable {P : Program} {N : Nat} {w0 : World} {U0 : Nat → Nat}
theorem s_append_nilT {o : Oper} {σ : AS} {t e : TypeId} {s x : Operand} (m : Nat) (ho : o.op = .call { callee := .builtin .append, args := #[s, x], argTypes := #[t, t] })
    {zv : Value} {sz b : Nat} (ht : P.underlying t = some (.slice e)) (hi : TI P e zv sz b) (hzs : Nat.beq zv.cells.size sz = true) (hz0 : Nat.blt 0 sz = true) {α : Type} {f : α → List DV} {l' : List α} {rn : List Nat} {av : AV}
    (hs : σ.ev s = .d (.fl (.slice none 0 0))) (hx : σ.ev x = av) (hxv : AvD σ av (.sl sz (l'.map f)) rn) (hbytes : l'.length * (b + 1) ≤ 140737488355328) (hd : dOk o N = true) :
    OpS P N w0 U0 o σ ⟨o.dst.map fun d => (d, .ow m), [(m, .tr e sz (tD f l'))], rn, [m]⟩ := by
  obtain ⟨i, i1, i2, i3, i4⟩ := hi
  subst i3
  subst i4
  intro σ' hok a w hst K Q hK
  obtain ⟨F, hF⟩ := hst.f
  have hz0' := Nat.le_of_ble_eq_true hz0
  have hzs' := Nat.eq_of_beq_eq_true hzs
  have hv0 : a.eval s = .slice none 0 0 := flat_val (ev_get hok hF (x := s) (by simp [ho, Op.operands, Call.operands]) hs)
  have hvx := ev_get hok hF (x := x) (by simp [ho, Op.operands, Call.operands]) hx
  obtain ⟨A, c, hvs, hrz', hsrc⟩ := (RowsS.d hxv).get hF hz0' (fun q hq => hok.n q hq) hvx
  have hfr : fresh σ' m := hok.f m (by simp)
  have hrun : ∀ v' w', (Builtin.append_ #[t, t] o.type #[a.eval s, a.eval x]).run P w = .ok v' w' → (execOp a.eval o).run P w = .ok (.value v') w' := by
    intro v' w' hr
    unfold execOp
    simp only [ho, resolve, invoke, builtin, Sem.run_bind, Sem.run_pure, Result.andThen_ok, List.map_toArray, List.map_cons, List.map_nil, hr]
  rw [hv0, hvs] at hrun
  have g1 : w.ownsRow w0.heap.size e i.size (.slice none 0 0) 0 [] := World.ownsRow_nil _ _ _ _
  unfold Oper.wp
  have hγγ : ∀ v : Value, (fun k => if k = m then v else F.γ k) m = v := fun v => if_pos rfl
  have hlen : ((l'.map f).map (·.map OC.dv)).length = l'.length := by simp
  by_cases hr0 : (l'.map f).map (·.map OC.dv) = []
  · have hl0 : l' = [] := by simpa using hr0
    subst hl0
    rw [hrun _ _ (run_app0 (P := P) w w0.heap.size t o.type e i i.size ht i1 rfl _ _ _ g1 A c)]
    have hfit := hF.make (m := m) (ob := .tr e i.size []) (ks := []) (γv := .slice none 0 0) (βv := none) (Sm := fun _ => False) (U' := F.U) (w' := w) (a' := a.put o.dst (.slice none 0 0)) (tw := o.dst.map fun d => (d, .ow m)) hfr Ext.rfl (fun _ _ => rfl) (fun _ _ _ _ _ _ => ⟨rfl, rfl⟩) (fun b hb => hb.elim)
      ⟨[], fun _ _ => False, by simp only [↓reduceIte]; exact g1, ⟨rfl, fun k u c h => by simp at h, fun u hu => (by cases hu), fun _ _ _ h => h.elim, fun _ _ h => h.elim⟩, (fun r hr => by cases hr), (fun b hb => by simp only [↓reduceIte] at hb; cases hb), fun b => by
        simp only [↓reduceIte]
        constructor
        · intro h; exact h.elim
        · rintro (h | ⟨_, h⟩)
          · cases h
          · exact h.elim⟩
      (hta_put hd hst.s (.ow m) (.slice none 0 0)).1 (fun d v h => by
        obtain ⟨rfl, h3⟩ := (hta_put hd hst.s (.ow m) (.slice none 0 0)).2 d v h
        rw [h3]; exact (hγγ _).symm) rn [m]
    exact hK _ _ ⟨by rw [put_defers]; exact hst.d, by rw [put_size]; exact hst.s, hst.b, _, hfit⟩
  · obtain ⟨sb, off, news, T2, rfl, n1, n2, n3, n4⟩ := hsrc hr0
    have hpos : 0 < ((l'.map f).map (·.map OC.dv)).length := List.length_pos_iff.2 hr0
    have q1 : l'.length * 1 ≤ l'.length * (i.bytes + 1) := Nat.mul_le_mul_left _ (by omega)
    have q2 : l'.length * i.bytes ≤ l'.length * (i.bytes + 1) := Nat.mul_le_mul_left _ (by omega)
    obtain ⟨g, cap, w', hr, hown', hB, hcase⟩ := run_app (P := P) w w0.heap.size t o.type e i zv i.size i.bytes ht i1 i2 rfl rfl hzs' hz0' (.slice none 0 0) 0 [] g1 ⟨sb, off, none⟩ ((l'.map f).map (·.map OC.dv)).length c news n1 n2 n3.o hpos (by unfold maxLen; rw [hlen]; omega) (by rw [hlen]; simpa using Nat.le_trans q2 hbytes) hst.b.size
    rw [hrun _ _ hr]
    have hnew : g = w.heap.size ∧ ∀ b, b < w.heap.size → w'.heap[b]? = w.heap[b]? := by
      rcases hcase with ⟨h1, h2⟩ | ⟨h1, _⟩
      · exact ⟨h1, h2⟩
      · cases h1
    obtain ⟨hg, hkept⟩ := hnew
    have hgB : w0.heap.size ≤ g := by rw [hg]; exact hst.b.size
    have hT2 : ∀ k b, ¬ T2 k b := fun k b h => by
      obtain ⟨q, e1, _, _⟩ := n4 k b h
      cases e1
    obtain ⟨U', hU'⟩ : ∃ U' : Nat → Nat, U' = fun b => if b = g then 0 else F.U b := ⟨_, rfl⟩
    have hU1 : U' g = 0 := by rw [hU']; simp
    have hU2 : ∀ b, b ≠ g → U' b = F.U b := fun b hb => by rw [hU']; simp [hb]
    have hE : Ext w F.U w' U' := Up.ext ⟨fun b hlt => hkept b hlt, fun b hlt => hU2 b (by omega)⟩
    rw [Nat.zero_add, List.nil_append] at hown'
    have hfit := hF.make (m := m) (ob := .tr e i.size (tD f l')) (ks := []) (γv := .slice (some ⟨g, 0, none⟩) (0 + ((l'.map f).map (·.map OC.dv)).length) cap) (βv := none) (Sm := fun b => b = g) (U' := U') (w' := w') (a' := a.put o.dst (.slice (some ⟨g, 0, none⟩) (0 + ((l'.map f).map (·.map OC.dv)).length) cap)) (tw := o.dst.map fun d => (d, .ow m)) hfr hE (fun b hb => hU2 b (by omega)) (fun k b _ _ _ hlt => ⟨hkept b hlt, hU2 b (by omega)⟩) (fun b hb => .inl (by omega))
      ⟨news, T2, by simp only [↓reduceIte]; rw [Nat.zero_add]; exact hown', n3.ext hE (fun k b hk _ => absurd hk (hT2 k b)), hrz', fun b hb => by
        simp only [↓reduceIte] at hb
        injection hb with hb
        subst hb
        exact ⟨hU1, fun k hk => hT2 k _ hk⟩, fun b => by
        simp only [↓reduceIte]
        constructor
        · intro h; exact .inl (by rw [h]; rfl)
        · rintro (h | ⟨k, h⟩)
          · injection h with h; exact h.symm
          · exact absurd h (hT2 k b)⟩
      (hta_put hd hst.s (.ow m) _).1 (fun d v h => by
        obtain ⟨rfl, h3⟩ := (hta_put hd hst.s (.ow m) (.slice (some ⟨g, 0, none⟩) (0 + ((l'.map f).map (·.map OC.dv)).length) cap)).2 d v h
        rw [h3]; exact (hγγ _).symm) rn [m]
    exact hK _ _ ⟨by rw [put_defers]; exact hst.d, by rw [put_size]; exact hst.s, hst.b.trans hB, _, hfit⟩
/-- a slice of one struct that owns -/
theorem op_slice1 {o : Oper} {σ : AS} {t : TypeId} {x : Operand} (m : Nat) (ho : o.op = .buildSlice t 1 #[(0, x)]) {e : TypeId} {zv : Value} {sz b : Nat} (ht : P.underlying t = some (.slice e)) (hi : TI P e zv sz b) (hzs : Nat.beq zv.cells.size sz = true) (hz0 : Nat.blt 0 sz = true) (hz1 : Nat.ble sz 16777216 = true) {q : Nat} {cs : List OC} (hx : σ.ev x = .ow q) (hq : σ.n q = .sv cs) (hl : Nat.beq cs.length sz = true) (hd : dOk o N = true) :
    OpS P N w0 U0 o σ ⟨o.dst.map fun d => (d, .ow m), [(m, .tr e sz [cs]), (q, .no)], [q], [m]⟩ := by
  obtain ⟨i, i1, i2, i3, i4⟩ := hi
  subst i3
  have hz0' := Nat.le_of_ble_eq_true hz0
  have hz1' := Nat.le_of_ble_eq_true hz1
  have hl' := Nat.eq_of_beq_eq_true hl
  intro σ' hok a w hst K Q hK
  obtain ⟨F, hF⟩ := hst.f
  have hv : a.eval x = F.γ q := ev_get hok hF (x := x) (by simp [ho, Op.operands]) hx
  have hq' : σ'.n q = .sv cs := by rw [hok.n q (by simp)]; exact hq
  have hlive : (σ'.n q).live = true := by rw [hq']; rfl
  have hob := hF.n q
  rw [hq'] at hob
  obtain ⟨vs, T, g1, g2, g3⟩ := hob
  have hvsz : vs.size = i.size := by have := g2.l; simpa [hl'] using this
  have hzv : ∀ w : World, (zeroValue e).run P w = .ok zv w := fun w => by simp [zeroValue, typeInfo, i1, i2]
  obtain ⟨zs, hzz⟩ : ∃ zs : Array Value, zs = ((Array.range (1 * i.size)).map fun k => zv.cells[k % zv.cells.size]!) := ⟨_, rfl⟩
  have hzsz : zs.size = i.size := by rw [hzz]; simp
  obtain ⟨cs', hcs'⟩ : ∃ cs' : Array Value, cs' = vs.zipIdx.foldl (fun cs (p : Value × Nat) => cs.setIfInBounds (0 * i.size + p.2) p.1) zs := ⟨_, rfl⟩
  have hcv : cs'.toList = vs.toList := by
    rw [hcs', ← Array.foldl_toList, Array.toList_zipIdx]
    have := fold_splice (0 * i.size) vs.toList 0 zs (by simp [hzsz, hvsz])
    rw [this]
    simp [hzsz, hvsz]
  have hfill : Instr.fill (fun j => some (j * i.size, i.size)) zs [(0, F.γ q)] = some cs' := by
    rw [hcs', g1]
    have hne : ¬ ((decide (vs.size ≠ i.size) || decide (0 * i.size + vs.size > zs.size)) = true) := by simp [hvsz, hzsz]
    exact (if_neg hne).trans rfl
  have hnr : (newRow e cs').run P w = .ok ⟨w.heap.size, 0, none⟩ (w.alloc (.cells cs' e)) := by simp [newRow, newObj, Sem.run]
  have hrun : (execOp a.eval o).run P w = .ok (.value (.slice (some ⟨w.heap.size, 0, none⟩) 1 1)) (w.alloc (.cells cs' e)) := by
    have hbig : ¬ (1 * i.size > 2 ^ 24) := by omega
    have hn0 : ¬ (1 * i.size = 0) := by omega
    have e1 : (((#[(0, x)] : Array (Nat × Operand)).map fun p => match p with | (i, x) => (i, a.eval x)).toList) = [(0, F.γ q)] := by simp [hv]
    unfold execOp
    simp only [ho, Instr.buildSlice, Sem.run_bind, run_underlying ht, Result.andThen_ok, run_sizeOf' i1, if_neg hbig, if_neg hn0, Sem.run_pure, hzv, ← hzz, e1, hfill, hnr]
  unfold Oper.wp
  rw [hrun]
  have hγγ : ∀ v : Value, (fun k => if k = m then v else F.γ k) m = v := fun v => if_pos rfl
  obtain ⟨U', hU'⟩ : ∃ U' : Nat → Nat, U' = fun b => if b = w.heap.size then 0 else F.U b := ⟨_, rfl⟩
  have hU1 : U' w.heap.size = 0 := by rw [hU']; simp
  have hU2 : ∀ b, b ≠ w.heap.size → U' b = F.U b := fun b hb => by rw [hU']; simp [hb]
  have hE : Ext w F.U (w.alloc (.cells cs' e)) U' := Up.ext ⟨fun b hlt => Below.heap_alloc w _ b hlt, fun b hlt => hU2 b (by omega)⟩
  have hTlt : ∀ k b, T k b → b < w.heap.size := fun k b h => (g2.lt h).2
  have hfit := hF.make (m := m) (ob := .tr e i.size [cs]) (ks := [q]) (γv := .slice (some ⟨w.heap.size, 0, none⟩) 1 1) (βv := none) (Sm := fun b => b = w.heap.size ∨ ∃ k, T k b) (U' := U') (w' := w.alloc (.cells cs' e)) (a' := a.put o.dst (.slice (some ⟨w.heap.size, 0, none⟩) 1 1)) (tw := o.dst.map fun d => (d, .ow m)) (hok.f m (by simp)) hE (fun b hb => hU2 b (by have := hst.b.size; omega)) (fun k b _ _ _ hlt => ⟨Below.heap_alloc w _ b hlt, hU2 b (by omega)⟩)
    (fun b hb => by
      rcases hb with hb | ⟨k, hb⟩
      · exact .inl (by omega)
      · exact .inr ⟨q, by simp, hlive, (g3 b).2 ⟨k, hb⟩⟩)
    ⟨cs'.toList, T, by
      simp only [↓reduceIte]
      refine ⟨by rw [hcv]; simp [hvsz], .inr ⟨w.heap.size, 1, cs', rfl, hst.b.size, Go.heap_alloc_new w _, Nat.le_refl _, by unfold maxLen; omega, ?_, ?_⟩⟩
      · have : cs'.size = vs.size := by have := congrArg List.length hcv; simpa using this
        rw [this, hvsz]; simp
      · rw [hcv]; rw [List.take_of_length_le (by simp [hvsz])], by
      rw [hcv]
      simp only [List.flatten_cons, List.flatten_nil, List.append_nil]
      exact g2.ext hE (fun k b hk hlt => ⟨Below.heap_alloc w _ b hlt, hU2 b (by omega)⟩), fun r hr => by simp at hr; rw [hr]; exact hl', fun b hb => by
      simp only [↓reduceIte] at hb
      have hb' : b = w.heap.size := by
        injection hb with hb
        exact hb.symm
      subst hb'
      exact ⟨hU1, fun k hk => by have := hTlt k _ hk; omega⟩, fun b => by
      simp only [↓reduceIte]
      constructor
      · rintro (h | h)
        · exact .inl (by rw [h]; rfl)
        · exact .inr h
      · rintro (h | h)
        · injection h with h; exact .inl h.symm
        · exact .inr h⟩
    (hta_put hd hst.s (.ow m) _).1 (fun d v h => by
      obtain ⟨rfl, h3⟩ := (hta_put hd hst.s (.ow m) (.slice (some ⟨w.heap.size, 0, none⟩) 1 1)).2 d v h
      rw [h3]; exact (hγγ _).symm) [q] [m]
  exact hK _ _ ⟨by rw [put_defers]; exact hst.d, by rw [put_size]; exact hst.s, hst.b.alloc hst.b.size _, _, hfit⟩
end
end Go.Proofs.Ytobgdemhadlgnaa.Av
