/- Appends to own rows; own rows handed on as data; contracts whose result is the caller's own. Conditions: as each theorem names them. -/
import Derived.Test.YteplcjhnmmpicaaAv12
set_option linter.unusedSimpArgs false
set_option linter.unusedVariables false
namespace Go.Proofs.Yteplcjhnmmpicaa.Av
open Go Go.RowKit
section
variable {P : Program} {N : Nat} {w0 : World} {U0 : Nat → Nat}
/-- what is appended -/
inductive RowsS (σ : AS) (z : Nat) : AV → List (List OC) → Option Nat → List Nat → Prop
  | d {av : AV} {rows : List (List DV)} {rn : List Nat} (h : AvD σ av (.sl z rows) rn) : RowsS σ z av (rows.map (·.map .dv)) none rn
  | tr {q : Nat} {e : TypeId} {rows : List (List OC)} (h : σ.n q = .tr e z rows) : RowsS σ z (.ow q) rows (some q) [q]
theorem RowsS.get {σ σ' : AS} {a : Act} {w : World} {F : Fr} (hF : Fits w0 U0 σ' a w F) {z : Nat} (hz : 0 < z) {av : AV} {rows : List (List OC)} {kill : Option Nat} {rn : List Nat} (h : RowsS σ z av rows kill rn) (hrn : ∀ q ∈ rn, σ'.n q = σ.n q) {v : Value} (hv : Rav w F av v) :
    ∃ A c, v = .slice A rows.length c ∧ (∀ r ∈ rows, r.length = z) ∧ (rows ≠ [] → ∃ b off news T, A = some ⟨b, off, none⟩ ∧ news.length = rows.length * z ∧ (∀ j u, news[j]? = some u → w.cell? ((⟨b, off, none⟩ : Addr).add j) = some u) ∧ Tcs w F.U w0.heap.size news rows.flatten T ∧ ∀ k b, T k b → ∃ q, kill = some q ∧ (σ'.n q).live = true ∧ F.S q b) := by
  cases h with
  | @d _ rows _ h =>
    have hr : Rd w F.U v (.sl z rows) := h.get hF hrn hv
    cases hr with
    | sn A c => exact ⟨A, c, rfl, (fun r hr => by cases hr), fun h => absurd rfl h⟩
    | sl b off n c _ _ u hn hzz hm hcell hrr =>
      have hr' : Rd w F.U (.slice (some ⟨b, off, none⟩) n c) (.sl z rows) := .sl b off n c z rows u hn hzz hm hcell hrr
      refine ⟨_, c, by rw [List.length_map, hn], fun r hr => ?_, fun hne => ?_⟩
      · obtain ⟨r', h1, rfl⟩ := List.mem_map.1 hr
        simpa using hzz r' h1
      · obtain ⟨news, g1, g2, g3, g4, g5⟩ := rows_cells hr' (fun e => hne (by rw [e]; rfl)) hz
        exact ⟨b, off, news, fun _ _ => False, rfl, by rw [g1, List.length_map, hn], g4, by rw [flat_map_dv]; exact Tcs.ofRc g5, fun k b h => h.elim⟩
  | @tr q e rows h =>
    have hn := hrn q (by simp)
    rw [h] at hn
    have hv' : v = F.γ q := hv
    have hq := hF.n q
    rw [hn] at hq
    obtain ⟨xs, T, g1, g2, g3, g4, g5⟩ := hq
    rcases g1.2 with ⟨h0, h00⟩ | ⟨g, cap, cur, h1, h2, h3, h4, h5, h6, h7⟩
    · exact ⟨none, 0, by rw [hv', h0, h00], g3, fun hne => absurd (List.eq_nil_of_length_eq_zero h00) hne⟩
    · refine ⟨_, cap, by rw [hv', h1], g3, fun hne => ⟨g, 0, xs, T, rfl, by rw [g2.l, flat_len g3], g1.cells (g := g) (by rw [h1]; rfl), g2, fun k b hb => ⟨q, rfl, by rw [hn]; rfl, (g5 b).2 (.inr ⟨k, hb⟩)⟩⟩⟩
theorem nw_kills (m : Nat) (ob : Ob) (ks : List Nat) (k : Nat) : nwGet ((m, ob) :: ks.map (fun q => (q, Ob.no))) k = if k = m then some ob else if k ∈ ks then some .no else none := by
  unfold nwGet
  by_cases a1 : k = m
  · subst a1; rw [Nat.beq_refl, if_pos rfl]; rfl
  · rw [nbeq (Ne.symm a1), if_neg a1]
    show nwGet (ks.map (fun q => (q, Ob.no))) k = _
    induction ks with
    | nil => rfl
    | cons q ks ih =>
      show (bif Nat.beq q k then some Ob.no else nwGet (ks.map (fun q => (q, Ob.no))) k) = _
      by_cases a2 : k = q
      · subst a2; rw [Nat.beq_refl, if_pos (by simp)]; rfl
      · rw [nbeq (Ne.symm a2), cond_false, ih]
        simp [a2]
/-- one new object made of what others owned, and of new blocks -/
theorem Fits.make {σ : AS} {a a' : Act} {w w' : World} {F : Fr} (h : Fits w0 U0 σ a w F) {m : Nat} {ob : Ob} {ks : List Nat} {γv : Value} {βv : Option Nat} {Sm : Nat → Prop} {U' : Nat → Nat} {tw : Option (Nat × AV)} (hf : fresh σ m) (hE : Ext w F.U w' U') (hu : ∀ b, b < w0.heap.size → U' b = F.U b)
    (hk : ∀ k b, (σ.n k).live = true → k ∉ ks → F.S k b → b < w.heap.size → w'.heap[b]? = w.heap[b]? ∧ U' b = F.U b)
    (hS : ∀ b, Sm b → w.heap.size ≤ b ∨ ∃ q ∈ ks, (σ.n q).live = true ∧ F.S q b)
    (hob : Rob w0.heap.size w' ⟨fun k => if k = m then βv else F.β k, fun k => if k = m then γv else F.γ k, U', fun k b => if k = m then Sm b else F.S k b⟩ m ob)
    (hta : ∀ t, a'.tmps.getD t undef = (match tw with | some (d, _) => if d = t then a'.tmps.getD t undef else a.tmps.getD t undef | none => a.tmps.getD t undef)) (htv : ∀ d v, tw = some (d, v) → Rav w' ⟨fun k => if k = m then βv else F.β k, fun k => if k = m then γv else F.γ k, U', fun k b => if k = m then Sm b else F.S k b⟩ v (a'.tmps.getD d undef)) (rn fr : List Nat) :
    Fits w0 U0 ((⟨tw, (m, ob) :: ks.map (fun q => (q, Ob.no)), rn, fr⟩ : Eff).ap σ) a' w' ⟨fun k => if k = m then βv else F.β k, fun k => if k = m then γv else F.γ k, U', fun k b => if k = m then Sm b else F.S k b⟩ := by
  refine h.big (F' := ⟨fun k => if k = m then βv else F.β k, fun k => if k = m then γv else F.γ k, U', fun k b => if k = m then Sm b else F.S k b⟩) hE hu (fun k hk' => ?_) (fun k hk' => ?_) (fun k hl hk' b hb hlt => ?_) (fun k o hk' => ?_) (fun k o k' b hk' hl hkk hl' hb hb' => ?_) (fun k o k' o' b hk' hl hkk hl' hb hb' => ?_) hta htv rn fr
  · rw [nw_kills] at hk'
    have a1 : k ≠ m := fun e => by rw [if_pos e] at hk'; cases hk'
    exact ⟨if_neg a1, if_neg a1, fun b => by show (if k = m then _ else _) ↔ _; rw [if_neg a1]⟩
  · by_cases a1 : k = m
    · right; rw [a1]; exact hf
    · left; exact ⟨if_neg a1, if_neg a1⟩
  · rw [nw_kills] at hk'
    have a1 : k ≠ m := fun e => by rw [if_pos e] at hk'; cases hk'
    rw [if_neg a1] at hk'
    have a2 : k ∉ ks := fun e => by rw [if_pos e] at hk'; cases hk'
    exact hk k b hl a2 hb hlt
  · rw [nw_kills] at hk'
    by_cases a1 : k = m
    · rw [if_pos a1] at hk'; injection hk' with hk'; subst hk' a1; exact hob
    · rw [if_neg a1] at hk'
      by_cases a2 : k ∈ ks
      · rw [if_pos a2] at hk'; injection hk' with hk'; subst hk'; trivial
      · rw [if_neg a2] at hk'; cases hk'
  · rw [nw_kills] at hk' hkk
    have a1' : k' ≠ m := fun e => by rw [if_pos e] at hkk; cases hkk
    rw [if_neg a1'] at hkk
    have a2' : k' ∉ ks := fun e => by rw [if_pos e] at hkk; cases hkk
    by_cases a1 : k = m
    · have hb1 : (if k = m then Sm b else F.S k b) := hb
      rw [if_pos a1] at hb1
      rcases hS b hb1 with h3 | ⟨q, hq, h4, h5⟩
      · have := ((h.n k').lt hl' hb').2; omega
      · exact a2' (h.i q k' b h4 hl' h5 hb' ▸ hq)
    · rw [if_neg a1] at hk'
      by_cases a2 : k ∈ ks
      · rw [if_pos a2] at hk'; injection hk' with hk'; subst hk'; cases hl
      · rw [if_neg a2] at hk'; cases hk'
  · rw [nw_kills] at hk' hkk
    have key : ∀ k (o : Ob), (if k = m then some ob else if k ∈ ks then some Ob.no else none) = some o → o.live = true → k = m := fun k o hk' hl => by
      by_cases a1 : k = m
      · exact a1
      · rw [if_neg a1] at hk'
        by_cases a2 : k ∈ ks
        · rw [if_pos a2] at hk'; injection hk' with hk'; subst hk'; cases hl
        · rw [if_neg a2] at hk'; cases hk'
    rw [key k o hk' hl, key k' o' hkk hl']
theorem Rc.base {w : World} {B B' : Nat} {e : TypeId} {z : Nat} {v : Value} {n : Nat} {xs : List Value} (h : w.ownsRow B e z v n xs) (hB : B' ≤ B) : w.ownsRow B' e z v n xs := by
  refine ⟨h.1, ?_⟩
  rcases h.2 with h0 | ⟨g, cap, cur, h1, h2, h3⟩
  · exact .inl h0
  · exact .inr ⟨g, cap, cur, h1, by omega, h3⟩
theorem Tcs.base {w : World} {U : Nat → Nat} {B B' : Nat} {us : List Value} {cs : List OC} {T : Nat → Nat → Prop} (h : Tcs w U B us cs T) (hB : B' ≤ B) : Tcs w U B' us cs T :=
  ⟨h.l, fun k u c h1 h2 => by
    have := h.c k u c h1 h2
    cases c with
    | un => exact this
    | dv x => exact this
    | ow e z rows => obtain ⟨xs, g1, g2⟩ := this; exact ⟨xs, Rc.base g1 hB, g2⟩, h.o, h.d, h.b⟩
theorem op_append_tr {o : Oper} {σ : AS} {t e : TypeId} {s x : Operand} (m : Nat) (ho : o.op = .call { callee := .builtin .append, args := #[s, x], argTypes := #[t, t] })
    {zv : Value} {sz b : Nat} (ht : P.underlying t = some (.slice e)) (hi : TI P e zv sz b) (hzs : Nat.beq zv.cells.size sz = true) (hz0 : Nat.blt 0 sz = true) {m0 : Nat} {rows rows' : List (List OC)} {kill : Option Nat} {rn : List Nat} {av : AV}
    (hs : σ.ev s = .ow m0) (hm : σ.n m0 = .tr e sz rows) (hx : σ.ev x = av) (hxv : RowsS σ sz av rows' kill rn) (hkm : (match kill with | some q => Nat.beq q m0 | none => false) = false) {n n' : Nat} (hn : rows.length = n) (hn' : rows'.length = n') (hbytes : (n + n') * (b + 1) ≤ 140737488355328) (hd : dOk o N = true) :
    OpS P N w0 U0 o σ ⟨o.dst.map fun d => (d, .ow m), (m, .tr e sz (rows ++ rows')) :: (m0 :: kill.toList).map (fun q => (q, Ob.no)), m0 :: rn, [m]⟩ := by
  obtain ⟨i, i1, i2, i3, i4⟩ := hi
  subst i3
  subst i4
  intro σ' hok a w hst K Q hK
  obtain ⟨F, hF⟩ := hst.f
  have hz0' := Nat.le_of_ble_eq_true hz0
  have hzs' := Nat.eq_of_beq_eq_true hzs
  have hv0 : a.eval s = F.γ m0 := ev_get hok hF (x := s) (by simp [ho, Op.operands, Call.operands]) hs
  have hvx := ev_get hok hF (x := x) (by simp [ho, Op.operands, Call.operands]) hx
  obtain ⟨A, c, hvs, hrz', hsrc⟩ := hxv.get hF hz0' (fun q hq => hok.n q (by simp [hq])) hvx
  have hm' : σ'.n m0 = .tr e i.size rows := by rw [hok.n m0 (by simp)]; exact hm
  have hlive : (σ'.n m0).live = true := by rw [hm']; rfl
  have hob := hF.n m0
  rw [hm'] at hob
  obtain ⟨xs, T, g1, g2, g3, g4, g5⟩ := hob
  have hfr : fresh σ' m := hok.f m (by simp)
  have hrun : ∀ v' w', (Builtin.append_ #[t, t] o.type #[a.eval s, a.eval x]).run P w = .ok v' w' → (execOp a.eval o).run P w = .ok (.value v') w' := by
    intro v' w' hr
    unfold execOp
    simp only [ho, resolve, invoke, builtin, Sem.run_bind, Sem.run_pure, Result.andThen_ok, List.map_toArray, List.map_cons, List.map_nil, hr]
  rw [hv0, hvs] at hrun
  unfold Oper.wp
  have hγγ : ∀ v : Value, (fun k => if k = m then v else F.γ k) m = v := fun v => if_pos rfl
  by_cases hr0 : rows' = []
  · subst hr0
    rw [hrun _ _ (run_app0 (P := P) w w0.heap.size t o.type e i i.size ht i1 rfl _ _ _ g1 A c)]
    rw [List.append_nil] at hK
    have hfit := hF.make (m := m) (ob := .tr e i.size rows) (ks := m0 :: kill.toList) (γv := F.γ m0) (βv := none) (Sm := F.S m0) (U' := F.U) (w' := w) (a' := a.put o.dst (F.γ m0)) (tw := o.dst.map fun d => (d, .ow m)) hfr Ext.rfl (fun _ _ => rfl) (fun _ _ _ _ _ _ => ⟨rfl, rfl⟩) (fun b hb => .inr ⟨m0, by simp, hlive, hb⟩)
      ⟨xs, T, by simp only [↓reduceIte]; exact g1, g2, g3, fun b hb => by simp only [↓reduceIte] at hb; exact g4 b hb, fun b => by simp only [↓reduceIte]; exact g5 b⟩
      (hta_put hd hst.s (.ow m) (F.γ m0)).1 (fun d v h => by
        obtain ⟨rfl, h3⟩ := (hta_put hd hst.s (.ow m) (F.γ m0)).2 d v h
        rw [h3]; exact (hγγ _).symm) (m0 :: rn) [m]
    exact hK _ _ ⟨by rw [put_defers]; exact hst.d, by rw [put_size]; exact hst.s, hst.b, _, hfit⟩
  · obtain ⟨sb, off, news, T2, rfl, n1, n2, n3, n4⟩ := hsrc hr0
    have hpos : 0 < rows'.length := List.length_pos_iff.2 hr0
    subst hn
    subst hn'
    have q1 : (rows.length + rows'.length) * 1 ≤ (rows.length + rows'.length) * (i.bytes + 1) := Nat.mul_le_mul_left _ (by omega)
    have q2 : (rows.length + rows'.length) * i.bytes ≤ (rows.length + rows'.length) * (i.bytes + 1) := Nat.mul_le_mul_left _ (by omega)
    obtain ⟨g, cap, w', hr, hown', hB, hcase⟩ := run_app (P := P) w w0.heap.size t o.type e i zv i.size i.bytes ht i1 i2 rfl rfl hzs' hz0' (F.γ m0) rows.length xs g1 ⟨sb, off, none⟩ rows'.length c news n1 n2 n3.o hpos (by unfold maxLen; omega) (by omega) hst.b.size
    rw [hrun _ _ hr]
    have hgB : w0.heap.size ≤ g := by
      rcases hcase with ⟨rfl, _⟩ | ⟨h1, _⟩
      · exact hst.b.size
      · exact (g1.lt g h1).1
    obtain ⟨U', hU'⟩ : ∃ U' : Nat → Nat, U' = fun b => if b = g then 0 else F.U b := ⟨_, rfl⟩
    have hU1 : U' g = 0 := by rw [hU']; simp
    have hU2 : ∀ b, b ≠ g → U' b = F.U b := fun b hb => by rw [hU']; simp [hb]
    have hkept : ∀ b, b < w.heap.size → b ≠ g → w'.heap[b]? = w.heap[b]? := fun b hlt hne => by
      rcases hcase with ⟨rfl, h2⟩ | ⟨_, h2, _⟩
      · exact h2 b hlt
      · exact h2 b hne
    have hE : Ext w F.U w' U' := by
      refine ⟨?_, fun r es c hmp hu => ?_⟩
      case refine_2 =>
        have hlt : r < w.heap.size := (Array.getElem?_eq_some_iff.1 hmp).1
        have hne : r ≠ g := fun e' => by
          subst e'
          rcases hcase with ⟨h1, _⟩ | ⟨h1, _⟩
          · omega
          · rw [(g4 r h1).1] at hu; omega
        exact ⟨hkept r hlt hne, hU2 r hne⟩
      intro b' o' u' hc ho'
      have hlt := World.block_lt_of_cell? w _ hc
      have hlt' : b' < w.heap.size := hlt
      have hne : b' ≠ g := fun e' => by
        subst e'
        rcases hcase with ⟨h1, _⟩ | ⟨h1, _⟩
        · omega
        · rw [(g4 b' h1).1] at ho'; omega
      exact ⟨(World.cell?_of_block (hkept b' hlt' hne)).trans hc, by rw [hU2 b' hne]; exact ho'⟩
    have hTg : ∀ k, ¬ T k g := fun k hk => by
      rcases hcase with ⟨h1, _⟩ | ⟨h1, _⟩
      · have := (g2.lt hk).2; omega
      · exact (g4 g h1).2 k hk
    have hS0 : ∀ k b, T k b → F.S m0 b := fun k b hk => (g5 b).2 (.inr ⟨k, hk⟩)
    have hkm' : ∀ q, kill = some q → q ≠ m0 := fun q hq e' => by subst hq; subst e'; simp at hkm
    have hT2g : ∀ k, ¬ T2 k g := fun k hk => by
      obtain ⟨q, e1, e2, e3⟩ := n4 k g hk
      rcases hcase with ⟨h1, _⟩ | ⟨h1, _⟩
      · have := ((hF.n q).lt e2 e3).2; omega
      · exact hkm' q e1 (hF.i q m0 g e2 hlive e3 ((g5 g).2 (.inl h1)))
    have hdis : ∀ k k' b, T k b → T2 k' b → False := fun k k' b h1 h2 => by
      obtain ⟨q, e1, e2, e3⟩ := n4 k' b h2
      exact hkm' q e1 (hF.i q m0 b e2 hlive e3 (hS0 k b h1))
    have happ := g2.append n3 hdis
    obtain ⟨T', hT'⟩ : ∃ T' : Nat → Nat → Prop, T' = fun j b => if j < xs.length then T j b else T2 (j - xs.length) b := ⟨_, rfl⟩
    rw [← hT'] at happ
    have hTsub : ∀ q b, T' q b → (∃ k, T k b) ∨ ∃ k, T2 k b := fun q b h => by
      rw [hT'] at h
      split at h
      · exact .inl ⟨_, h⟩
      · exact .inr ⟨_, h⟩
    have hTg' : ∀ q b, T' q b → b ≠ g := fun q b h e' => by
      subst e'
      rcases hTsub q b h with ⟨k, h⟩ | ⟨k, h⟩
      · exact hTg k h
      · exact hT2g k h
    have hTlt : ∀ q b, T' q b → b < w.heap.size := fun q b h => by
      rcases hTsub q b h with ⟨k, h⟩ | ⟨k, h⟩
      · exact (g2.lt h).2
      · exact (n3.lt h).2
    have hfit := hF.make (m := m) (ob := .tr e i.size (rows ++ rows')) (ks := m0 :: kill.toList) (γv := .slice (some ⟨g, 0, none⟩) (rows.length + rows'.length) cap) (βv := none) (Sm := fun b => b = g ∨ ∃ k, T' k b) (U' := U') (w' := w') (a' := a.put o.dst (.slice (some ⟨g, 0, none⟩) (rows.length + rows'.length) cap)) (tw := o.dst.map fun d => (d, .ow m)) hfr hE (fun b hb => hU2 b (by omega))
      (fun k b hl hk hb hlt => by
        have hne : b ≠ g := fun e' => by
          subst e'
          rcases hcase with ⟨h1, _⟩ | ⟨h1, _⟩
          · omega
          · exact hk (by rw [hF.i k m0 b hl hlive hb ((g5 b).2 (.inl h1))]; simp)
        exact ⟨hkept b hlt hne, hU2 b hne⟩)
      (fun b hb => by
        rcases hb with hb | ⟨k, hb⟩
        · subst hb
          rcases hcase with ⟨h1, _⟩ | ⟨h1, _⟩
          · exact .inl (by omega)
          · exact .inr ⟨m0, by simp, hlive, (g5 b).2 (.inl h1)⟩
        · rcases hTsub k b hb with ⟨q, h⟩ | ⟨q, h⟩
          · exact .inr ⟨m0, by simp, hlive, hS0 q b h⟩
          · obtain ⟨q', e1, e2, e3⟩ := n4 q b h
            exact .inr ⟨q', by simp [e1], e2, e3⟩)
      ⟨xs ++ news, T', by simp only [↓reduceIte, List.length_append]; exact hown', by rw [List.flatten_append]; exact happ.ext hE (fun k b hk hlt => ⟨hkept b hlt (hTg' k b hk), hU2 b (hTg' k b hk)⟩), fun r hr => (List.mem_append.1 hr).elim (g3 r) (hrz' r), fun b hb => by
        simp only [↓reduceIte] at hb
        injection hb with hb
        subst hb
        exact ⟨hU1, fun k hk => hTg' k _ hk rfl⟩, fun b => by
        simp only [↓reduceIte]
        constructor
        · rintro (h | h)
          · exact .inl (by rw [h]; rfl)
          · exact .inr h
        · rintro (h | h)
          · injection h with h; exact .inl h.symm
          · exact .inr h⟩
      (hta_put hd hst.s (.ow m) _).1 (fun d v h => by
        obtain ⟨rfl, h3⟩ := (hta_put hd hst.s (.ow m) (.slice (some ⟨g, 0, none⟩) (rows.length + rows'.length) cap)).2 d v h
        rw [h3]; exact (hγγ _).symm) (m0 :: rn) [m]
    exact hK _ _ ⟨by rw [put_defers]; exact hst.d, by rw [put_size]; exact hst.s, hst.b.trans hB, _, hfit⟩
/-- a nil slice is an own row -/
theorem imp_nilT {L : List (Nat × AV)} {M : List (Nat × Ob)} (t m : Nat) (e : TypeId) (z : Nat) (ht : lk L t = .d (.fl (.slice none 0 0))) (hf : freshB L M m = true) : Imp N w0 U0 (SS L M) (SS ((t, .ow m) :: L) ((m, .tr e z []) :: M)) := by
  intro a w hs
  obtain ⟨F, hF⟩ := hs.f
  have hfr := fresh_ss hf
  have hv : a.tmps.getD t undef = .slice none 0 0 := by
    have : Rav w F (lk L t) _ := hF.t t
    rw [ht] at this
    generalize a.tmps.getD t undef = v at this ⊢
    cases this
    rfl
  have hfit := hF.make (m := m) (ob := .tr e z []) (ks := []) (γv := .slice none 0 0) (βv := none) (Sm := fun _ => False) (U' := F.U) (w' := w) (a' := a) (tw := some (t, .ow m)) hfr Ext.rfl (fun _ _ => rfl) (fun _ _ _ _ _ _ => ⟨rfl, rfl⟩) (fun b h => h.elim)
    ⟨[], fun _ _ => False, by simp only [if_true]; exact World.ownsRow_nil _ _ _ _, ⟨rfl, fun k u c h => by simp at h, fun u hu => (by cases hu), fun _ _ _ h => h.elim, fun _ _ h => h.elim⟩, (fun r hr => by cases hr), (fun b hb => by simp only [↓reduceIte] at hb; cases hb), fun b => by
      simp only [↓reduceIte]
      exact ⟨fun h => h.elim, fun h => h.elim (fun h => by cases h) (fun ⟨_, h⟩ => h.elim)⟩⟩
    (fun t' => by simp only; split <;> rfl) (fun d v h => by
      simp only [Option.some.injEq, Prod.mk.injEq] at h
      obtain ⟨rfl, rfl⟩ := h
      rw [hv]; exact (if_pos rfl).symm) [] []
  rw [ap_ss] at hfit
  exact ⟨hs.d, hs.s, hs.b, _, hfit⟩
/-- a slice of nothing -/
theorem op_slice0 {o : Oper} {σ : AS} {t : TypeId} (m : Nat) (ho : o.op = .buildSlice t 0 #[]) {e : TypeId} {zv : Value} {sz b : Nat} (ht : P.underlying t = some (.slice e)) (hi : TI P e zv sz b) (hd : dOk o N = true) : OpS P N w0 U0 o σ ⟨o.dst.map fun d => (d, .ow m), (m, .tr e sz []) :: ([] : List Nat).map (fun q => (q, Ob.no)), [], [m]⟩ := by
  obtain ⟨i, i1, i2, i3, i4⟩ := hi
  subst i3
  intro σ' hok a w hst K Q hK
  obtain ⟨F, hF⟩ := hst.f
  have hex : (execOp a.eval o).run P w = .ok (.value (.slice (some ⟨w.heap.size, 0, none⟩) 0 0)) (w.alloc (.cells #[] e)) := by
    have hbig : ¬ (0 * i.size > 2 ^ 24) := by omega
    unfold execOp
    simp only [ho, Instr.buildSlice, Sem.run_bind, run_underlying ht, Result.andThen_ok, run_sizeOf' i1, if_neg hbig, Nat.zero_mul, if_true, Sem.run_pure]
    simp [Instr.fill, newRow, newObj, Sem.run]
    congr 2
    apply Array.ext'
    simp
  unfold Oper.wp
  rw [hex]
  have hU2 : ∀ b, b < w.heap.size → (fun b => if b = w.heap.size then 0 else F.U b) b = F.U b := fun b hb => by simp; intro h; omega
  have hE : Ext w F.U (w.alloc (.cells #[] e)) (fun b => if b = w.heap.size then 0 else F.U b) := Up.ext ⟨fun b hlt => Below.heap_alloc w _ b hlt, hU2⟩
  have hγγ : ∀ v : Value, (fun k => if k = m then v else F.γ k) m = v := fun v => if_pos rfl
  have hfit := hF.make (m := m) (ob := .tr e i.size []) (ks := []) (γv := .slice (some ⟨w.heap.size, 0, none⟩) 0 0) (βv := none) (Sm := fun b => b = w.heap.size) (U' := fun b => if b = w.heap.size then 0 else F.U b) (w' := w.alloc (.cells #[] e)) (a' := a.put o.dst (.slice (some ⟨w.heap.size, 0, none⟩) 0 0)) (tw := o.dst.map fun d => (d, .ow m)) (hok.f m (by simp)) hE (fun b hb => hU2 b (by have := hst.b.size; omega)) (fun k b _ _ _ hlt => ⟨Below.heap_alloc w _ b hlt, hU2 b hlt⟩) (fun b h => .inl (by omega))
    ⟨[], fun _ _ => False, by
      simp only [↓reduceIte]
      exact ⟨by simp, .inr ⟨w.heap.size, 0, #[], rfl, hst.b.size, Go.heap_alloc_new w _, Nat.le_refl _, by unfold maxLen; omega, by simp, by simp⟩⟩, ⟨rfl, fun k u c h => by simp at h, fun u hu => (by cases hu), fun _ _ _ h => h.elim, fun _ _ h => h.elim⟩, (fun r hr => by cases hr), fun b hb => by
      simp only [↓reduceIte] at hb
      injection hb with hb
      subst hb
      exact ⟨by simp, fun _ h => h⟩, fun b => by
      simp only [↓reduceIte]
      constructor
      · intro h; exact .inl (by rw [h]; rfl)
      · rintro (h | ⟨_, h⟩)
        · injection h with h; exact h.symm
        · exact h.elim⟩
    (hta_put hd hst.s (.ow m) _).1 (fun d v h => by
      obtain ⟨rfl, h3⟩ := (hta_put hd hst.s (.ow m) (.slice (some ⟨w.heap.size, 0, none⟩) 0 0)).2 d v h
      rw [h3]; exact (hγγ _).symm) [] [m]
  exact hK _ _ ⟨by rw [put_defers]; exact hst.d, by rw [put_size]; exact hst.s, hst.b.alloc hst.b.size _, _, hfit⟩
end
end Go.Proofs.Yteplcjhnmmpicaa.Av
