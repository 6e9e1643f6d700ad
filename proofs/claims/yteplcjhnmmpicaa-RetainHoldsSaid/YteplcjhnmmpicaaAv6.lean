/- Appends to rows of the call's own; slices built of parts. Conditions: as each theorem names them. -/
import Derived.Test.YteplcjhnmmpicaaAv5
set_option linter.unusedSimpArgs false
set_option linter.unusedVariables false
namespace Go.Proofs.Yteplcjhnmmpicaa.Av
open Go Go.RowKit
section
variable {P : Program} {N : Nat} {w0 : World} {U0 : Nat → Nat}
/-- append of something: where the new row lies, and what stays -/
theorem run_app (w : World) (base : Nat) (t ty e : TypeId) (i : TypeInfo) (z : Value) (size bytes : Nat) (ht : P.underlying t = some (.slice e)) (hi : P.info? e = some i) (hz : i.zero = some z)
    (hsize : i.size = size) (hby : i.bytes = bytes) (hzs : z.cells.size = size) (hsz : 0 < size)
    (v : Value) (n : Nat) (xs : List Value) (hown : w.ownsRow base e size v n xs)
    (a : Addr) (m c : Nat) (news : List Value) (hl : news.length = m * size) (hnews : ∀ j u, news[j]? = some u → w.cell? (a.add j) = some u) (h1 : ∀ u ∈ news, u.oneCell' = true)
    (hm : 0 < m) (h63 : n + m ≤ maxLen) (hbytes : (n + m) * bytes ≤ 140737488355328) (hbase : base ≤ w.heap.size) :
    ∃ g cap w', (Builtin.append_ #[t, t] ty #[v, .slice (some a) m c]).run P w = .ok (.slice (some ⟨g, 0, none⟩) (n + m) cap) w' ∧ w'.ownsRow base e size (.slice (some ⟨g, 0, none⟩) (n + m) cap) (n + m) (xs ++ news) ∧ Below base w w' ∧
      ((g = w.heap.size ∧ ∀ b, b < w.heap.size → w'.heap[b]? = w.heap[b]?) ∨ (v.ownBlock = some g ∧ (∀ b, b ≠ g → w'.heap[b]? = w.heap[b]?) ∧ ∀ j, j < n * size → w'.cell? ⟨g, j, none⟩ = w.cell? ⟨g, j, none⟩)) := by
  subst hsize
  subst hby
  have hlen : (xs ++ news).length = (n + m) * i.size := by rw [List.length_append, hown.1, hl, Nat.add_mul]
  have grown : ∀ (old : Nat), old < n + m →
      (w.drew.alloc (.cells (xs.toArray ++ news.toArray ++ Builtin.zeroCells z.cells (grownCap w (n + m) old e - (n + m))) e)).ownsRow base e i.size
        (.slice (some ⟨w.heap.size, 0, none⟩) (n + m) (grownCap w (n + m) old e)) (n + m) (xs ++ news) ∧
      Below base w (w.drew.alloc (.cells (xs.toArray ++ news.toArray ++ Builtin.zeroCells z.cells (grownCap w (n + m) old e - (n + m))) e)) ∧
      ∀ b, b < w.heap.size → (w.drew.alloc (.cells (xs.toArray ++ news.toArray ++ Builtin.zeroCells z.cells (grownCap w (n + m) old e - (n + m))) e)).heap[b]? = w.heap[b]? := by
    intro old ho
    have hge := grownCap_ge w (n + m) old e
    have hcm : grownCap w (n + m) old e ≤ maxLen := grownCap_le_maxLen w (n + m) old e h63
    refine ⟨⟨hlen, .inr ⟨w.heap.size, _, _, rfl, hbase, Go.heap_alloc_new w.drew _, hge, hcm, ?_, ?_⟩⟩, ((Below.refl base w).drew).alloc hbase _, fun k hk => Below.heap_alloc w.drew _ k hk⟩
    · simp only [Array.size_append, List.size_toArray, size_zeroCells, hzs, hown.1, hl, ← Nat.add_mul]
      congr 1
      omega
    · simp only [Array.toList_append, List.append_assoc]
      rw [← List.append_assoc, ← hlen]
      exact List.take_left
  rcases hown.2 with ⟨rfl, rfl⟩ | ⟨g, cap, cur, rfl, hbg, hg, hnc, hcm, hcs, htake⟩
  · have hx : xs = [] := List.eq_nil_of_length_eq_zero (by simpa using hown.1)
    subst hx
    have hr := run_append_nil (P := P) w t ty e i z ht hi hz a m c news hl hnews (by omega) (by unfold maxLen at h63; omega) (by have hb := hbytes; simp only [Nat.zero_add] at hb; omega)
    have hgr := grown 0 (by omega)
    simp only [Nat.zero_add, List.nil_append, Array.empty_append] at hgr ⊢
    exact ⟨_, _, _, hr, hgr.1, hgr.2.1, .inl ⟨rfl, hgr.2.2⟩⟩
  · by_cases hroom : n + m ≤ cap
    · have hfit : n * i.size + news.length ≤ cur.size := by rw [hl, hcs, ← Nat.add_mul]; exact Nat.mul_le_mul_right _ hroom
      have hr := run_append_room (P := P) w t ty e i ht hi g n cap cur hg a m c news hl hnews h1 hroom hfit
      refine ⟨g, cap, _, hr, ⟨hlen, .inr ⟨g, cap, _, rfl, hbg, setRow_heap w g cur _ e _ hg, hroom, hcm, ?_, ?_⟩⟩, ⟨rfl, rfl, rfl, by simp, fun k hk => setRow_other w g k _ (by omega)⟩, .inr ⟨rfl, fun b hb => setRow_other w g b _ hb, fun j hj => ?_⟩⟩
      · simp only [List.size_toArray, List.length_append, List.length_take, List.length_drop, Array.length_toList]
        omega
      · rw [htake, ← hlen]
        exact List.take_left
      · rw [cell_setRow_same w g j cur _ e _ hg, cell_of_row w g j cur e (0, 0) hg]
        simp only [List.getElem?_toArray]
        rw [List.append_assoc, List.getElem?_append_left (by simp; omega), List.getElem?_take_of_lt hj]
        simp
    · have holds : ∀ j u, xs[j]? = some u → w.cell? ((⟨g, 0, none⟩ : Addr).add j) = some u := hown.cells (g := g) rfl
      have hr := run_append_grow (P := P) w t ty e i z ht hi hz ⟨g, 0, none⟩ n cap xs hown.1 holds a m c news hl hnews (by omega) (by unfold maxLen at h63; omega) (growslice_fits (by omega) hbytes)
      have hgr := grown cap (by omega)
      exact ⟨_, _, _, hr, hgr.1, hgr.2.1, .inl ⟨rfl, hgr.2.2⟩⟩
/-- append of nothing -/
theorem run_app0 (w : World) (base : Nat) (t ty e : TypeId) (i : TypeInfo) (size : Nat) (ht : P.underlying t = some (.slice e)) (hi : P.info? e = some i) (hsize : i.size = size)
    (v : Value) (n : Nat) (xs : List Value) (hown : w.ownsRow base e size v n xs) (A : Option Addr) (c : Nat) :
    (Builtin.append_ #[t, t] ty #[v, .slice A 0 c]).run P w = .ok v w := by
  have hf : ∀ w : World, (Builtin.firstCells i.size 0 (.slice A 0 c)).run P w = .ok #[] w := by
    intro w
    cases A with
    | none => rfl
    | some a => simp [Builtin.firstCells, loadCells, loadCellsFrom]
  rcases hown.2 with ⟨rfl, rfl⟩ | ⟨g, cap, cur, rfl, hbg, hg, hnc, hcm, hcs, htake⟩
  · simp [Builtin.append_, run_underlying ht, sizeOf, typeInfo, hi, Builtin.lenOf, hf]
  · simp [Builtin.append_, run_underlying ht, sizeOf, typeInfo, hi, Builtin.lenOf, hf, hnc, storeCells]
/-- the cells of a slice that reads as rows -/
theorem rows_cells {w : World} {U : Nat → Nat} {b off n c z : Nat} {rows : List (List DV)} (h : Rd w U (.slice (some ⟨b, off, none⟩) n c) (.sl z rows)) (hr : rows ≠ []) (hz : 0 < z) :
    ∃ news : List Value, news.length = n * z ∧ rows.length = n ∧ (∀ r ∈ rows, r.length = z) ∧ (∀ j u, news[j]? = some u → w.cell? ((⟨b, off, none⟩ : Addr).add j) = some u) ∧ Rc w U news rows.flatten := by
  cases h with
  | sn => exact absurd rfl hr
  | sl _ _ _ _ _ _ u hn hzz hm hcell hrr =>
    obtain ⟨news, h1, h2⟩ := choose_list (p := fun k v => w.cell? ⟨b, off + k, none⟩ = some v ∧ v.oneCell' = true ∧ ∀ x, rows.flatten[k]? = some x → Rd w U v x) (n * z) (fun k hk => by
      have hi : k / z < rows.length := by rw [hn]; exact Nat.div_lt_of_lt_mul (by rwa [Nat.mul_comm])
      have hj : k % z < z := Nat.mod_lt _ hz
      have hk' : k / z * z + k % z = k := by rw [Nat.mul_comm]; exact Nat.div_add_mod k z
      obtain ⟨r, hr'⟩ : ∃ r, rows[k / z]? = some r := ⟨_, List.getElem?_eq_getElem hi⟩
      have hrz := hzz r (List.mem_of_getElem? hr')
      obtain ⟨x, hx⟩ : ∃ x, r[k % z]? = some x := ⟨_, List.getElem?_eq_getElem (by omega)⟩
      have hca := cellAt_some hr' hx
      obtain ⟨g1, _, g3⟩ := hcell _ _ x hca
      rw [Nat.add_assoc, hk'] at g1
      refine ⟨_, g1, g3, fun x' hx' => ?_⟩
      have := (flatten_get hzz hr' hx).1
      rw [hk', hx'] at this
      injection this with this
      subst this
      exact hrr _ _ _ hca)
    have hfl : rows.flatten.length = n * z := by
      rw [← hn]
      clear hcell hrr h2 hn hm h1 hr
      induction rows with
      | nil => simp
      | cons r rows ih =>
        simp only [List.flatten_cons, List.length_append, List.length_cons, Nat.succ_mul]
        rw [ih (fun r hr => hzz r (by simp [hr])), hzz r (by simp)]
        omega
    refine ⟨news, h1, hn, hzz, fun j v hv => by rw [add_plain']; exact (h2 j v hv).1, ⟨⟨by rw [h1, hfl], fun j v x hv hx => (h2 j v hv).2.2 x hx⟩, fun v hv => ?_⟩⟩
    obtain ⟨j, hj⟩ := List.mem_iff_getElem?.1 hv
    exact (h2 j v hj).2.1
/-- the state behind an append -/
theorem append_fit {σ : AS} {a : Act} {w : World} {F : Fr} (hF : Fits w0 U0 σ a w F) (hs : St N w0 U0 σ a w) {o : Oper} (hd : dOk o N = true) {t e : TypeId} {s x : Operand} (ho : o.op = .call { callee := .builtin .append, args := #[s, x], argTypes := #[t, t] })
    {i : TypeInfo} {zv : Value} (ht : P.underlying t = some (.slice e)) (hi : P.info? e = some i) (hzv : i.zero = some zv) (hzs : zv.cells.size = i.size) (hz0 : 0 < i.size) {m : Nat} {kill : Option Nat} (hf : fresh σ m) {rows rows' : List (List DV)} {xs : List Value}
    (hown : w.ownsRow w0.heap.size e i.size (a.eval s) rows.length xs) (hrc : Rc w F.U xs rows.flatten) (hrz : ∀ r ∈ rows, r.length = i.size) (hU : ∀ b, (a.eval s).ownBlock = some b → F.U b = rows.length * i.size ∧ ∃ q, kill = some q ∧ (σ.n q).live = true ∧ F.S q b)
    (hsrc : Rd w F.U (a.eval x) (.sl i.size rows')) (h63 : rows.length + rows'.length ≤ 9223372036854775807) (hbytes : (rows.length + rows'.length) * i.bytes ≤ 140737488355328) (rn : List Nat)
    {K : Act → World → Prop} {Q : Exit → Act → World → Prop} (hK : ∀ a' w', St N w0 U0 ((⟨o.dst.map fun d => (d, .ow m), (m, .ow e i.size (rows ++ rows')) :: kill.toList.map (fun k => (k, Ob.no)), rn, [m]⟩ : Eff).ap σ) a' w' → K a' w') : o.wp P a w K Q := by
  have hbl : ∀ b, (a.eval s).ownBlock = some b → w0.heap.size ≤ b ∧ b < w.heap.size := fun b hb => hown.lt b hb
  have hrun : ∀ v' w', (Builtin.append_ #[t, t] o.type #[a.eval s, a.eval x]).run P w = .ok v' w' → (execOp a.eval o).run P w = .ok (.value v') w' := by
    intro v' w' hr
    unfold execOp
    simp only [ho, resolve, invoke, builtin, Sem.run_bind, Sem.run_pure, Result.andThen_ok, List.map_toArray, List.map_cons, List.map_nil, hr]
  unfold Oper.wp
  obtain ⟨A, n', c, hv⟩ : ∃ A n' c, a.eval x = .slice A n' c := by
    generalize a.eval x = v at hsrc
    cases hsrc with
    | sn A c z => exact ⟨A, 0, c, rfl⟩
    | sl b off n c z rows u => exact ⟨_, n, c, rfl⟩
  rw [hv] at hsrc hrun
  by_cases hr0 : rows' = []
  · subst hr0
    have hn0 : n' = 0 := by cases hsrc with
      | sn => rfl
      | sl _ _ _ _ _ _ u hn => simpa using hn.symm
    subst hn0
    rw [hrun _ _ (run_app0 (P := P) w w0.heap.size t o.type e i i.size ht hi rfl _ _ _ hown A c)]
    rw [List.append_nil] at hK
    have hfit := hF.name (kill := kill) (bo := (a.eval s).ownBlock) (γv := a.eval s) (U' := F.U) (w' := w) (ob := .ow e i.size rows) (av := .ow m) (v := a.eval s) (m := m) hf Ext.rfl (fun _ _ => rfl) (fun _ _ _ _ _ _ => ⟨rfl, rfl⟩)
      (fun k b hl hkk hb hbo => by
        obtain ⟨_, q, hq, hql, hqb⟩ := hU b hbo
        exact hkk (by rw [hq]; exact congrArg some (hF.i k q b hl hql hb hqb)))
      ⟨xs, by show w.ownsRow _ _ _ (if m = m then _ else _) _ _; rw [if_pos rfl]; exact hown, hrc, hrz, fun b => by show (if m = m then _ else _) ↔ (if m = m then _ else _ : Value).ownBlock = some b; rw [if_pos rfl, if_pos rfl], fun b hb => (hU b (by have hb' : (if m = m then (a.eval s).ownBlock = some b else _) := hb; rwa [if_pos rfl] at hb')).1⟩
      hd hs.s (by show _ = (if m = m then _ else _); rw [if_pos rfl]) rn
    exact hK _ _ ⟨by rw [put_defers]; exact hs.d, by rw [put_size]; exact hs.s, hs.b, _, hfit⟩
  · cases hsrc with
    | sn => exact absurd rfl hr0
    | sl b off _ _ _ _ u hn hzz hm hcell hrr =>
      have hsrc' : Rd w F.U (.slice (some ⟨b, off, none⟩) n' c) (.sl i.size rows') := .sl b off n' c i.size rows' u hn hzz hm hcell hrr
      obtain ⟨news, g1, g2, g3, g4, g5⟩ := rows_cells hsrc' hr0 hz0
      have hm0 : 0 < n' := by rw [← hn]; exact List.length_pos_iff.2 hr0
      obtain ⟨g, cap, w', hr, hown', hB, hcase⟩ := run_app (P := P) w w0.heap.size t o.type e i zv i.size i.bytes ht hi hzv rfl rfl hzs hz0 (a.eval s) rows.length xs hown ⟨b, off, none⟩ n' c news g1 g4 g5.2 hm0 (by unfold maxLen; omega) (by rw [← hn]; exact hbytes) hs.b.size
      rw [hrun _ _ hr]
      obtain ⟨U', hU'⟩ : ∃ U' : Nat → Nat, U' = fun b => if b = g then (rows.length + n') * i.size else F.U b := ⟨_, rfl⟩
      have hU1 : U' g = (rows.length + n') * i.size := by rw [hU']; simp
      have hU2 : ∀ b, b ≠ g → U' b = F.U b := fun b hb => by rw [hU']; simp [hb]
      have hE : Ext w F.U w' U' := by
        refine ⟨?_, fun r es c hmp hu => ?_⟩
        case refine_2 =>
          have hlt : r < w.heap.size := (Array.getElem?_eq_some_iff.1 hmp).1
          rcases hcase with ⟨rfl, h2⟩ | ⟨h1, h2, h3⟩
          · exact ⟨h2 r hlt, hU2 r (by omega)⟩
          · have hne : r ≠ g := fun e' => by
              subst e'
              rcases hown.2 with ⟨h0, _⟩ | ⟨g2, _, _, h0, _, hg2, _⟩
              · rw [h0] at h1; cases h1
              · rw [h0] at h1
                injection h1 with h1
                have h1' : g2 = r := h1
                subst h1'
                rw [hmp] at hg2; cases hg2
            exact ⟨h2 r hne, hU2 r hne⟩
        intro b' o' u' hc ho'
        have hlt := World.block_lt_of_cell? w _ hc
        have hlt' : b' < w.heap.size := hlt
        rcases hcase with ⟨rfl, h2⟩ | ⟨h1, h2, h3⟩
        · exact ⟨(World.cell?_of_block (h2 b' hlt')).trans hc, by rw [hU2 b' (by omega)]; exact ho'⟩
        · by_cases hbg : b' = g
          · subst hbg
            have hu := (hU b' h1).1
            rw [hu] at ho'
            exact ⟨(h3 o' ho').trans hc, by rw [hU1]; exact Nat.lt_of_lt_of_le ho' (Nat.mul_le_mul_right _ (by omega))⟩
          · exact ⟨(World.cell?_of_block (h2 b' hbg)).trans hc, by rw [hU2 b' hbg]; exact ho'⟩
      have hgB : w0.heap.size ≤ g := by
        rcases hcase with ⟨rfl, _⟩ | ⟨h1, _⟩
        · exact hs.b.size
        · exact (hbl g h1).1
      have hnew : ∀ k b', (σ.n k).live = true → some k ≠ kill → F.S k b' → b' ≠ g := by
        intro k b' hl hkk hb' e'
        rcases hcase with ⟨rfl, _⟩ | ⟨h1, _⟩
        · have := live_lt hF hl hb'; omega
        · obtain ⟨_, q, hq, hql, hqb⟩ := hU g h1
          subst e'
          exact hkk (by rw [hq]; exact congrArg some (hF.i k q b' hl hql hb' hqb))
      have hfit := hF.name (kill := kill) (bo := some g) (γv := .slice (some ⟨g, 0, none⟩) (rows.length + n') cap) (U' := U') (w' := w') (ob := .ow e i.size (rows ++ rows')) (av := .ow m) (v := .slice (some ⟨g, 0, none⟩) (rows.length + n') cap) (m := m) hf hE
        (fun b' hb' => hU2 b' (by omega))
        (fun k b' hl hkk hb' hlt => ⟨by
          rcases hcase with ⟨rfl, h2⟩ | ⟨h1, h2, h3⟩
          · exact h2 b' hlt
          · exact h2 b' (hnew k b' hl hkk hb'), hU2 b' (hnew k b' hl hkk hb')⟩)
        (fun k b' hl hkk hb' e' => hnew k b' hl hkk hb' (by injection e' with e'; exact e'.symm))
        ⟨xs ++ news, by
          show w'.ownsRow _ _ _ (if m = m then _ else _) _ _
          rw [if_pos rfl, List.length_append, hn]; exact hown', by rw [List.flatten_append]; exact (hrc.append g5).ext hE, fun r hr => (List.mem_append.1 hr).elim (hrz r) (g3 r), fun b' => by
          show (if m = m then some g = some b' else _) ↔ (if m = m then _ else _ : Value).ownBlock = some b'
          rw [if_pos rfl, if_pos rfl]; rfl, fun b' hb' => by
          have hb'' : (if m = m then some g = some b' else _) := hb'
          rw [if_pos rfl] at hb''
          injection hb'' with hb''
          subst hb''
          rw [List.length_append, hn]
          exact hU1⟩
        hd hs.s (by show _ = (if m = m then _ else _); rw [if_pos rfl]) rn
      exact hK _ _ ⟨by rw [put_defers]; exact hs.d, by rw [put_size]; exact hs.s, hs.b.trans hB, _, hfit⟩
theorem op_append {o : Oper} {σ : AS} {t e : TypeId} {s x : Operand} (m : Nat) (ho : o.op = .call { callee := .builtin .append, args := #[s, x], argTypes := #[t, t] })
    {i : TypeInfo} {zv : Value} (ht : P.underlying t = some (.slice e)) (hi : P.info? e = some i) (hzv : i.zero = some zv) (hzs : Nat.beq zv.cells.size i.size = true) (hz0 : Nat.blt 0 i.size = true) {m0 : Nat} {rows rows' : List (List DV)} {rn : List Nat}
    (hs : σ.ev s = .ow m0) (hm : σ.n m0 = .ow e i.size rows) (hx : AvD σ (σ.ev x) (.sl i.size rows') rn) (h63 : rows.length + rows'.length ≤ 9223372036854775807) (hbytes : (rows.length + rows'.length) * i.bytes ≤ 140737488355328) (hd : dOk o N = true) :
    OpS P N w0 U0 o σ ⟨o.dst.map fun d => (d, .ow m), [(m, .ow e i.size (rows ++ rows')), (m0, .no)], m0 :: rn, [m]⟩ := by
  intro σ' hok a w hst K Q hK
  obtain ⟨F, hF⟩ := hst.f
  have h1 : a.eval s = F.γ m0 := ev_get hok hF (x := s) (by simp [ho, Op.operands, Call.operands]) hs
  have h2 := ev_get hok hF (x := x) (by simp [ho, Op.operands, Call.operands]) rfl
  have h3 : Rd w F.U (a.eval x) (.sl i.size rows') := AvD.get hF hx (fun m hm => hok.n m (by simp [hm])) h2
  have hm' : σ'.n m0 = .ow e i.size rows := by rw [hok.n m0 (by simp)]; exact hm
  have hob := hF.n m0
  rw [hm'] at hob
  obtain ⟨xs, g1, g2, g3, g4, g5⟩ := hob
  rw [← h1] at g1
  simp only [← h1] at g4
  exact append_fit hF hst hd ho ht hi hzv (Nat.eq_of_beq_eq_true hzs) (Nat.le_of_ble_eq_true hz0) (kill := some m0) (hok.f m (by simp)) g1 g2 g3 (fun b hb => ⟨g5 b ((g4 b).2 hb), m0, rfl, by rw [hm']; rfl, (g4 b).2 hb⟩) h3 h63 hbytes _ hK
theorem op_append_nil {o : Oper} {σ : AS} {t e : TypeId} {s x : Operand} (m : Nat) (ho : o.op = .call { callee := .builtin .append, args := #[s, x], argTypes := #[t, t] })
    {i : TypeInfo} {zv : Value} (ht : P.underlying t = some (.slice e)) (hi : P.info? e = some i) (hzv : i.zero = some zv) (hzs : Nat.beq zv.cells.size i.size = true) (hz0 : Nat.blt 0 i.size = true) {rows' : List (List DV)} {rn : List Nat}
    (hs : σ.ev s = .d (.fl (.slice none 0 0))) (hx : AvD σ (σ.ev x) (.sl i.size rows') rn) (h63 : rows'.length ≤ 9223372036854775807) (hbytes : rows'.length * i.bytes ≤ 140737488355328) (hd : dOk o N = true) :
    OpS P N w0 U0 o σ ⟨o.dst.map fun d => (d, .ow m), [(m, .ow e i.size rows')], rn, [m]⟩ := by
  intro σ' hok a w hst K Q hK
  obtain ⟨F, hF⟩ := hst.f
  have h1 := flat_val (ev_get hok hF (x := s) (by simp [ho, Op.operands, Call.operands]) hs)
  have h2 := ev_get hok hF (x := x) (by simp [ho, Op.operands, Call.operands]) rfl
  have h3 : Rd w F.U (a.eval x) (.sl i.size rows') := AvD.get hF hx (fun m hm => hok.n m (by simp [hm])) h2
  exact append_fit (rows := []) (xs := []) hF hst hd ho ht hi hzv (Nat.eq_of_beq_eq_true hzs) (Nat.le_of_ble_eq_true hz0) (kill := none) (hok.f m (by simp)) (by rw [h1]; exact World.ownsRow_nil _ _ _ _) ⟨Rds.nil, fun u hu => by cases hu⟩ (fun r hr => by cases hr) (fun b hb => by rw [h1] at hb; cases hb) h3 (by simpa using h63) (by simpa using hbytes) _ (by simpa using hK)
end
end Go.Proofs.Yteplcjhnmmpicaa.Av
