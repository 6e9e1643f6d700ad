/- A row of texts or numbers of the call's own is sorted in place by a function whose contract is known, by a closure's comparison. Conditions: as each theorem names them. -/
import Derived.Test.YtipkielpicfobaaAvT
import Derived.Test.YtipkielpicfobaaAvF
import Derived.Shelf.SlSortCmp.Kit1
set_option linter.unusedSimpArgs false
set_option linter.unusedVariables false
namespace Go.Proofs.Ytipkielpicfobaa.Av
open Go Go.RowKit Go.Sort
/-- what the shelf's contract of the sort says, for every kind of row of single values -/
structure SortG1 (P : Program) (f : FuncId) : Prop where
  go : ∀ (enc : Nat → Value), (∀ i, (enc i).oneCell' = true) → ∀ (cf : Nat → Nat → Int), SWO (ltOf cf) → ∀ (g : Nat) (cb : Array Value) (blk off cap : Nat) (d : Array Nat) (w : World), (∀ args w, (callFunc g args).run P w = .ok (.enter g args) w) → CmpLays1 P g cb enc cf blk off d.size w → Holds enc w blk off d → blk < w.heap.size → d.size < 4611686018427387904 →
    Calls P f #[.slice (some ⟨blk, off, none⟩) d.size cap, .func (.func g) #[] cb] w fun e w' => e = .returned (.tuple #[]) ∧ ∃ d' n os, PermIn 0 d.size d d' ∧ SortedIn (ltOf cf) 0 d.size d' ∧ w' = sortWorld enc w blk off n d' os
  none : ∀ (p : Option Addr) (cap : Nat) (fv : Value) (w : World), Calls P f #[.slice p 0 cap, fv] w fun e w' => e = .returned (.tuple #[]) ∧ w' = w
theorem take_put1 {enc : Nat → Value} {cur : Array Value} {d : Array Nat} (h : d.size ≤ cur.size) : (putCells enc 0 d cur).toList.take d.size = d.toList.map enc := by
  apply List.ext_getElem?
  intro j
  by_cases hj : j < d.size
  · rw [List.getElem?_take_of_lt hj, Array.getElem?_toList]
    simp [putCells, hj, show j < cur.size by omega]
  · rw [List.getElem?_take_eq_none (by omega), List.getElem?_eq_none (by simp; omega)]
theorem sw1_but {enc : Nat → Value} {w : World} {b off n : Nat} {d : Array Nat} {os : Array Obj} : ∀ k, k < w.heap.size → k ≠ b → (sortWorld enc w b off n d os).heap[k]? = w.heap[k]? := by
  intro k hk hne
  unfold sortWorld
  rw [heap_grow_old _ _ (by simpa [putRow, mapBlock, Sort.ahead] using hk)]
  simp [putRow, mapBlock, Sort.ahead, Array.getElem?_modify, Ne.symm hne]
theorem cmpLays1_of {P : Program} {g : Nat} {caps : List DV} {v : Nat → Value} {cf : Nat → Nat → Int} (hc : ∀ x y : Nat, Ctr P g ([.fl (v x), .fl (v y)] ++ caps) (.d (.fl (.int .i64 (cf x y)))))
    {cv : Array Value} {U : Nat → Nat} {w : World} {b off size : Nat} (hU : U b = 0) (hcv : Rds w U cv.toList caps) : CmpLays1 P g cv v cf b off size w := by
  intro m os dk hdk x y
  have hE : Ext w U (sortWorld v w b off m dk os) U := ext_but hU sw1_but
  have hargs : Rds (sortWorld v w b off m dk os) U ([v x, v y] ++ cv.toList) ([.fl (v x), .fl (v y)] ++ caps) := Rds.append (.cons (.fl _) (.cons (.fl _) .nil)) (hcv.ext hE)
  have hcall := Mo.Calls.drawn (hc x y _ U _ hargs) (fun w' h => by obtain ⟨v, U', he, _⟩ := h; cases he)
  have ea : ([v x, v y] ++ cv.toList).toArray = #[v x, v y] ++ cv := by apply Array.ext'; simp
  rw [ea] at hcall
  refine hcall.mono ?_
  rintro e w' ⟨⟨u, U', rfl, hb, _, hv⟩, hd⟩
  have hv' : u = .int .i64 (cf x y) := rd_fl hv
  refine ⟨by rw [hv'], ?_⟩
  obtain ⟨p, hp⟩ := regrown_of_below hb
  have hpd : w'.drawn = p.d := by rw [hp]; rfl
  rw [hpd] at hd
  refine ⟨p.d - (sortWorld v w b off m dk os).drawn, p.os, ?_⟩
  rw [hp]
  unfold redrawn World.drewN grow
  simp only [World.mk.injEq, true_and, and_true]
  omega
/-- as sortOkD_of, for rows of single values -/
theorem sortOkD1_of {P : Program} {f g : FuncId} {caps : List DV} {α : Type} {gα : α → List DV} {v : α → Value} {cf : α → α → Int} (hs : SortG1 P f) (hgf : ∀ x, gα x = [.fl (v x)]) (ho1 : ∀ x, (v x).oneCell' = true) (hO : SWO (ltOf cf)) (eg : ∀ args w, (callFunc g args).run P w = .ok (.enter g args) w)
    {p : α → Prop} (hc : ∀ x y : α, p x → p y → Ctr P g ([.fl (v x), .fl (v y)] ++ caps) (.d (.fl (.int .i64 (cf x y))))) : SortOkD P f g caps 1 gα p (ltOf cf) := by
  refine ⟨fun cv U b c l w cur e xs hpl hU hcv hrc h1 h2 h3 h62 h4 h5 => ?_, hs.none⟩
  have hblt : b < w.heap.size := (Array.getElem?_eq_some_iff.1 h1).1
  rw [flat_fl hgf] at hrc
  have hxs : xs = l.map v := rds_flat hrc.1
  rw [Nat.mul_one] at h4 h5
  cases hl : l with
  | nil =>
    subst hl
    refine (hs.none _ _ _ w).mono ?_
    rintro ex w' ⟨rfl, rfl⟩
    exact ⟨rfl, [], cur, [], List.Perm.refl _, List.Pairwise.nil, h1, rfl, by simp, ⟨Rds.nil, fun u h => by cases h⟩, fun _ _ _ => rfl, Nat.le_refl _, rfl, rfl, rfl⟩
  | cons a0 l0 =>
    rw [← hl]
    have hn : 0 < l.length := by rw [hl]; simp
    have hdef : ∀ i, i % l.length < l.length := fun i => Nat.mod_lt _ hn
    let L : Nat → α := fun i => l[i % l.length]'(hdef i)
    have hL : (List.range l.length).map L = l := by
      apply List.ext_getElem?
      intro i
      rw [List.getElem?_map]
      rcases Nat.lt_or_ge i l.length with h | h
      · rw [List.getElem?_range h, List.getElem?_eq_getElem h]
        show some (l[i % l.length]'_) = _
        congr 1
        congr 1
        exact Nat.mod_eq_of_lt h
      · rw [List.getElem?_eq_none (by simpa using h), List.getElem?_eq_none (by omega)]; rfl
    let enc : Nat → Value := fun i => v (L i)
    let cf' : Nat → Nat → Int := fun i j => cf (L i) (L j)
    have hO' : SWO (ltOf cf') := ⟨fun x => hO.irrefl (L x), fun x y z => hO.trans (L x) (L y) (L z), fun x y z => hO.ntrans (L x) (L y) (L z)⟩
    have hH : Holds enc w b 0 (Array.range l.length) := by
      intro j hj
      have hj' : j < l.length := by simpa using hj
      refine ⟨?_, frozen_of_row w b _ cur e h1⟩
      rw [Nat.zero_add, cell_of_row w b j cur e (0, 0) h1]
      have a1 : (cur.toList.take l.length)[j]? = (l.map v)[j]? := by rw [h5, hxs]
      rw [List.getElem?_take, if_pos hj', List.getElem?_map, Array.getElem?_toList, List.getElem?_eq_getElem hj'] at a1
      rw [a1, getElem!_pos _ j hj]
      show some (v l[j]) = some (v (l[(Array.range l.length)[j] % l.length]'_))
      congr 2
      simp [Nat.mod_eq_of_lt hj']
    have hcm : CmpLays1 P g cv enc cf' b 0 (Array.range l.length).size w := cmpLays1_of (fun x y => hc (L x) (L y) (hpl _ (List.getElem_mem _)) (hpl _ (List.getElem_mem _))) hU hcv
    have hcall := hs.go enc (fun i => ho1 _) cf' hO' g cv b 0 c (Array.range l.length) w eg hcm hH hblt (by simpa using h62)
    have e0 : (Array.range l.length).size = l.length := by simp
    rw [e0] at hcall
    refine hcall.mono ?_
    rintro ex w' ⟨rfl, d', n, os, hp, hso, rfl⟩
    obtain ⟨p1, _, p3⟩ := hp
    have hsz : d'.size = l.length := by simpa using p1
    have ex1 : (d'.extract 0 l.length).toList = d'.toList := by
      rw [Array.toList_extract]
      simp only [List.extract_eq_take_drop, List.drop_zero, Nat.sub_zero]
      exact List.take_of_length_le (by simp [hsz])
    have ex2 : ((Array.range l.length).extract 0 l.length).toList = List.range l.length := by
      rw [Array.toList_extract, Array.toList_range]
      simp [List.extract_eq_take_drop]
    rw [ex1, ex2] at p3
    have hE : Ext w U (sortWorld enc w b 0 n d' os) U := ext_but hU sw1_but
    refine ⟨rfl, d'.toList.map L, putCells enc 0 d' cur, (d'.toList.map L).map v, by have := p3.map L; rw [hL] at this; exact this, ?_, ?_, by simp [putCells], ?_, rc_fl hgf ho1 _, sw1_but, ?_, rfl, rfl, rfl⟩
    · rw [List.pairwise_map, List.pairwise_iff_getElem]
      intro i j hi hj hij
      have hj' : j < d'.size := by simpa using hj
      have := hso i j (Nat.zero_le _) hij (by omega)
      rw [getElem!_pos d' j hj', getElem!_pos d' i (by omega)] at this
      show ltOf cf' (d'.toList[j]) (d'.toList[i]) = false
      simpa using this
    · unfold sortWorld
      rw [heap_grow_old _ _ (by simpa [putRow, mapBlock, Sort.ahead] using hblt)]
      simp [putRow, mapBlock, Sort.ahead, Array.getElem?_modify, h1, onCells]
    · have := take_put1 (enc := enc) (cur := cur) (d := d') (by omega)
      rw [hsz] at this
      rw [Nat.mul_one, this, List.map_map]
      rfl
    · unfold sortWorld grow
      simp [putRow, mapBlock, Sort.ahead]
end Go.Proofs.Ytipkielpicfobaa.Av
