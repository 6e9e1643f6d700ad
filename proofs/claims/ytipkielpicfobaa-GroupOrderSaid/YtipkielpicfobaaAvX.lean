/- A row of single cells of any data of the call's own is sorted in place by a closure's comparison. Conditions: as each theorem names them. -/
import Derived.Test.YtipkielpicfobaaAvV
set_option linter.unusedSimpArgs false
set_option linter.unusedVariables false
namespace Go.Proofs.Ytipkielpicfobaa.Av
open Go Go.RowKit Go.Sort
theorem cmpLaysX_of {P : Program} {g : Nat} {caps : List DV} {v : Nat → Value} {dv : Nat → DV} {cf : Nat → Nat → Int} (hc : ∀ x y : Nat, Ctr P g ([dv x, dv y] ++ caps) (.d (.fl (.int .i64 (cf x y)))))
    {cv : Array Value} {U : Nat → Nat} {w : World} {b off size : Nat} (hU : U b = 0) (hcv : Rds w U cv.toList caps) (hr : ∀ x, Rd w U (v x) (dv x)) : CmpLays1 P g cv v cf b off size w := by
  intro m os dk hdk x y
  have hE : Ext w U (sortWorld v w b off m dk os) U := ext_but hU sw1_but
  have hargs : Rds (sortWorld v w b off m dk os) U ([v x, v y] ++ cv.toList) ([dv x, dv y] ++ caps) := Rds.append (.cons ((hr x).ext hE) (.cons ((hr y).ext hE) .nil)) (hcv.ext hE)
  have hcall := Mo.Calls.drawn (hc x y _ U _ hargs) (fun w' h => by obtain ⟨v, U', he, _⟩ := h; cases he)
  have ea : ([v x, v y] ++ cv.toList).toArray = #[v x, v y] ++ cv := by apply Array.ext'; simp
  rw [ea] at hcall
  refine hcall.mono ?_
  rintro e w' ⟨⟨u, U', rfl, hb, _, hv⟩, hd⟩
  have hv' : u = .int .i64 (cf x y) := rd_fl hv
  refine ⟨by rw [hv'], ?_⟩
  obtain ⟨p, hp⟩ := regrown_of_below hb
  have hpd : w'.drawn = p.d := by rw [hp]; rfl
  rw [hpd] at hd
  refine ⟨p.d - (sortWorld v w b off m dk os).drawn, p.os, ?_⟩
  rw [hp]
  unfold redrawn World.drewN grow
  simp only [World.mk.injEq, true_and, and_true]
  omega
theorem sortOkDX_of {P : Program} {f g : FuncId} {caps : List DV} {α : Type} {gα : α → List DV} {dα : α → DV} {cf : α → α → Int} (hs : SortG1 P f) (hgf : ∀ x, gα x = [dα x]) (hO : SWO (ltOf cf)) (eg : ∀ args w, (callFunc g args).run P w = .ok (.enter g args) w)
    {p : α → Prop} (hc : ∀ x y : α, p x → p y → Ctr P g ([dα x, dα y] ++ caps) (.d (.fl (.int .i64 (cf x y))))) : SortOkD P f g caps 1 gα p (ltOf cf) := by
  refine ⟨fun cv U b c l w cur e xs hpl hU hcv hrc h1 h2 h3 h62 h4 h5 => ?_, hs.none⟩
  have hblt : b < w.heap.size := (Array.getElem?_eq_some_iff.1 h1).1
  have hfm : ∀ l : List α, (l.map gα).flatten = l.map dα := fun l => by
    induction l with
    | nil => rfl
    | cons a l ih => rw [List.map_cons, List.flatten_cons, hgf, ih]; rfl
  rw [hfm] at hrc
  have hxl : xs.length = l.length := by have := hrc.1.1; simpa using this
  rw [Nat.mul_one] at h4 h5
  cases hl : l with
  | nil =>
    subst hl
    refine (hs.none _ _ _ w).mono ?_
    rintro ex w' ⟨rfl, rfl⟩
    exact ⟨rfl, [], cur, [], List.Perm.refl _, List.Pairwise.nil, h1, rfl, by simp, ⟨Rds.nil, fun u h => by cases h⟩, fun _ _ _ => rfl, Nat.le_refl _, rfl, rfl, rfl⟩
  | cons a0 l0 =>
    rw [← hl]
    have hn : 0 < l.length := by rw [hl]; simp
    have hdef : ∀ i, i % l.length < l.length := fun i => Nat.mod_lt _ hn
    let L : Nat → α := fun i => l[i % l.length]'(hdef i)
    have hL : (List.range l.length).map L = l := by
      apply List.ext_getElem?
      intro i
      rw [List.getElem?_map]
      rcases Nat.lt_or_ge i l.length with h | h
      · rw [List.getElem?_range h, List.getElem?_eq_getElem h]
        show some (l[i % l.length]'_) = _
        congr 1
        congr 1
        exact Nat.mod_eq_of_lt h
      · rw [List.getElem?_eq_none (by simpa using h), List.getElem?_eq_none (by omega)]; rfl
    let enc : Nat → Value := fun i => xs[i % l.length]'(by rw [hxl]; exact hdef i)
    have hr : ∀ i, Rd w U (enc i) (dα (L i)) ∧ (enc i).oneCell' = true := fun i => by
      have a1 : xs[i % l.length]? = some (enc i) := List.getElem?_eq_getElem _
      have a2 : (l.map dα)[i % l.length]? = some (dα (L i)) := by rw [List.getElem?_map, List.getElem?_eq_getElem (hdef i)]; rfl
      exact ⟨hrc.1.2 _ _ _ a1 a2, hrc.2 _ (List.getElem_mem _)⟩
    let cf' : Nat → Nat → Int := fun i j => cf (L i) (L j)
    have hO' : SWO (ltOf cf') := ⟨fun x => hO.irrefl (L x), fun x y z => hO.trans (L x) (L y) (L z), fun x y z => hO.ntrans (L x) (L y) (L z)⟩
    have hH : Holds enc w b 0 (Array.range l.length) := by
      intro j hj
      have hj' : j < l.length := by simpa using hj
      refine ⟨?_, frozen_of_row w b _ cur e h1⟩
      rw [Nat.zero_add, cell_of_row w b j cur e (0, 0) h1]
      have a1 : (cur.toList.take l.length)[j]? = xs[j]? := by rw [h5]
      rw [List.getElem?_take, if_pos hj', Array.getElem?_toList, List.getElem?_eq_getElem (by omega)] at a1
      rw [a1, getElem!_pos _ j hj]
      show some xs[j] = some (xs[(Array.range l.length)[j] % l.length]'_)
      congr 2
      simp [Nat.mod_eq_of_lt hj']
    have hcm : CmpLays1 P g cv enc cf' b 0 (Array.range l.length).size w := cmpLaysX_of (dv := fun i => dα (L i)) (fun x y => hc (L x) (L y) (hpl _ (List.getElem_mem _)) (hpl _ (List.getElem_mem _))) hU hcv (fun x => (hr x).1)
    have hcall := hs.go enc (fun i => (hr i).2) cf' hO' g cv b 0 c (Array.range l.length) w eg hcm hH hblt (by simpa using h62)
    have e0 : (Array.range l.length).size = l.length := by simp
    rw [e0] at hcall
    refine hcall.mono ?_
    rintro ex w' ⟨rfl, d', n, os, hp, hso, rfl⟩
    obtain ⟨p1, _, p3⟩ := hp
    have hsz : d'.size = l.length := by simpa using p1
    have ex1 : (d'.extract 0 l.length).toList = d'.toList := by
      rw [Array.toList_extract]
      simp only [List.extract_eq_take_drop, List.drop_zero, Nat.sub_zero]
      exact List.take_of_length_le (by simp [hsz])
    have ex2 : ((Array.range l.length).extract 0 l.length).toList = List.range l.length := by
      rw [Array.toList_extract, Array.toList_range]
      simp [List.extract_eq_take_drop]
    rw [ex1, ex2] at p3
    have hE : Ext w U (sortWorld enc w b 0 n d' os) U := ext_but hU sw1_but
    refine ⟨rfl, d'.toList.map L, putCells enc 0 d' cur, d'.toList.map enc, by have := p3.map L; rw [hL] at this; exact this, ?_, ?_, by simp [putCells], ?_, ?_, sw1_but, ?_, rfl, rfl, rfl⟩
    · rw [List.pairwise_map, List.pairwise_iff_getElem]
      intro i j hi hj hij
      have hj' : j < d'.size := by simpa using hj
      have := hso i j (Nat.zero_le _) hij (by omega)
      rw [getElem!_pos d' j hj', getElem!_pos d' i (by omega)] at this
      show ltOf cf' (d'.toList[j]) (d'.toList[i]) = false
      simpa using this
    · unfold sortWorld
      rw [heap_grow_old _ _ (by simpa [putRow, mapBlock, Sort.ahead] using hblt)]
      simp [putRow, mapBlock, Sort.ahead, Array.getElem?_modify, h1, onCells]
    · have := take_put1 (enc := enc) (cur := cur) (d := d') (by omega)
      rw [hsz] at this
      rw [Nat.mul_one, this]
    · rw [hfm]
      refine Rc.ext hE ?_
      generalize d'.toList = ds
      induction ds with
      | nil => exact ⟨Rds.nil, fun u h => by simp at h⟩
      | cons i ds ih => exact ⟨Rds.cons (hr i).1 ih.1, fun u hu => (List.mem_cons.1 hu).elim (fun e => by rw [e]; exact (hr i).2) (ih.2 u)⟩
    · unfold sortWorld grow
      simp [putRow, mapBlock, Sort.ahead]
end Go.Proofs.Ytipkielpicfobaa.Av
