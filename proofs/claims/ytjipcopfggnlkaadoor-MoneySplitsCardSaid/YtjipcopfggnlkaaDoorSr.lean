/- The sort of places, as the caller sees it. Conditions: as in the text before. -/
import Derived.Test.YtjipcopfggnlkaaDoorSo
set_option linter.unusedSimpArgs false
set_option linter.unusedVariables false
namespace Go.Proofs.YtjipcopfggnlkaaDoor.Wk
open Go.RowKit Go.Shelf Go.Lib Go.Sort
open Go.Proofs.YtjipcopfggnlkaaDoor.Mt
/-- all that was there is as it was, but block g -/
structure Ex (g : Nat) (w w' : World) : Prop where
  os : w'.os = w.os
  tape : w'.tape = w.tape
  output : w'.output = w.output
  size : w.heap.size ≤ w'.heap.size
  block : ∀ k, k < w.heap.size → k ≠ g → w'.heap[k]? = w.heap[k]?
theorem Ex.low {g B : Nat} {w w' : World} (h : Ex g w w') (hB : B ≤ g) (hg : B ≤ w.heap.size) : RowKit.Below B w w' := ⟨h.os, h.tape, h.output, h.size, fun k hk => h.block k (by omega) (by omega)⟩
theorem Ex.bx {g k : Nat} {w w' : World} {t : TypeId} {cs : Array Value} (h : Ex g w w') (hk : k ≠ g) (hb : Bx w k t cs) : Bx w' k t cs := (h.block k hb.lt hk).trans hb
theorem sort_ex {α : Type} [Inhabited α] (enc : α → Value) (w : World) (blk off m : Nat) (dk : Array α) (os : Array Obj) : Ex blk w (sortWorld enc w blk off m dk os) := by
  refine ⟨rfl, rfl, rfl, by unfold sortWorld; simp [putRow, mapBlock, Sort.ahead, grow], fun k hk hne => ?_⟩
  unfold sortWorld
  rw [Go.Sort.heap_grow_old _ _ (by simp [putRow, mapBlock, Sort.ahead]; exact hk)]
  simp [putRow, mapBlock, Sort.ahead, Array.getElem?_modify, Ne.symm hne]
theorem Ex.cell {g : Nat} {w w' : World} (h : Ex g w w') {p : Addr} (hp : p.block < w.heap.size) (hne : p.block ≠ g) : w'.cell? p = w.cell? p := by
  unfold World.cell?
  rw [h.block _ hp hne]
set_option maxHeartbeats 1000000 in
theorem sort35 (rs : Nat → Nat) (n gv gr go_ c : Nat) (w : World) (hn0 : 0 < n) (hn : n ≤ 100000) (hv : Bx w gv 60 #[.slice (some ⟨gr, 0, none⟩) n n]) (hr : ∀ i, i < n → w.cell? ⟨gr, i, none⟩ = some (.int .u64 ((rs i : Nat) : Int))) (hgr : gr < w.heap.size) (ho : ∀ i, i < n → w.cell? ⟨go_, i, none⟩ = some (.int .i64 (i : Int))) (hof : ∀ i, w.frozen? ⟨go_, i, none⟩ = false) (hgo : go_ < w.heap.size) (n1 : gv ≠ go_) (n2 : gr ≠ go_) :
    Calls Tryd.prog 35 #[.slice (some ⟨go_, 0, none⟩) n c, .func (.func 36) #[] #[.pointer (some ⟨gv, 0, none⟩)]] w fun e w' => e = .returned (.tuple #[]) ∧ ∃ o, OrdOk rs n o ∧ (∀ k (h : k < o.length), w'.cell? ⟨go_, k, none⟩ = some (.int .i64 ((o[k] : Nat) : Int))) ∧ Ex go_ w w' := by
  haveI : Inhabited (Fin n) := ⟨⟨0, hn0⟩⟩
  let enc : Fin n → Value := fun i => .int .i64 ((i.val : Nat) : Int)
  let d : Array (Fin n) := (List.finRange n).toArray
  have hd : d.size = n := by simp [d]
  have hdi : ∀ j, (h : j < n) → d[j]! = ⟨j, h⟩ := by
    intro j h
    rw [getElem!_pos d j (by omega)]
    simp [d]
  have eg : ∀ args w, (callFunc 36 args).run Tryd.prog w = .ok (.enter 36 args) w := enters_of Tryd.func36 (by kernel_rfl) rfl
  have hcmp : CmpLays1 Tryd.prog 36 #[.pointer (some ⟨gv, 0, none⟩)] enc (cfR rs n) go_ 0 d.size w := by
    intro m os dk hdk x y
    have hex := sort_ex enc w go_ 0 m dk os
    exact clo36 rs n gv gr x y _ hn (hex.bx n1 hv) (fun i hi => (hex.cell (p := ⟨gr, i, none⟩) hgr n2).trans (hr i hi)) (Nat.lt_of_lt_of_le hgr hex.size)
  have hH : Holds enc w go_ 0 d := by
    intro j hj
    rw [hd] at hj
    rw [Nat.zero_add, hdi j hj]
    exact ⟨ho j hj, hof j⟩
  have hs := Any.slices_SortFunc_total Tryd.sortIx enc (fun _ => rfl) (cfR rs n) (swoR rs n) 36 #[.pointer (some ⟨gv, 0, none⟩)] go_ 0 c d w eg hcmp hH hgo (by rw [hd]; omega) (fun x y h1 h2 => by
    rw [ltR'] at h1 h2
    apply Fin.ext
    unfold rlt at h1 h2
    omega)
  rw [hd] at hs
  refine hs.mono ?_
  rintro e w' ⟨rfl, m, os, rfl⟩
  let O : List (Fin n) := d.toList.mergeSort fun x y => !(ltOf (cfR rs n)) y x
  have hperm : O.Perm d.toList := List.mergeSort_perm _ _
  have hOl : O.length = n := by rw [hperm.length_eq]; simp [d]
  have hsort : O.Pairwise (fun x y => ltOf (cfR rs n) y x = false) := by
    have h9 := List.pairwise_mergeSort (le := fun x y => !(ltOf (cfR rs n)) y x) (fun a b c h1 h2 => by
      simp only [Bool.not_eq_true'] at h1 h2 ⊢
      exact (swoR rs n).ntrans c b a h2 h1) (fun a b => by
      rcases fot (ltOf (cfR rs n) b a) with h3 | h3
      · simp [h3]
      · have : ltOf (cfR rs n) a b = false := by
          rw [ltR'] 
          rw [ltR] at h3
          unfold rlt at *
          omega
        simp [this]) d.toList
    refine h9.imp ?_
    intro a b h
    simpa using h
  have hnod : O.Nodup := hperm.nodup_iff.2 (by simp only [d]; exact List.nodup_finRange n)
  refine ⟨rfl, O.map Fin.val, ⟨?_, ?_⟩, ?_, sort_ex enc w go_ 0 m _ os⟩
  · have h1 := hperm.map Fin.val
    have h2 : d.toList.map Fin.val = List.range n := by
      apply List.ext_getElem (by simp [d])
      intro i h1 h2
      simp [d]
    rw [h2] at h1
    exact h1
  · rw [List.pairwise_map]
    refine (hsort.and hnod).imp ?_
    intro a b h
    have h1 := (ltR' rs n b a).1 h.1
    have h2 : a.val ≠ b.val := fun h3 => h.2 (Fin.ext h3)
    unfold rlt at *
    omega
  · intro k hk
    have hk2 : k < O.length := by simpa using hk
    have h1 := (holds_sortWorld enc w go_ 0 m d O.toArray os hgo hH (by simp only [List.size_toArray]; rw [hOl, hd])) k (by simpa using hk2)
    rw [Nat.zero_add] at h1
    rw [h1.1, getElem!_pos O.toArray k (by simpa using hk2)]
    simp [enc]
end Go.Proofs.YtjipcopfggnlkaaDoor.Wk
