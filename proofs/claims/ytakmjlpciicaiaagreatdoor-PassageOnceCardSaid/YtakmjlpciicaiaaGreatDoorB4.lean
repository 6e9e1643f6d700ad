/- Whose plates are whose: fleet.Learn and Of. No condition. -/
import Derived.Test.YtakmjlpciicaiaaGreatDoorB2
set_option linter.unusedSimpArgs false
set_option linter.unusedVariables false
namespace Go.Proofs.YtakmjlpciicaiaaGreatDoor.Wk
open Go Go.RowKit Go.Proofs.YtakmjlpciicaiaaGreatDoor.Av
theorem mfind_mapS {α : Type} (key : α → ByteArray) (val : α → DV) (p : ByteArray) : ∀ l : List α, mfind .string (.string p) (l.map fun x => (Value.string (key x), val x)) = some ((l.find? fun x => sEq (key x) p).map val)
  | [] => rfl
  | x :: l => by
    have ih := mfind_mapS key val p l
    have hb : Instr.sameNow .string (.string p) (.string (key x)) = some (sEq (key x) p) := by
      show some (p == key x) = _
      congr 1
      by_cases h : p = key x
      · rw [← h, show sEq p p = true by simp [sEq]]
        exact (MapKept.bytes_beq p p).2 rfl
      · rw [show sEq (key x) p = false from by simp [sEq, Ne.symm h]]
        cases hq : p == key x with
        | false => rfl
        | true => exact absurd ((MapKept.bytes_beq p (key x)).1 hq) h
    simp only [List.map_cons, mfind, hb]
    cases h : sEq (key x) p with
    | true => simp [h]
    | false => simp [h]; exact ih
abbrev em : ByteArray := ⟨#[]⟩
theorem same_s (p q : ByteArray) : Instr.sameNow .string (.string p) (.string q) = some (sEq q p) := by
  show some (p == q) = _
  congr 1
  by_cases h : p = q
  · rw [← h, show sEq p p = true by simp [sEq]]
    exact (MapKept.bytes_beq p p).2 rfl
  · rw [show sEq q p = false from by simp [sEq, Ne.symm h]]
    cases hq : p == q with
    | false => rfl
    | true => exact absurd ((MapKept.bytes_beq p q).1 hq) h
abbrev OwL := List (ByteArray × ByteArray)
def fO (o : OwL) (p : ByteArray) : Option ByteArray := (o.find? fun x => sEq x.1 p).map Prod.snd
def setO (o : OwL) : List (Value × DV) := o.map fun x => (Value.string x.1, DV.fl (.string x.2))
theorem mfindO (o : OwL) (p : ByteArray) : mfind .string (.string p) (setO o) = some ((fO o p).map fun v => DV.fl (.string v)) := by
  unfold setO fO
  rw [mfind_mapS (fun x : ByteArray × ByteArray => x.1) (fun x => .fl (.string x.2)) p o, Option.map_map]; rfl
def putO (p v : ByteArray) : OwL → OwL
  | [] => [(p, v)]
  | x :: o => bif sEq x.1 p then (p, v) :: o else x :: putO p v o
theorem mput_setO (p v : ByteArray) : ∀ o : OwL, mput .string (.string p) (.fl (.string v)) (setO o) = setO (putO p v o)
  | [] => rfl
  | x :: o => by
    have ih := mput_setO p v o
    have hb := same_s p x.1
    show (match Instr.sameNow .string (.string p) (.string x.1) with
      | some true => _
      | _ => _) = _
    rw [hb]
    cases h : sEq x.1 p with
    | true => simp only [putO, h, cond_true]; rfl
    | false => simp only [putO, h, cond_false]; exact congrArg _ ih
def ow (l : List Psg) : Nat → OwL
  | 0 => []
  | k + 1 => bif sEq (ix l k).tag em || sEq (ix l k).plate em then ow l k else
    match fO (ow l k) (ix l k).plate with
    | none => ow l k ++ [((ix l k).plate, (ix l k).tag)]
    | some t => bif !(sEq t (ix l k).tag) then putO (ix l k).plate em (ow l k) else putO (ix l k).plate (ix l k).tag (ow l k)
theorem ow_skip {l : List Psg} {k : Nat} (h : (sEq (ix l k).tag em || sEq (ix l k).plate em) = true) : ow l (k + 1) = ow l k := by simp only [ow, h, cond_true]
theorem ow_new {l : List Psg} {k : Nat} (h1 : sEq (ix l k).tag em = false) (h2 : sEq (ix l k).plate em = false) (h : fO (ow l k) (ix l k).plate = none) : ow l (k + 1) = ow l k ++ [((ix l k).plate, (ix l k).tag)] := by simp only [ow, h1, h2, h, Bool.or_false, cond_false]
theorem ow_two {l : List Psg} {k : Nat} {t : ByteArray} (h1 : sEq (ix l k).tag em = false) (h2 : sEq (ix l k).plate em = false) (h : fO (ow l k) (ix l k).plate = some t) (h3 : sEq t (ix l k).tag = false) : ow l (k + 1) = putO (ix l k).plate em (ow l k) := by simp only [ow, h1, h2, h, h3, Bool.or_false, cond_false, Bool.not_false, cond_true]
theorem ow_one {l : List Psg} {k : Nat} {t : ByteArray} (h1 : sEq (ix l k).tag em = false) (h2 : sEq (ix l k).plate em = false) (h : fO (ow l k) (ix l k).plate = some t) (h3 : sEq t (ix l k).tag = true) : ow l (k + 1) = putO (ix l k).plate (ix l k).tag (ow l k) := by simp only [ow, h1, h2, h, h3, Bool.or_false, cond_false, Bool.not_true]
theorem fO_app (o : OwL) (p q v : ByteArray) : fO (o ++ [(q, v)]) p = match fO o p with
    | some t => some t
    | none => bif sEq q p then some v else none := by
  unfold fO
  rw [List.find?_append]
  cases h : o.find? (fun x => sEq x.1 p) with
  | some y => simp
  | none => cases hb : sEq q p <;> simp [hb]
theorem fO_put (p q v : ByteArray) : ∀ o : OwL, fO (putO q v o) p = bif sEq q p then some v else fO o p
  | [] => by cases hb : sEq q p <;> simp [fO, putO, hb]
  | x :: o => by
    have ih := fO_put p q v o
    cases h : sEq x.1 q with
    | true =>
      have e : x.1 = q := sEq_eq h
      simp only [putO, h, cond_true]
      cases hb : sEq q p with
      | true => simp [fO, hb]
      | false => simp [fO, hb, e]
    | false =>
      simp only [putO, h, cond_false]
      cases hx : sEq x.1 p with
      | true =>
        have hn : sEq q p = false := by
          have e : x.1 = p := sEq_eq hx
          cases hq : sEq q p with
          | false => rfl
          | true => rw [e, ← sEq_eq hq] at h; simp [sEq] at h
        simp [fO, hx, hn]
      | false =>
        have e1 : fO (x :: putO q v o) p = fO (putO q v o) p := by simp [fO, hx]
        have e2 : fO (x :: o) p = fO o p := by simp [fO, hx]
        rw [e1, e2, ih]
theorem ow_sound (l : List Psg) : ∀ k p t, fO (ow l k) p = some t → t ≠ em → ∃ q, q < k ∧ (ix l q).plate = p ∧ (ix l q).tag = t
  | 0, p, t, h, _ => by simp [ow, fO] at h
  | k + 1, p, t, h, ht => by
    have ih := ow_sound l k
    have up : fO (ow l k) p = some t → ∃ q, q < k + 1 ∧ (ix l q).plate = p ∧ (ix l q).tag = t := fun h => by
      obtain ⟨q, h1, h2⟩ := ih p t h ht
      exact ⟨q, by omega, h2⟩
    cases h1 : sEq (ix l k).tag em with
    | true => rw [ow_skip (by rw [h1]; rfl)] at h; exact up h
    | false =>
      cases h2 : sEq (ix l k).plate em with
      | true => rw [ow_skip (by rw [h2, Bool.or_true])] at h; exact up h
      | false =>
        cases hf : fO (ow l k) (ix l k).plate with
        | none =>
          rw [ow_new h1 h2 hf, fO_app] at h
          cases hp : fO (ow l k) p with
          | some u => rw [hp] at h; exact up (hp.trans h)
          | none =>
            rw [hp] at h
            cases hb : sEq (ix l k).plate p with
            | false => rw [hb] at h; simp at h
            | true => rw [hb] at h; simp at h; exact ⟨k, by omega, sEq_eq hb, h⟩
        | some u =>
          cases h3 : sEq u (ix l k).tag with
          | false =>
            rw [ow_two h1 h2 hf h3, fO_put] at h
            cases hb : sEq (ix l k).plate p with
            | false => rw [hb] at h; exact up h
            | true => rw [hb] at h; simp at h; exact absurd h.symm ht
          | true =>
            rw [ow_one h1 h2 hf h3, fO_put] at h
            cases hb : sEq (ix l k).plate p with
            | false => rw [hb] at h; exact up h
            | true => rw [hb] at h; simp at h; exact ⟨k, by omega, sEq_eq hb, h⟩
def orT : List ByteArray → ByteArray
  | [] => em
  | x :: r => bif !(sEq x em) then x else orT r
theorem orT_drop : ∀ (l : List ByteArray) (k : Nat), (∀ q, q < k → sEq (ix l q) em = true) → k ≤ l.length → orT l = orT (l.drop k)
  | l, 0, _, _ => by rw [List.drop_zero]
  | [], k + 1, _, h => by simp at h
  | x :: r, k + 1, hq, hk => by
    have h0 : sEq x em = true := hq 0 (by omega)
    have ih := orT_drop r k (fun q h => hq (q + 1) (by omega)) (by simpa using hk)
    rw [List.drop_succ_cons, ← ih]
    simp only [orT, h0, Bool.not_true, cond_false]
theorem orT_at {l : List ByteArray} {k : Nat} (hk : k < l.length) (hq : ∀ q, q < k → sEq (ix l q) em = true) (h : sEq (ix l k) em = false) : orT l = ix l k := by
  rw [orT_drop l k hq (by omega), List.drop_eq_getElem_cons hk, ix_eq hk]
  simp only [orT, h, Bool.not_false, cond_true]
theorem orT_no {l : List ByteArray} (hq : ∀ q, q < l.length → sEq (ix l q) em = true) : orT l = em := by
  rw [orT_drop l l.length hq (Nat.le_refl _), List.drop_length]; rfl
def bel (o : OwL) (x : Psg) : ByteArray := orT [x.tag, (fO o x.plate).getD em, x.plate]
def bq (l : List Psg) (s : ByteArray) (x : Psg) : Bool := !(sEq s em) && sEq (bel (ow l l.length) x) s
theorem fl_yes {l : List Psg} {p : Psg → Bool} {k : Nat} (hk : k < l.length) (h : p (ix l k) = true) : (l.take k).filter p ++ [ix l k] = (l.take (k + 1)).filter p := by rw [take_ix hk, List.filter_append]; simp [h]
theorem fl_no {l : List Psg} {p : Psg → Bool} {k : Nat} (hk : k < l.length) (h : p (ix l k) = false) : (l.take k).filter p = (l.take (k + 1)).filter p := by rw [take_ix hk, List.filter_append]; simp [h]
theorem fl_len (l : List Psg) (p : Psg → Bool) (k : Nat) : ((l.take k).filter p).length ≤ l.length := by
  have := List.length_filter_le p (l.take k)
  rw [List.length_take] at this; omega
def hasB (l : List Psg) (x : Psg) : Bool := l.any fun y => cp y x == 0
theorem has_of {l : List Psg} {x : Psg} (h : x ∈ l) : hasB l x = true := List.any_eq_true.2 ⟨x, h, by rw [cp_self]; rfl⟩
theorem bel_tag {o : OwL} {x : Psg} (h : sEq x.tag em = false) : bel o x = x.tag := by unfold bel; simp only [orT, h, Bool.not_false, cond_true]
def okb (x : Psg) (s : ByteArray) (l : List Psg) : Nat → Bool
  | 0 => sEq x.tag s || sEq x.plate s
  | k + 1 => okb x s l k || (sEq (ix l k).tag s && sEq (ix l k).plate x.plate)
theorem okb_up {x : Psg} {s : ByteArray} {l : List Psg} : ∀ {j k : Nat}, j ≤ k → okb x s l j = true → okb x s l k = true
  | j, 0, h, hj => by have e : j = 0 := by omega
                      rw [e] at hj; exact hj
  | j, k + 1, h, hj => by
    rcases Nat.lt_or_ge j (k + 1) with q | q
    · have ih : okb x s l k = true := okb_up (by omega) hj
      simp only [okb, ih, Bool.true_or]
    · have e : j = k + 1 := by omega
      rw [e] at hj; exact hj
theorem bel_cases {o : OwL} {x : Psg} {s : ByteArray} (hs : sEq s em = false) (h : bel o x = s) : (sEq x.tag em = false ∧ x.tag = s) ∨ (sEq x.tag em = true ∧ (x.plate = s ∨ fO o x.plate = some s)) := by
  cases h1 : sEq x.tag em with
  | false => exact .inl ⟨rfl, (bel_tag h1).symm.trans h⟩
  | true =>
    refine .inr ⟨rfl, ?_⟩
    unfold bel at h
    simp only [orT, h1, Bool.not_true, cond_false] at h
    cases hf : fO o x.plate with
    | none =>
      rw [hf] at h
      rw [show sEq ((none : Option ByteArray).getD em) em = true from rfl] at h
      cases hp : sEq x.plate em with
      | false => rw [hp] at h; exact .inl h
      | true => rw [hp] at h; simp only [Bool.not_true, cond_false] at h; rw [← h] at hs; exact absurd hs (by decide)
    | some t =>
      rw [hf] at h
      simp only [Option.getD_some] at h
      cases ht : sEq t em with
      | false => rw [ht] at h; simp at h; exact .inr (by rw [h])
      | true =>
        rw [ht] at h
        cases hp : sEq x.plate em with
        | false => rw [hp] at h; exact .inl h
        | true => rw [hp] at h; simp only [Bool.not_true, cond_false] at h; rw [← h] at hs; exact absurd hs (by decide)
theorem okb_all {l : List Psg} {x : Psg} {s : ByteArray} (hs : sEq s em = false) (h : x ∈ l.filter (bq l s)) : okb x s l l.length = true := by
  have hb : sEq (bel (ow l l.length) x) s = true := by have := (List.mem_filter.1 h).2; unfold bq at this; rw [hs] at this; simpa using this
  rcases bel_cases hs (sEq_eq hb) with ⟨_, h2⟩ | ⟨_, h2 | h2⟩
  · exact okb_up (Nat.zero_le _) (by simp only [okb]; rw [sEq_of h2]; rfl)
  · exact okb_up (Nat.zero_le _) (by simp only [okb]; rw [sEq_of h2, Bool.or_true])
  · obtain ⟨q, h3, h4, h5⟩ := ow_sound l l.length x.plate s h2 (fun e => by rw [e] at hs; exact absurd hs (by decide))
    exact okb_up (j := q + 1) (by omega) (by simp only [okb]; rw [sEq_of h5, sEq_of h4]; simp)
theorem tag_of {l : List Psg} {x : Psg} {s : ByteArray} (hs : sEq s em = false) (h : x ∈ l.filter (bq l s)) (ht : sEq x.tag em = false) : sEq x.tag s = true := by
  have hb : sEq (bel (ow l l.length) x) s = true := by have := (List.mem_filter.1 h).2; unfold bq at this; rw [hs] at this; simpa using this
  rw [bel_tag ht] at hb; exact hb
theorem in_of {l : List Psg} {x : Psg} {s : ByteArray} (hs : sEq s em = false) (h : x ∈ l) (ht : sEq x.tag s = true) : x ∈ l.filter (bq l s) := by
  refine List.mem_filter.2 ⟨h, ?_⟩
  have e := sEq_eq ht
  unfold bq
  rw [bel_tag (by rw [e]; exact hs), ht, hs]; rfl

set_option maxHeartbeats 4000000 in
set_option maxRecDepth 100000 in
theorem learnC (l : List Psg) (hl : l.length ≤ 1000) : Ctr Tryz.prog 52 [.sl 8 (List.map ePsg l)] (.d (.mp (setO (ow l l.length)))) := by
  refine ctr (n := 47) (rs := #[.tmp 2]) (L := [(0, .d (.sl 8 (List.map ePsg l)))]) Tryz.func52 rfl rfl rfl rfl rfl (fun w0 U0 => ?_)
  refine a_rseq ?_
  refine rg_put (d := 2) (v := .d (.fl (.map none))) rfl (og rfl (op_assign rfl rfl rfl)) ?_
  refine rg_done rfl ?_
  refine a_rseq ?_
  refine rg_nam (d := 8) (v := .ow 101) (m := 101) (nw := [(101, .mp [])]) rfl (og rfl (op_makeMap 101 rfl rfl)) rfl ?_
  refine rg_put (d := 3) (v := .ow 101) rfl (og rfl (op_assign rfl rfl rfl)) ?_
  refine rg_done rfl ?_
  refine a_seq ?_
  refine a_rseq ?_
  refine rg_put (d := 9) (v := .d (.sl 8 (List.map ePsg l))) rfl (og rfl (op_move rfl rfl rfl)) ?_
  refine rg_put (d := 10) (v := .d (.fl (.int .i64 (l.length : Int)))) rfl (og rfl (s_len rfl Tryz.underlying38 rfl rfl)) ?_
  refine rg_put (d := 11) (v := .d (.fl (.int .i64 0))) rfl (og rfl (op_move rfl rfl rfl)) ?_
  refine rg_done rfl ?_
  refine a_block ?_
  refine a_loop (ι := Nat) (fun k => SS [(0, .d (.sl 8 (List.map ePsg l))), (2, .d (.fl (.map none))), (3, .ow 101), (9, .d (.sl 8 (List.map ePsg l))), (10, .d (.fl (.int .i64 (l.length : Int)))), (11, .d (.fl (.int .i64 (k : Int))))] [(101, .mp ((setO (ow l k))))]) (fun k => k ≤ l.length) (fun k => l.length - k) 0 (by omega) (imp_forget rfl ⟨rfl, rfl, rfl, rfl, rfl, (by first | rfl | exact ci (by omega) | exact ci (by simp) | exact cd (by simp) | simp), trivial⟩ ⟨rfl, trivial⟩) (fun k hok => ?_)
  have hk := hok
  refine a_rseq ?_
  refine rg_put (d := 12) (v := .d (.fl (.bool ((decide ((k : Int) < (l.length : Int))))))) rfl (og rfl (op_bin rfl rfl rfl (b_lss _ _ _ _) rfl)) ?_
  refine rg_done rfl ?_
  refine a_seq ?_
  refine a_cond rfl (fun h1 => ?_) (fun h1 => ?_)
  · skip
    have h2 := t_dec h1
    refine a_skip ?_
    show A _ _ _ _ _ _ _
    refine a_seq ?_
    refine a_block ?_
    refine a_rseq ?_
    refine rg_put (d := 13) (v := .el ((ePsg (ix l k)))) rfl (og rfl (s_index rfl Tryz.underlying38 ti24 rfl rfl (by omega) (row_at (by omega)) rfl)) ?_
    refine rg_put (d := 14) (v := .d (.ag (ePsg (ix l k)))) rfl (og rfl (of_eff (s_load_els rfl Tryz.underlying24 rfl ti24 rfl rfl rfl) rfl)) ?_
    refine rg_nam (d := 5) (v := .pt 102 0) (m := 102) (nw := [(102, .bx 24 ([.fl (.string (⟨#[]⟩)), .fl (.string (⟨#[]⟩)), .fl (.int .i64 0), .fl (.string (⟨#[]⟩)), .fl (.string (⟨#[]⟩)), .fl (.int .i64 0), .fl (.int .i64 0), .fl (.slice none 0 0)]))]) rfl (og rfl (of_eff (s_alloc 102 rfl ti24 (by kernel_rfl) rfl) rfl)) rfl ?_
    refine rg_sto (nw := [(102, .bx 24 ((ePsg (ix l k))))]) rfl (og rfl (of_eff (s_store rfl rfl ti24 rfl rfl rfl rfl rfl rfl) rfl)) ?_
    refine rg_done rfl ?_
    refine a_seq ?_
    refine a_rseq ?_
    refine rg_put (d := 15) (v := .pt 102 3) rfl (og rfl (of_eff (s_field_pt rfl Tryz.underlying24 rfl ti9 rfl rfl rfl) rfl)) ?_
    refine rg_put (d := 16) (v := .d (.fl (.string ((ix l k).tag)))) rfl (og rfl (op_load_pt rfl Tryz.underlying9 rfl rfl rfl rfl rfl)) ?_
    refine rg_put (d := 17) (v := .d (.fl (.bool ((sEq ((ix l k).tag) (⟨#[]⟩)))))) rfl (og rfl (op_bin rfl rfl rfl (b_seq _ _ _) rfl)) ?_
    refine rg_put (d := 18) (v := .d (.fl (.bool ((sEq ((ix l k).tag) (⟨#[]⟩)))))) rfl (og rfl (op_move rfl rfl rfl)) ?_
    rcases fot ((sEq ((ix l k).tag) (⟨#[]⟩))) with h3 | h3
    · skip
      refine rg_put (d := 19) (v := .pt 102 4) rfl (oy rfl rfl rfl h3 (of_eff (s_field_pt rfl Tryz.underlying24 rfl ti9 rfl rfl rfl) rfl)) ?_
      refine rg_put (d := 20) (v := .d (.fl (.string ((ix l k).plate)))) rfl (oy rfl rfl rfl h3 (op_load_pt rfl Tryz.underlying9 rfl rfl rfl rfl rfl)) ?_
      refine rg_put (d := 21) (v := .d (.fl (.bool ((sEq ((ix l k).plate) (⟨#[]⟩)))))) rfl (oy rfl rfl rfl h3 (op_bin rfl rfl rfl (b_seq _ _ _) rfl)) ?_
      refine rg_put (d := 22) (v := .d (.fl (.bool ((sEq ((ix l k).plate) (⟨#[]⟩)))))) rfl (og rfl (op_pick rfl rfl (by rw [h3]; rfl) rfl)) ?_
      refine rg_done rfl ?_
      refine a_cond rfl (fun h4 => ?_) (fun h4 => ?_)
      · skip
        refine a_exit ?_
        show A _ _ _ _ _ _ _
        refine a_region ?_
        refine rg_put (d := 45) (v := .d (.fl (.int .i64 (((k : Int) + 1))))) rfl (og rfl (op_bin rfl rfl rfl (fun x y w => b_add64 _ _ _ x y w (by omega)) rfl)) ?_
        refine rg_put (d := 11) (v := .d (.fl (.int .i64 (((k : Int) + 1))))) rfl (og rfl (op_move rfl rfl rfl)) ?_
        refine rg_done rfl ?_
        have hst : (setO (ow l k)) = setO (ow l (k + 1)) := by rw [ow_skip (by rw [show sEq (ix l k).plate em = true from h4, Bool.or_true])]
        show ∃ i, _ ∧ _ ∧ Imp _ _ _ _ _
        refine ⟨k + 1, (by omega), by omega, imp_forget rfl ⟨rfl, rfl, rfl, rfl, rfl, (by first | rfl | exact ci (by omega) | exact ci (by simp) | exact cd (by simp) | simp), trivial⟩ ⟨(congrArg (fun z => Ob.mp z) hst), trivial⟩⟩
      · skip
        refine a_skip ?_
        show A _ _ _ _ _ _ _
        refine a_rseq ?_
        refine rg_put (d := 24) (v := .ow 101) rfl (og rfl (op_move rfl rfl rfl)) ?_
        refine rg_put (d := 25) (v := .pt 102 4) rfl (og rfl (of_eff (s_field_pt rfl Tryz.underlying24 rfl ti9 rfl rfl rfl) rfl)) ?_
        refine rg_put (d := 26) (v := .d (.fl (.string ((ix l k).plate)))) rfl (og rfl (op_load_pt rfl Tryz.underlying9 rfl rfl rfl rfl rfl)) ?_
        rcases h5 : fO (ow l k) ((ix l k).plate) with _ | qh5
        · skip
          refine rg_put (d := 27) (v := .tu [.fl (.string (⟨#[]⟩)), .fl (.bool false)]) rfl (og rfl (op_lookup rfl Tryz.underlying71 Tryz.underlying9 rfl ti9 rfl rfl (.ow rfl) rfl (r := none) ((mfindO _ _).trans (congrArg (fun o => some (Option.map (fun v => DV.fl (.string v)) o)) h5)) rfl)) ?_
          refine rg_put (d := 23) (v := .tu [.fl (.string (⟨#[]⟩)), .fl (.bool false)]) rfl (og rfl (op_move rfl rfl rfl)) ?_
          refine rg_put (d := 28) (v := .d (.fl (.string (⟨#[]⟩)))) rfl (og rfl (op_extract rfl rfl rfl rfl)) ?_
          refine rg_put (d := 29) (v := .d (.fl (.bool false))) rfl (og rfl (op_extract rfl rfl rfl rfl)) ?_
          refine rg_put (d := 6) (v := .d (.fl (.string (⟨#[]⟩)))) rfl (og rfl (op_assign rfl rfl rfl)) ?_
          refine rg_put (d := 7) (v := .d (.fl (.bool false))) rfl (og rfl (op_assign rfl rfl rfl)) ?_
          refine rg_done rfl ?_
          refine a_rseq ?_
          refine rg_put (d := 30) (v := .d (.fl (.bool false))) rfl (og rfl (op_move rfl rfl rfl)) ?_
          refine rg_put (d := 31) (v := .d (.fl (.bool false))) rfl (og rfl (op_move rfl rfl rfl)) ?_
          refine rg_put (d := 32) (v := .d (.fl undef)) rfl (on rfl rfl rfl rfl) ?_
          refine rg_put (d := 33) (v := .d (.fl undef)) rfl (on rfl rfl rfl rfl) ?_
          refine rg_put (d := 34) (v := .d (.fl undef)) rfl (on rfl rfl rfl rfl) ?_
          refine rg_put (d := 35) (v := .d (.fl undef)) rfl (on rfl rfl rfl rfl) ?_
          refine rg_put (d := 36) (v := .d (.fl (.bool false))) rfl (og rfl (op_pick rfl rfl rfl rfl)) ?_
          refine rg_done rfl ?_
          refine a_condF rfl rfl ?_
          refine a_region ?_
          refine rg_put (d := 40) (v := .ow 101) rfl (og rfl (op_move rfl rfl rfl)) ?_
          refine rg_put (d := 41) (v := .pt 102 4) rfl (og rfl (of_eff (s_field_pt rfl Tryz.underlying24 rfl ti9 rfl rfl rfl) rfl)) ?_
          refine rg_put (d := 42) (v := .d (.fl (.string ((ix l k).plate)))) rfl (og rfl (op_load_pt rfl Tryz.underlying9 rfl rfl rfl rfl rfl)) ?_
          refine rg_put (d := 43) (v := .pt 102 3) rfl (og rfl (of_eff (s_field_pt rfl Tryz.underlying24 rfl ti9 rfl rfl rfl) rfl)) ?_
          refine rg_put (d := 44) (v := .d (.fl (.string ((ix l k).tag)))) rfl (og rfl (op_load_pt rfl Tryz.underlying9 rfl rfl rfl rfl rfl)) ?_
          refine rg_sto (nw := [(101, .mp ((setO (ow l k)) ++ [((.string ((ix l k).plate)), .fl (.string ((ix l k).tag)))]))]) rfl (og rfl (op_mapPush rfl rfl Tryz.underlying71 Tryz.underlying9 rfl rfl rfl rfl ((mfindO _ _).trans (congrArg (fun o => some (Option.map (fun v => DV.fl (.string v)) o)) h5)) rfl)) ?_
          refine rg_done rfl ?_
          show A _ _ _ _ _ _ _
          refine a_region ?_
          refine rg_put (d := 45) (v := .d (.fl (.int .i64 (((k : Int) + 1))))) rfl (og rfl (op_bin rfl rfl rfl (fun x y w => b_add64 _ _ _ x y w (by omega)) rfl)) ?_
          refine rg_put (d := 11) (v := .d (.fl (.int .i64 (((k : Int) + 1))))) rfl (og rfl (op_move rfl rfl rfl)) ?_
          refine rg_done rfl ?_
          have hst : ((setO (ow l k)) ++ [((.string ((ix l k).plate)), .fl (.string ((ix l k).tag)))]) = setO (ow l (k + 1)) := by rw [ow_new h3 h4 h5]; unfold setO; rw [List.map_append]; rfl
          show ∃ i, _ ∧ _ ∧ Imp _ _ _ _ _
          refine ⟨k + 1, (by omega), by omega, imp_forget rfl ⟨rfl, rfl, rfl, rfl, rfl, (by first | rfl | exact ci (by omega) | exact ci (by simp) | exact cd (by simp) | simp), trivial⟩ ⟨(congrArg (fun z => Ob.mp z) hst), trivial⟩⟩
        · skip
          refine rg_put (d := 27) (v := .tu [.fl (.string qh5), .fl (.bool true)]) rfl (og rfl (op_lookup rfl Tryz.underlying71 Tryz.underlying9 rfl ti9 rfl rfl (.ow rfl) rfl (r := (some (.fl (.string qh5)))) ((mfindO _ _).trans (congrArg (fun o => some (Option.map (fun v => DV.fl (.string v)) o)) h5)) rfl)) ?_
          refine rg_put (d := 23) (v := .tu [.fl (.string qh5), .fl (.bool true)]) rfl (og rfl (op_move rfl rfl rfl)) ?_
          refine rg_put (d := 28) (v := .d (.fl (.string qh5))) rfl (og rfl (op_extract rfl rfl rfl rfl)) ?_
          refine rg_put (d := 29) (v := .d (.fl (.bool true))) rfl (og rfl (op_extract rfl rfl rfl rfl)) ?_
          refine rg_put (d := 6) (v := .d (.fl (.string qh5))) rfl (og rfl (op_assign rfl rfl rfl)) ?_
          refine rg_put (d := 7) (v := .d (.fl (.bool true))) rfl (og rfl (op_assign rfl rfl rfl)) ?_
          refine rg_done rfl ?_
          refine a_rseq ?_
          refine rg_put (d := 30) (v := .d (.fl (.bool true))) rfl (og rfl (op_move rfl rfl rfl)) ?_
          refine rg_put (d := 31) (v := .d (.fl (.bool true))) rfl (og rfl (op_move rfl rfl rfl)) ?_
          refine rg_put (d := 32) (v := .d (.fl (.string qh5))) rfl (oy rfl rfl rfl rfl (op_move rfl rfl rfl)) ?_
          refine rg_put (d := 33) (v := .pt 102 3) rfl (oy rfl rfl rfl rfl (of_eff (s_field_pt rfl Tryz.underlying24 rfl ti9 rfl rfl rfl) rfl)) ?_
          refine rg_put (d := 34) (v := .d (.fl (.string ((ix l k).tag)))) rfl (oy rfl rfl rfl rfl (op_load_pt rfl Tryz.underlying9 rfl rfl rfl rfl rfl)) ?_
          refine rg_put (d := 35) (v := .d (.fl (.bool ((!(sEq qh5 ((ix l k).tag))))))) rfl (oy rfl rfl rfl rfl (op_bin rfl rfl rfl (b_sne _ _ _) rfl)) ?_
          refine rg_put (d := 36) (v := .d (.fl (.bool ((!(sEq qh5 ((ix l k).tag))))))) rfl (og rfl (op_pick rfl rfl rfl rfl)) ?_
          refine rg_done rfl ?_
          refine a_cond rfl (fun h6 => ?_) (fun h6 => ?_)
          · skip
            have h7 := t_not h6
            refine a_region ?_
            refine rg_put (d := 37) (v := .ow 101) rfl (og rfl (op_move rfl rfl rfl)) ?_
            refine rg_put (d := 38) (v := .pt 102 4) rfl (og rfl (of_eff (s_field_pt rfl Tryz.underlying24 rfl ti9 rfl rfl rfl) rfl)) ?_
            refine rg_put (d := 39) (v := .d (.fl (.string ((ix l k).plate)))) rfl (og rfl (op_load_pt rfl Tryz.underlying9 rfl rfl rfl rfl rfl)) ?_
            refine rg_sto (nw := [(101, .mp (mput .string ((.string ((ix l k).plate))) (.fl (.string (⟨#[]⟩))) ((setO (ow l k)))))]) rfl (og rfl (op_mapSet rfl rfl Tryz.underlying71 Tryz.underlying9 rfl rfl rfl rfl ((mfindO _ _).trans (congrArg (fun o => some (Option.map (fun v => DV.fl (.string v)) o)) h5)) rfl (stays_str _))) ?_
            refine rg_done rfl ?_
            show A _ _ _ _ _ _ _
            refine a_region ?_
            refine rg_put (d := 45) (v := .d (.fl (.int .i64 (((k : Int) + 1))))) rfl (og rfl (op_bin rfl rfl rfl (fun x y w => b_add64 _ _ _ x y w (by omega)) rfl)) ?_
            refine rg_put (d := 11) (v := .d (.fl (.int .i64 (((k : Int) + 1))))) rfl (og rfl (op_move rfl rfl rfl)) ?_
            refine rg_done rfl ?_
            have hst : (mput .string ((.string ((ix l k).plate))) (.fl (.string (⟨#[]⟩))) ((setO (ow l k)))) = setO (ow l (k + 1)) := (mput_setO _ _ _).trans (congrArg setO (ow_two h3 h4 h5 (by have := h6; simpa using this)).symm)
            show ∃ i, _ ∧ _ ∧ Imp _ _ _ _ _
            refine ⟨k + 1, (by omega), by omega, imp_forget rfl ⟨rfl, rfl, rfl, rfl, rfl, (by first | rfl | exact ci (by omega) | exact ci (by simp) | exact cd (by simp) | simp), trivial⟩ ⟨(congrArg (fun z => Ob.mp z) hst), trivial⟩⟩
          · skip
            have h8 := f_not h6
            refine a_region ?_
            refine rg_put (d := 40) (v := .ow 101) rfl (og rfl (op_move rfl rfl rfl)) ?_
            refine rg_put (d := 41) (v := .pt 102 4) rfl (og rfl (of_eff (s_field_pt rfl Tryz.underlying24 rfl ti9 rfl rfl rfl) rfl)) ?_
            refine rg_put (d := 42) (v := .d (.fl (.string ((ix l k).plate)))) rfl (og rfl (op_load_pt rfl Tryz.underlying9 rfl rfl rfl rfl rfl)) ?_
            refine rg_put (d := 43) (v := .pt 102 3) rfl (og rfl (of_eff (s_field_pt rfl Tryz.underlying24 rfl ti9 rfl rfl rfl) rfl)) ?_
            refine rg_put (d := 44) (v := .d (.fl (.string ((ix l k).tag)))) rfl (og rfl (op_load_pt rfl Tryz.underlying9 rfl rfl rfl rfl rfl)) ?_
            refine rg_sto (nw := [(101, .mp (mput .string ((.string ((ix l k).plate))) (.fl (.string ((ix l k).tag))) ((setO (ow l k)))))]) rfl (og rfl (op_mapSet rfl rfl Tryz.underlying71 Tryz.underlying9 rfl rfl rfl rfl ((mfindO _ _).trans (congrArg (fun o => some (Option.map (fun v => DV.fl (.string v)) o)) h5)) rfl (stays_str _))) ?_
            refine rg_done rfl ?_
            show A _ _ _ _ _ _ _
            refine a_region ?_
            refine rg_put (d := 45) (v := .d (.fl (.int .i64 (((k : Int) + 1))))) rfl (og rfl (op_bin rfl rfl rfl (fun x y w => b_add64 _ _ _ x y w (by omega)) rfl)) ?_
            refine rg_put (d := 11) (v := .d (.fl (.int .i64 (((k : Int) + 1))))) rfl (og rfl (op_move rfl rfl rfl)) ?_
            refine rg_done rfl ?_
            have hst : (mput .string ((.string ((ix l k).plate))) (.fl (.string ((ix l k).tag))) ((setO (ow l k)))) = setO (ow l (k + 1)) := (mput_setO _ _ _).trans (congrArg setO (ow_one h3 h4 h5 (by have := h6; simpa using this)).symm)
            show ∃ i, _ ∧ _ ∧ Imp _ _ _ _ _
            refine ⟨k + 1, (by omega), by omega, imp_forget rfl ⟨rfl, rfl, rfl, rfl, rfl, (by first | rfl | exact ci (by omega) | exact ci (by simp) | exact cd (by simp) | simp), trivial⟩ ⟨(congrArg (fun z => Ob.mp z) hst), trivial⟩⟩
    · skip
      refine rg_put (d := 19) (v := .d (.fl undef)) rfl (on rfl rfl rfl h3) ?_
      refine rg_put (d := 20) (v := .d (.fl undef)) rfl (on rfl rfl rfl h3) ?_
      refine rg_put (d := 21) (v := .d (.fl undef)) rfl (on rfl rfl rfl h3) ?_
      refine rg_put (d := 22) (v := .d (.fl (.bool true))) rfl (og rfl (op_pick rfl rfl (by rw [h3]; rfl) rfl)) ?_
      refine rg_done rfl ?_
      refine a_condK rfl rfl ?_
      refine a_exit ?_
      show A _ _ _ _ _ _ _
      refine a_region ?_
      refine rg_put (d := 45) (v := .d (.fl (.int .i64 (((k : Int) + 1))))) rfl (og rfl (op_bin rfl rfl rfl (fun x y w => b_add64 _ _ _ x y w (by omega)) rfl)) ?_
      refine rg_put (d := 11) (v := .d (.fl (.int .i64 (((k : Int) + 1))))) rfl (og rfl (op_move rfl rfl rfl)) ?_
      refine rg_done rfl ?_
      have hst : (setO (ow l k)) = setO (ow l (k + 1)) := by rw [ow_skip (by rw [show sEq (ix l k).tag em = true from h3]; rfl)]
      show ∃ i, _ ∧ _ ∧ Imp _ _ _ _ _
      refine ⟨k + 1, (by omega), by omega, imp_forget rfl ⟨rfl, rfl, rfl, rfl, rfl, (by first | rfl | exact ci (by omega) | exact ci (by simp) | exact cd (by simp) | simp), trivial⟩ ⟨(congrArg (fun z => Ob.mp z) hst), trivial⟩⟩
  · skip
    have h9 := f_dec h1
    refine a_exit ?_
    show A _ _ _ _ _ _ _
    refine a_rseq ?_
    refine rg_put (d := 46) (v := .ow 101) rfl (og rfl (op_move rfl rfl rfl)) ?_
    refine rg_put (d := 2) (v := .ow 101) rfl (og rfl (op_assign rfl rfl rfl)) ?_
    refine rg_done rfl ?_
    have hkl : k = l.length := by omega
    rw [show (setO (ow l k)) = (setO (ow l l.length)) from (by rw [hkl])]
    refine a_imp (imp_mp 2 101 rfl rfl) ?_
    refine a_ret ?_
    show ∃ ds, ResL _ _ _ ds ∧ RV.of ds = _
    refine ⟨[.mp (setO (ow l l.length))], (.cons (.tmp rfl (.d _)) .nil), ?_⟩
    rfl
set_option maxHeartbeats 4000000 in
set_option maxRecDepth 100000 in
theorem orTC (l : List ByteArray) (hl : l.length ≤ 1000) : Ctr Tryz.prog 45 [.sl 1 (List.map rS l)] (.d (.fl (.string (orT l)))) := by
  refine ctr (n := 18) (rs := #[.tmp 2]) (L := [(0, .d (.sl 1 (List.map rS l)))]) Tryz.func45 rfl rfl rfl rfl rfl (fun w0 U0 => ?_)
  refine a_rseq ?_
  refine rg_put (d := 2) (v := .d (.fl (.string (⟨#[]⟩)))) rfl (og rfl (op_assign rfl rfl rfl)) ?_
  refine rg_done rfl ?_
  refine a_rseq ?_
  refine rg_put (d := 3) (v := .d (.fl (.string (⟨#[]⟩)))) rfl (og rfl (op_assign rfl rfl rfl)) ?_
  refine rg_done rfl ?_
  refine a_seq ?_
  refine a_rseq ?_
  refine rg_put (d := 6) (v := .d (.sl 1 (List.map rS l))) rfl (og rfl (op_move rfl rfl rfl)) ?_
  refine rg_put (d := 7) (v := .d (.fl (.int .i64 (l.length : Int)))) rfl (og rfl (s_len rfl Tryz.underlying46 rfl rfl)) ?_
  refine rg_put (d := 8) (v := .d (.fl (.int .i64 0))) rfl (og rfl (op_move rfl rfl rfl)) ?_
  refine rg_done rfl ?_
  refine a_block ?_
  refine a_loop (ι := Nat) (fun k => SS [(0, .d (.sl 1 (List.map rS l))), (3, .d (.fl (.string (⟨#[]⟩)))), (6, .d (.sl 1 (List.map rS l))), (7, .d (.fl (.int .i64 (l.length : Int)))), (8, .d (.fl (.int .i64 (k : Int))))] []) (fun k => k ≤ l.length ∧ ∀ q, q < k → (sEq (ix l q) ⟨#[]⟩) = true) (fun k => l.length - k) 0 (⟨by omega, fun q h => by omega⟩) (imp_forget rfl ⟨rfl, rfl, rfl, rfl, (by first | rfl | exact ci (by omega) | exact ci (by simp) | exact cd (by simp) | simp), trivial⟩ trivial) (fun k hok => ?_)
  obtain ⟨hkk, hq⟩ := hok
  refine a_rseq ?_
  refine rg_put (d := 9) (v := .d (.fl (.bool ((decide ((k : Int) < (l.length : Int))))))) rfl (og rfl (op_bin rfl rfl rfl (b_lss _ _ _ _) rfl)) ?_
  refine rg_done rfl ?_
  refine a_seq ?_
  refine a_cond rfl (fun h1 => ?_) (fun h1 => ?_)
  · skip
    have h2 := t_dec h1
    refine a_skip ?_
    show A _ _ _ _ _ _ _
    refine a_seq ?_
    refine a_block ?_
    refine a_rseq ?_
    refine rg_put (d := 10) (v := .el ((rS (ix l k)))) rfl (og rfl (s_index rfl Tryz.underlying46 ti9 rfl rfl (by omega) (row_at (by omega)) rfl)) ?_
    refine rg_put (d := 11) (v := .d (.fl (.string (ix l k)))) rfl (og rfl (op_load_el rfl Tryz.underlying9 rfl rfl rfl rfl)) ?_
    refine rg_put (d := 5) (v := .d (.fl (.string (ix l k)))) rfl (og rfl (op_assign rfl rfl rfl)) ?_
    refine rg_done rfl ?_
    refine a_rseq ?_
    refine rg_put (d := 12) (v := .d (.fl (.string (ix l k)))) rfl (og rfl (op_move rfl rfl rfl)) ?_
    refine rg_put (d := 13) (v := .d (.fl (.string (⟨#[]⟩)))) rfl (og rfl (op_move rfl rfl rfl)) ?_
    refine rg_put (d := 14) (v := .d (.fl (.bool ((!(sEq (ix l k) (⟨#[]⟩))))))) rfl (og rfl (op_bin rfl rfl rfl (b_sne _ _ _) rfl)) ?_
    refine rg_done rfl ?_
    refine a_cond rfl (fun h3 => ?_) (fun h3 => ?_)
    · skip
      have h4 := t_not h3
      refine a_rseq ?_
      refine rg_put (d := 15) (v := .d (.fl (.string (ix l k)))) rfl (og rfl (op_move rfl rfl rfl)) ?_
      refine rg_put (d := 2) (v := .d (.fl (.string (ix l k)))) rfl (og rfl (op_assign rfl rfl rfl)) ?_
      refine rg_done rfl ?_
      refine a_ret ?_
      show ∃ ds, ResL _ _ _ ds ∧ RV.of ds = _
      refine ⟨[.fl (.string (ix l k))], (.cons (.tmp rfl (.d _)) .nil), ?_⟩
      rw [orT_at (by omega) hq h4]; rfl
    · skip
      have h5 := f_not h3
      refine a_skip ?_
      show A _ _ _ _ _ _ _
      refine a_region ?_
      refine rg_put (d := 16) (v := .d (.fl (.int .i64 (((k : Int) + 1))))) rfl (og rfl (op_bin rfl rfl rfl (fun x y w => b_add64 _ _ _ x y w (by omega)) rfl)) ?_
      refine rg_put (d := 8) (v := .d (.fl (.int .i64 (((k : Int) + 1))))) rfl (og rfl (op_move rfl rfl rfl)) ?_
      refine rg_done rfl ?_
      have hx : (sEq (ix l k) ⟨#[]⟩) = true := h5
      show ∃ i, _ ∧ _ ∧ Imp _ _ _ _ _
      refine ⟨k + 1, ⟨by omega, fun q h => (Nat.lt_succ_iff_lt_or_eq.1 h).elim (hq q) (fun e => by rw [e]; exact hx)⟩, by omega, imp_forget rfl ⟨rfl, rfl, rfl, rfl, (by first | rfl | exact ci (by omega) | exact ci (by simp) | exact cd (by simp) | simp), trivial⟩ trivial⟩
  · skip
    have h6 := f_dec h1
    refine a_exit ?_
    show A _ _ _ _ _ _ _
    refine a_rseq ?_
    refine rg_put (d := 17) (v := .d (.fl (.string (⟨#[]⟩)))) rfl (og rfl (op_move rfl rfl rfl)) ?_
    refine rg_put (d := 2) (v := .d (.fl (.string (⟨#[]⟩)))) rfl (og rfl (op_assign rfl rfl rfl)) ?_
    refine rg_done rfl ?_
    refine a_ret ?_
    show ∃ ds, ResL _ _ _ ds ∧ RV.of ds = _
    refine ⟨[.fl (.string (⟨#[]⟩))], (.cons (.tmp rfl (.d _)) .nil), ?_⟩
    rw [orT_no (fun q h => hq q (by omega))]; rfl
set_option maxHeartbeats 4000000 in
set_option maxRecDepth 100000 in
theorem belC (o : OwL) (x : Psg) : Ctr Tryz.prog 53 [.mp (setO o), .ag (ePsg x)] (.d (.fl (.string (bel o x)))) := by
  refine ctr (n := 15) (rs := #[.tmp 4]) (L := [(0, .d (.mp (setO o))), (1, .d (.ag (ePsg x)))]) Tryz.func53 rfl rfl rfl rfl rfl (fun w0 U0 => ?_)
  refine a_rseq ?_
  refine rg_nam (d := 3) (v := .pt 101 0) (m := 101) (nw := [(101, .bx 24 (ePsg x))]) rfl (og rfl (of_eff (op_box 101 rfl rfl rfl rfl) rfl)) rfl ?_
  refine rg_put (d := 4) (v := .d (.fl (.string (⟨#[]⟩)))) rfl (og rfl (op_assign rfl rfl rfl)) ?_
  refine rg_done rfl ?_
  refine a_rseq ?_
  refine rg_put (d := 5) (v := .pt 101 3) rfl (og rfl (of_eff (s_field_pt rfl Tryz.underlying24 rfl ti9 rfl rfl rfl) rfl)) ?_
  refine rg_put (d := 6) (v := .d (.fl (.string x.tag))) rfl (og rfl (op_load_pt rfl Tryz.underlying9 rfl rfl rfl rfl rfl)) ?_
  refine rg_put (d := 7) (v := .d (.mp (setO o))) rfl (og rfl (op_move rfl rfl rfl)) ?_
  refine rg_put (d := 8) (v := .pt 101 4) rfl (og rfl (of_eff (s_field_pt rfl Tryz.underlying24 rfl ti9 rfl rfl rfl) rfl)) ?_
  refine rg_put (d := 9) (v := .d (.fl (.string x.plate))) rfl (og rfl (op_load_pt rfl Tryz.underlying9 rfl rfl rfl rfl rfl)) ?_
  rcases h1 : fO (o) x.plate with _ | qh1
  · skip
    refine rg_put (d := 10) (v := .d (.fl (.string (⟨#[]⟩)))) rfl (og rfl (op_lookup1 rfl Tryz.underlying71 Tryz.underlying9 rfl ti9 rfl rfl (.d _) rfl (r := none) ((mfindO _ _).trans (congrArg (fun o => some (Option.map (fun v => DV.fl (.string v)) o)) h1)) rfl rfl)) ?_
    refine rg_put (d := 11) (v := .pt 101 4) rfl (og rfl (of_eff (s_field_pt rfl Tryz.underlying24 rfl ti9 rfl rfl rfl) rfl)) ?_
    refine rg_put (d := 12) (v := .d (.fl (.string x.plate))) rfl (og rfl (op_load_pt rfl Tryz.underlying9 rfl rfl rfl rfl rfl)) ?_
    refine rg_put (d := 13) (v := .d (.sl 1 (List.map rS ([x.tag, ⟨#[]⟩, x.plate])))) rfl (og rfl (of_eff (op_slices rfl Tryz.underlying46 ti9 rfl rfl rfl (by kernel_rfl) (xs := [.fl (.string x.tag), .fl (.string (⟨#[]⟩)), .fl (.string x.plate)]) rfl rfl (.cons rfl rfl (.d _) rfl rfl rfl (.cons rfl rfl (.d _) rfl rfl rfl (.cons rfl rfl (.d _) rfl rfl rfl .nil))) rfl) rfl)) ?_
    refine rg_put (d := 14) (v := .d (.fl (.string ((orT ([x.tag, ⟨#[]⟩, x.plate])))))) rfl (og rfl (op_call rfl Tryz.func45 nm45 rfl (.cons rfl (.d _) .nil) (orTC ([x.tag, ⟨#[]⟩, x.plate]) (by simp)) rfl)) ?_
    refine rg_put (d := 4) (v := .d (.fl (.string ((orT ([x.tag, ⟨#[]⟩, x.plate])))))) rfl (og rfl (op_assign rfl rfl rfl)) ?_
    refine rg_done rfl ?_
    refine a_ret ?_
    show ∃ ds, ResL _ _ _ ds ∧ RV.of ds = _
    refine ⟨[.fl (.string ((orT ([x.tag, ⟨#[]⟩, x.plate]))))], (.cons (.tmp rfl (.d _)) .nil), ?_⟩
    rw [show bel o x = (orT ([x.tag, ⟨#[]⟩, x.plate])) from by unfold bel; rw [h1]; rfl]; rfl
  · skip
    refine rg_put (d := 10) (v := .d (.fl (.string qh1))) rfl (og rfl (op_lookup1 rfl Tryz.underlying71 Tryz.underlying9 rfl ti9 rfl rfl (.d _) rfl (r := (some (.fl (.string qh1)))) ((mfindO _ _).trans (congrArg (fun o => some (Option.map (fun v => DV.fl (.string v)) o)) h1)) rfl rfl)) ?_
    refine rg_put (d := 11) (v := .pt 101 4) rfl (og rfl (of_eff (s_field_pt rfl Tryz.underlying24 rfl ti9 rfl rfl rfl) rfl)) ?_
    refine rg_put (d := 12) (v := .d (.fl (.string x.plate))) rfl (og rfl (op_load_pt rfl Tryz.underlying9 rfl rfl rfl rfl rfl)) ?_
    refine rg_put (d := 13) (v := .d (.sl 1 (List.map rS [x.tag, qh1, x.plate]))) rfl (og rfl (of_eff (op_slices rfl Tryz.underlying46 ti9 rfl rfl rfl (by kernel_rfl) (xs := [.fl (.string x.tag), .fl (.string qh1), .fl (.string x.plate)]) rfl rfl (.cons rfl rfl (.d _) rfl rfl rfl (.cons rfl rfl (.d _) rfl rfl rfl (.cons rfl rfl (.d _) rfl rfl rfl .nil))) rfl) rfl)) ?_
    refine rg_put (d := 14) (v := .d (.fl (.string (orT [x.tag, qh1, x.plate])))) rfl (og rfl (op_call rfl Tryz.func45 nm45 rfl (.cons rfl (.d _) .nil) (orTC [x.tag, qh1, x.plate] (by simp)) rfl)) ?_
    refine rg_put (d := 4) (v := .d (.fl (.string (orT [x.tag, qh1, x.plate])))) rfl (og rfl (op_assign rfl rfl rfl)) ?_
    refine rg_done rfl ?_
    refine a_ret ?_
    show ∃ ds, ResL _ _ _ ds ∧ RV.of ds = _
    refine ⟨[.fl (.string (orT [x.tag, qh1, x.plate]))], (.cons (.tmp rfl (.d _)) .nil), ?_⟩
    rw [show bel o x = (orT [x.tag, qh1, x.plate]) from by unfold bel; rw [h1]; rfl]; rfl
end Go.Proofs.YtakmjlpciicaiaaGreatDoor.Wk
