/- The law of one vehicle for each passage. No condition. -/
import Derived.Test.YtakmjlpciicaiaaGreatDoorAl
import Derived.Test.YtakmjlpciicaiaaGreatDoorB13
set_option linter.unusedSimpArgs false
set_option linter.unusedVariables false
namespace Go.Proofs.YtakmjlpciicaiaaGreatDoor.Wk
open Go Go.RowKit Go.Proofs.YtakmjlpciicaiaaGreatDoor.Av
def wq (x : Psg) : Bool := !(sEq x.tag em) || !(sEq x.plate em)
theorem bel_wq (l : List Psg) (x : Psg) : (!(sEq (bel (ow l l.length) x) em)) = wq x := by
  unfold wq
  cases h1 : sEq x.tag em with
  | false => rw [bel_t h1, h1]; rfl
  | true =>
    cases h2 : sEq x.plate em with
    | true =>
      rw [bel_p h1 h2 (by rw [sEq_eq h2]; exact ow_empty l _), h1]; rfl
    | false =>
      cases hf : fO (ow l l.length) x.plate with
      | none => rw [bel_none h1 h2 (.inl hf), h2]; rfl
      | some t =>
        cases h3 : sEq t em with
        | true => rw [bel_none h1 h2 (.inr (by rw [hf, sEq_eq h3])), h2]; rfl
        | false => rw [bel_some h1 h3 hf, h3]; rfl
theorem vs_mem {l : List Psg} : ∀ k, ∀ s ∈ vs l k, sEq s em = false ∧ ∃ q, q < k ∧ bel (ow l l.length) (ix l q) = s
  | 0, s, h => by simp [vs] at h
  | k + 1, s, h => by
    have ih := vs_mem (l := l) k s
    have up : (sEq s em = false ∧ ∃ q, q < k ∧ bel (ow l l.length) (ix l q) = s) → sEq s em = false ∧ ∃ q, q < k + 1 ∧ bel (ow l l.length) (ix l q) = s := fun ⟨a, q, b, c⟩ => ⟨a, q, by omega, c⟩
    simp only [vs] at h
    cases h1 : sEq (bel (ow l l.length) (ix l k)) em with
    | true => rw [h1] at h; exact up (ih h)
    | false =>
      rw [h1] at h
      cases h2 : (vs l k).any (fun s => sEq s (bel (ow l l.length) (ix l k))) with
      | true => rw [h2] at h; exact up (ih h)
      | false =>
        rw [h2] at h
        rcases List.mem_append.1 h with h | h
        · exact up (ih h)
        · rw [List.mem_singleton] at h; rw [h]; exact ⟨h1, k, by omega, rfl⟩
theorem vs_in {l : List Psg} : ∀ k q, q < k → sEq (bel (ow l l.length) (ix l q)) em = false → bel (ow l l.length) (ix l q) ∈ vs l k
  | 0, q, h, _ => by omega
  | k + 1, q, h, hb => by
    have ih := vs_in (l := l) k q
    simp only [vs]
    rcases Nat.lt_succ_iff_lt_or_eq.1 h with e | e
    · have hm := ih e hb
      cases sEq (bel (ow l l.length) (ix l k)) em with
      | true => exact hm
      | false =>
        cases (vs l k).any (fun s => sEq s (bel (ow l l.length) (ix l k))) with
        | true => exact hm
        | false => exact List.mem_append_left _ hm
    · rw [e] at hb ⊢
      rw [hb]
      cases h2 : (vs l k).any (fun s => sEq s (bel (ow l l.length) (ix l k))) with
      | true =>
        obtain ⟨s, hs, he⟩ := List.any_eq_true.1 h2
        rw [← sEq_eq he]; exact hs
      | false => exact List.mem_append_right _ (List.mem_singleton.2 rfl)
theorem vs_nd {l : List Psg} : ∀ k, (vs l k).Nodup
  | 0 => by simp [vs]
  | k + 1 => by
    have ih := vs_nd (l := l) k
    simp only [vs]
    cases sEq (bel (ow l l.length) (ix l k)) em with
    | true => exact ih
    | false =>
      cases h2 : (vs l k).any (fun s => sEq s (bel (ow l l.length) (ix l k))) with
      | true => exact ih
      | false =>
        refine List.nodup_append.2 ⟨ih, by simp, fun a ha b hb e => ?_⟩
        rw [List.mem_singleton] at hb
        have := List.any_eq_false.1 h2 a ha
        exact this (sEq_of (e.trans hb))
noncomputable def alls (l : List Psg) (u : List ByteArray) : List Psg := u.flatMap fun v => srt (l.filter (bq l v))
theorem alls_len (l : List Psg) : ∀ u : List ByteArray, (alls l u).length ≤ l.length * u.length
  | [] => by simp [alls]
  | v :: u => by
    have ih := alls_len l u
    have h1 : (srt (l.filter (bq l v))).length ≤ l.length := by rw [srt_len]; exact List.length_filter_le _ _
    have e : alls l (v :: u) = srt (l.filter (bq l v)) ++ alls l u := rfl
    rw [e, List.length_append, List.length_cons, Nat.mul_succ]; omega
theorem part_perm (l : List Psg) : ∀ u : List ByteArray, u.Nodup → (∀ s ∈ u, sEq s em = false) → (alls l u).Perm (l.filter fun x => u.any fun s => sEq s (bel (ow l l.length) x))
  | [], _, _ => by simp [alls]
  | v :: u, hn, hz => by
    have ih := part_perm l u (List.nodup_cons.1 hn).2 (fun s hs => hz s (List.mem_cons_of_mem _ hs))
    have hv : sEq v em = false := hz v (List.mem_cons_self ..)
    have e : alls l (v :: u) = srt (l.filter (bq l v)) ++ alls l u := rfl
    rw [e]
    refine ((srt_perm _).append ih).trans ?_
    have hp := List.filter_append_perm (fun x => bq l v x) (l.filter fun x => (v :: u).any fun s => sEq s (bel (ow l l.length) x))
    refine List.Perm.trans (List.Perm.of_eq ?_) hp
    rw [List.filter_filter, List.filter_filter]
    congr 1
    · refine List.filter_congr fun x _ => ?_
      rw [List.any_cons]
      cases h : bq l v x with
      | false => rfl
      | true =>
        unfold bq at h
        rw [hv] at h
        have : sEq (bel (ow l l.length) x) v = true := by simpa using h
        rw [sEq_of (sEq_eq this).symm]; rfl
    · refine List.filter_congr fun x _ => ?_
      rw [List.any_cons]
      cases h : bq l v x with
      | false =>
        have : sEq v (bel (ow l l.length) x) = false := by
          cases hq : sEq v (bel (ow l l.length) x) with
          | false => rfl
          | true =>
            unfold bq at h
            rw [hv, sEq_of (sEq_eq hq).symm] at h; cases h
        rw [this]; rfl
      | true =>
        have hx : bel (ow l l.length) x = v := by
          unfold bq at h
          rw [hv] at h
          exact sEq_eq (by simpa using h)
        have hnv : v ∉ u := (List.nodup_cons.1 hn).1
        rw [hx]
        have : u.any (fun s => sEq s v) = false := List.any_eq_false.2 fun s hs he => hnv (by rw [← sEq_eq he]; exact hs)
        rw [this]; rfl
theorem all_want (l : List Psg) : srt (alls l (srtS (vs l l.length))) = srt (l.filter wq) := by
  refine srt_eq ((srt_perm _).trans ?_) (srt_pw _)
  have hp := srtS_perm (vs l l.length)
  refine (part_perm l _ (hp.symm.nodup (vs_nd _)) (fun s hs => (vs_mem _ s (hp.subset hs)).1)).trans (List.Perm.of_eq ?_)
  refine List.filter_congr fun x hx => ?_
  rw [← bel_wq l x]
  obtain ⟨q, hq, rfl⟩ := mem_ix hx
  cases h : sEq (bel (ow l l.length) (ix l q)) em with
  | false => exact List.any_eq_true.2 ⟨_, hp.symm.subset (vs_in _ q hq h), by simp [sEq]⟩
  | true =>
    refine List.any_eq_false.2 fun s hs he => ?_
    have := (vs_mem _ s (hp.subset hs)).1
    rw [sEq_eq he, h] at this; cases this
theorem vs_asc {l : List Psg} {i j : Nat} (hij : i < j) (hj : j < (srtS (vs l l.length)).length) : sLt (ix (srtS (vs l l.length)) i) (ix (srtS (vs l l.length)) j) = true := by
  have h1 := List.pairwise_iff_getElem.1 (srtS_pw (vs l l.length)) i j (by omega) hj hij
  have h2 := List.pairwise_iff_getElem.1 (((srtS_perm (vs l l.length)).symm).nodup (vs_nd l.length)) i j (by omega) hj hij
  rw [ix_eq (by omega : i < (srtS (vs l l.length)).length), ix_eq hj] at h1 h2
  rcases sc_cases (ix (srtS (vs l l.length)) i) (ix (srtS (vs l l.length)) j) with q | q | q
  · exact absurd q.2 h2
  · exact q.2.1
  · omega
theorem of_ne {l : List Psg} {k : Nat} (hk : k < (srtS (vs l l.length)).length) : ((srt (l.filter (bq l (ix (srtS (vs l l.length)) k)))).length : Int) ≠ 0 := by
  have hm := (srtS_perm _).subset (ix_mem hk)
  obtain ⟨h1, q, h2, h3⟩ := vs_mem _ _ hm
  have : ix l q ∈ l.filter (bq l (ix (srtS (vs l l.length)) k)) := List.mem_filter.2 ⟨ix_mem h2, by unfold bq; rw [h1, sEq_of h3]; rfl⟩
  have := List.length_pos_of_mem this
  rw [srt_len]; omega
theorem alls_up {l : List Psg} {u : List ByteArray} {k : Nat} (hk : k < u.length) : alls l (u.take k) ++ srt (l.filter (bq l (ix u k))) = alls l (u.take (k + 1)) := by
  rw [take_ix hk]; unfold alls; rw [List.flatMap_append]; simp
theorem alls_sub {l : List Psg} {u : List ByteArray} {x : Psg} (h : x ∈ alls l u) : x ∈ l := by
  obtain ⟨v, _, hx⟩ := List.mem_flatMap.1 h
  exact (List.mem_filter.1 ((srt_perm _).subset hx)).1
theorem alls_len2 (l : List Psg) : (alls l (srtS (vs l l.length))).length ≤ l.length := by
  have h := congrArg List.length (all_want l)
  rw [srt_len, srt_len] at h
  rw [h]; exact List.length_filter_le _ _

set_option maxHeartbeats 4000000 in
set_option maxRecDepth 100000 in
theorem law8 (l : List Psg) (hl9 : l.length ≤ 9223372036854775807) (hm9 : ∀ x ∈ l, x.src.length ≤ 9223372036854775807) : Ctr Tryz.prog 8 [.sl 8 (List.map ePsg l)] (.d (.fl (.bool true))) := by
  refine ctr (n := 90) (rs := #[.tmp 2]) (L := [(0, .d (.sl 8 (List.map ePsg l)))]) Tryz.func8 rfl rfl rfl rfl rfl (fun w0 U0 => ?_)
  refine a_rseq ?_
  refine rg_put (d := 2) (v := .d (.fl (.bool false))) rfl (og rfl (op_assign rfl rfl rfl)) ?_
  refine rg_done rfl ?_
  refine a_seq ?_
  refine a_rseq ?_
  refine rg_put (d := 9) (v := .d (.sl 8 (List.map ePsg l))) rfl (og rfl (op_move rfl rfl rfl)) ?_
  refine rg_put (d := 10) (v := .d (.fl (.bool (fewP l)))) rfl (og rfl (op_call rfl Tryz.func19 nm19 rfl (.cons rfl (.d _) .nil) (fewC l hl9 hm9) rfl)) ?_
  refine rg_put (d := 11) (v := .d (.fl (.bool ((!(fewP l)))))) rfl (og rfl (op_un rfl rfl (u_not _) rfl)) ?_
  refine rg_done rfl ?_
  refine a_cond rfl (fun h1 => ?_) (fun h1 => ?_)
  · skip
    have h2 := t_not h1
    refine a_rseq ?_
    refine rg_put (d := 12) (v := .d (.fl (.bool true))) rfl (og rfl (op_call rfl Tryz.func12 nm12 rfl .nil aliveT rfl)) ?_
    refine rg_put (d := 2) (v := .d (.fl (.bool true))) rfl (og rfl (op_assign rfl rfl rfl)) ?_
    refine rg_done rfl ?_
    refine a_ret ?_
    show ∃ ds, ResL _ _ _ ds ∧ RV.of ds = _
    refine ⟨[.fl (.bool true)], (.cons (.tmp rfl (.d _)) .nil), ?_⟩
    rfl
  · skip
    have h3 := f_not h1
    refine a_skip ?_
    show A _ _ _ _ _ _ _
    refine a_rseq ?_
    obtain ⟨hl40, hsz⟩ := few_t h3
    have hul : (srtS (vs l l.length)).length ≤ l.length := by rw [srtS_len]; exact vs_len l _
    have hus : ∀ y ∈ (srtS (vs l l.length)), y.size ≤ 80 := fun y hy => vs_size hsz _ (Nat.le_refl _) y ((srtS_perm _).subset hy)
    have hwl : (l.filter wq).length ≤ l.length := List.length_filter_le _ _
    have hws : (srt (l.filter wq)).length ≤ l.length := by rw [srt_len]; exact hwl
    have hal2 := alls_len2 l
    refine rg_put (d := 13) (v := .d (.sl 8 (List.map ePsg l))) rfl (og rfl (op_move rfl rfl rfl)) ?_
    refine rg_put (d := 14) (v := .d (.sl 1 (List.map rS ((srtS (vs l l.length)))))) rfl (og rfl (op_call rfl Tryz.func28 nm28 rfl (.cons rfl (.d _) .nil) (vehC l (by omega) (fun s hs => Nat.le_trans (vs_size hsz _ (Nat.le_refl _) s hs) (by decide))) rfl)) ?_
    refine rg_put (d := 3) (v := .d (.sl 1 (List.map rS ((srtS (vs l l.length)))))) rfl (og rfl (op_assign rfl rfl rfl)) ?_
    refine rg_done rfl ?_
    refine a_rseq ?_
    refine rg_put (d := 4) (v := .d (.fl (.slice none 0 0))) rfl (og rfl (op_assign rfl rfl rfl)) ?_
    refine rg_done rfl ?_
    refine a_seq ?_
    refine a_rseq ?_
    refine rg_imp (imp_nilT 4 101 24 8 rfl rfl) ?_
    refine rg_put (d := 5) (v := .d (.fl (.int .i64 0))) rfl (og rfl (op_assign rfl rfl rfl)) ?_
    refine rg_done rfl ?_
    refine a_block ?_
    refine a_loop (ι := Nat) (fun i => SS [(0, .d (.sl 8 (List.map ePsg l))), (3, .d (.sl 1 (List.map rS ((srtS (vs l l.length)))))), (11, .d (.fl (.bool ((!(fewP l)))))), (5, .d (.fl (.int .i64 (i : Int)))), (4, .ow 101)] [(101, .tr 24 8 (tD ePsg ((alls l ((srtS (vs l l.length)).take i)))))]) (fun i => i ≤ (srtS (vs l l.length)).length) (fun i => (srtS (vs l l.length)).length - i) 0 (by omega) (imp_forget rfl ⟨rfl, rfl, rfl, (by first | rfl | exact ci (by omega) | exact ci (by simp) | exact cd (by simp) | simp), (by first | rfl | exact ci (by omega) | exact ci (by simp) | exact cd (by simp) | simp), trivial⟩ ⟨rfl, trivial⟩) (fun i hok => ?_)
    have hi := hok
    have hal : (alls l ((srtS (vs l l.length)).take i)).length ≤ 40 * 40 := Nat.le_trans (alls_len _ _) (Nat.mul_le_mul hl40 (by rw [List.length_take]; omega))
    refine a_seq ?_
    refine a_rseq ?_
    refine rg_put (d := 15) (v := .d (.fl (.int .i64 (i : Int)))) rfl (og rfl (op_move rfl rfl rfl)) ?_
    refine rg_put (d := 16) (v := .d (.sl 1 (List.map rS ((srtS (vs l l.length)))))) rfl (og rfl (op_move rfl rfl rfl)) ?_
    refine rg_put (d := 17) (v := .d (.fl (.int .i64 ((((srtS (vs l l.length))).length : Int))))) rfl (og rfl (s_len rfl Tryz.underlying46 rfl rfl)) ?_
    refine rg_put (d := 18) (v := .d (.fl (.bool ((decide ((i : Int) < (((srtS (vs l l.length))).length : Int))))))) rfl (og rfl (op_bin rfl rfl rfl (b_lss _ _ _ _) rfl)) ?_
    refine rg_done rfl ?_
    refine a_cond rfl (fun h4 => ?_) (fun h4 => ?_)
    · skip
      have h5 := t_dec h4
      refine a_skip ?_
      show A _ _ _ _ _ _ _
      refine a_seq ?_
      refine a_block ?_
      refine a_seq ?_
      refine a_dseq (by kernel_rfl) ?_
      refine dr_put (d := 21) (v := .d (.sl 1 (List.map rS ((srtS (vs l l.length)))))) rfl (og rfl (op_move rfl rfl rfl)) ?_
      refine dr_put (d := 22) (v := .d (.fl (.int .i64 (i : Int)))) rfl (og rfl (op_move rfl rfl rfl)) ?_
      refine dr_put (d := 23) (v := .el ((rS ((ix ((srtS (vs l l.length))) i))))) rfl (og rfl (s_index rfl Tryz.underlying46 ti9 rfl rfl (by omega) (row_at (by omega)) rfl)) ?_
      refine dr_put (d := 24) (v := .d (.fl (.string ((ix ((srtS (vs l l.length))) i))))) rfl (og rfl (op_load_el rfl Tryz.underlying9 rfl rfl rfl rfl)) ?_
      refine dr_put (d := 25) (v := .d (.fl (.bool ((sEq ((ix ((srtS (vs l l.length))) i)) (⟨#[]⟩)))))) rfl (og rfl (op_bin rfl rfl rfl (b_seq _ _ _) rfl)) ?_
      refine dr_put (d := 26) (v := .d (.fl (.bool ((sEq ((ix ((srtS (vs l l.length))) i)) (⟨#[]⟩)))))) rfl (og rfl (op_move rfl rfl rfl)) ?_
      rcases fot ((sEq ((ix ((srtS (vs l l.length))) i)) (⟨#[]⟩))) with h6 | h6
      · skip
        refine dr_put (d := 27) (v := .d (.fl (.int .i64 (i : Int)))) rfl (oy rfl rfl rfl h6 (op_move rfl rfl rfl)) ?_
        refine dr_put (d := 28) (v := .d (.fl (.bool ((decide (0 < (i : Int))))))) rfl (oy rfl rfl rfl h6 (op_bin rfl rfl rfl (b_gtr _ _ _ _) rfl)) ?_
        refine dr_put (d := 29) (v := .d (.fl (.bool ((decide (0 < (i : Int))))))) rfl (oy rfl rfl rfl h6 (op_move rfl rfl rfl)) ?_
        rcases fot ((decide (0 < (i : Int)))) with h7 | h7
        · skip
          have h8 := f_dec h7
          refine dr_put (d := 30) (v := .d (.fl undef)) rfl (on rfl rfl rfl h7) ?_
          refine dr_put (d := 31) (v := .d (.fl undef)) rfl (on rfl rfl rfl h7) ?_
          refine dr_put (d := 32) (v := .d (.fl undef)) rfl (on rfl rfl rfl h7) ?_
          refine dr_put (d := 33) (v := .d (.fl undef)) rfl (on rfl rfl rfl h7) ?_
          refine dr_put (d := 34) (v := .d (.fl undef)) rfl (on rfl rfl rfl h7) ?_
          refine dr_put (d := 35) (v := .d (.fl undef)) rfl (on rfl rfl rfl h7) ?_
          refine dr_put (d := 36) (v := .d (.fl undef)) rfl (on rfl rfl rfl h7) ?_
          refine dr_put (d := 37) (v := .d (.fl undef)) rfl (on rfl rfl rfl h7) ?_
          refine dr_put (d := 38) (v := .d (.fl undef)) rfl (on rfl rfl rfl h7) ?_
          refine dr_put (d := 39) (v := .d (.fl undef)) rfl (on rfl rfl rfl h7) ?_
          refine dr_put (d := 40) (v := .d (.fl undef)) rfl (on rfl rfl rfl h7) ?_
          refine dr_put (d := 41) (v := .d (.fl (.bool false))) rfl (oy rfl rfl rfl h6 (op_pick rfl rfl (by rw [h7]; rfl) rfl)) ?_
          refine dr_put (d := 42) (v := .d (.fl (.bool false))) rfl (og rfl (op_pick rfl rfl (by rw [h6]; rfl) rfl)) ?_
          refine dr_done rfl (sepB_of [0, 0, 3, 7, 15, 31, 63, 127, 255, 511, 511, 1535, 4095, 8191, 511, 511, 49663, 115199, 262143, 524287, 1048575, 2097151] (by kernel_rfl)) (by kernel_rfl) ?_
          refine a_condF rfl rfl ?_
          refine a_skip ?_
          show A _ _ _ _ _ _ _
          refine a_rseq ?_
          refine rg_put (d := 43) (v := .d (.sl 8 (List.map ePsg l))) rfl (og rfl (op_move rfl rfl rfl)) ?_
          refine rg_put (d := 44) (v := .d (.sl 1 (List.map rS ((srtS (vs l l.length)))))) rfl (og rfl (op_move rfl rfl rfl)) ?_
          refine rg_put (d := 45) (v := .d (.fl (.int .i64 (i : Int)))) rfl (og rfl (op_move rfl rfl rfl)) ?_
          refine rg_put (d := 46) (v := .el ((rS ((ix ((srtS (vs l l.length))) i))))) rfl (og rfl (s_index rfl Tryz.underlying46 ti9 rfl rfl (by omega) (row_at (by omega)) rfl)) ?_
          refine rg_put (d := 47) (v := .d (.fl (.string ((ix ((srtS (vs l l.length))) i))))) rfl (og rfl (op_load_el rfl Tryz.underlying9 rfl rfl rfl rfl)) ?_
          refine rg_put (d := 48) (v := .d (.sl 8 (List.map ePsg ((srt (l.filter (bq l ((ix ((srtS (vs l l.length))) i))))))))) rfl (og rfl (op_call rfl Tryz.func25 nm25 rfl (.cons rfl (.d _) (.cons rfl (.d _) .nil)) (ofP l ((ix ((srtS (vs l l.length))) i)) (by omega) (fun x hx => (hsz x hx).n)) rfl)) ?_
          refine rg_put (d := 6) (v := .d (.sl 8 (List.map ePsg ((srt (l.filter (bq l ((ix ((srtS (vs l l.length))) i))))))))) rfl (og rfl (op_assign rfl rfl rfl)) ?_
          refine rg_done rfl ?_
          refine a_seq ?_
          refine a_rseq ?_
          have hof : (srt (l.filter (bq l (ix (srtS (vs l l.length)) i)))).length ≤ l.length := by rw [srt_len]; exact List.length_filter_le _ _
          refine rg_put (d := 49) (v := .d (.sl 8 (List.map ePsg ((srt (l.filter (bq l ((ix ((srtS (vs l l.length))) i))))))))) rfl (og rfl (op_move rfl rfl rfl)) ?_
          refine rg_put (d := 50) (v := .d (.fl (.int .i64 ((((srt (l.filter (bq l ((ix ((srtS (vs l l.length))) i)))))).length : Int))))) rfl (og rfl (s_len rfl Tryz.underlying38 rfl rfl)) ?_
          refine rg_put (d := 51) (v := .d (.fl (.bool (((((srt (l.filter (bq l ((ix ((srtS (vs l l.length))) i)))))).length : Int) == 0))))) rfl (og rfl (op_bin rfl rfl rfl (b_eql _ _ _ _) rfl)) ?_
          refine rg_done rfl ?_
          refine a_cond rfl (fun h9 => ?_) (fun h9 => ?_)
          · skip
            have h10 := t_beq h9
            refine a_rseq ?_
            refine rg_put (d := 2) (v := .d (.fl (.bool false))) rfl (og rfl (op_assign rfl rfl rfl)) ?_
            refine rg_done rfl ?_
            refine a_ret ?_
            show ∃ ds, ResL _ _ _ ds ∧ RV.of ds = _
            refine ⟨[.fl (.bool false)], (.cons (.tmp rfl (.d _)) .nil), ?_⟩
            exact absurd (t_beq h9) (of_ne (by omega))
          · skip
            have h11 := f_beq h9
            refine a_skip ?_
            show A _ _ _ _ _ _ _
            refine a_region ?_
            refine rg_put (d := 52) (v := .ow 101) rfl (og rfl (op_move rfl rfl rfl)) ?_
            refine rg_put (d := 53) (v := .d (.sl 8 (List.map ePsg ((srt (l.filter (bq l ((ix ((srtS (vs l l.length))) i))))))))) rfl (og rfl (op_move rfl rfl rfl)) ?_
            refine rg_nam (d := 54) (v := .ow 102) (m := 102) (nw := [(102, .tr 24 8 (tD ePsg (((alls l ((srtS (vs l l.length)).take i)) ++ (srt (l.filter (bq l ((ix ((srtS (vs l l.length))) i))))))))), (101, .no)]) rfl (og rfl (of_eff (s_append_td 102 rfl Tryz.underlying38 ti24 rfl rfl rfl rfl rfl (.d _) (by first | omega | (simp only [List.length_append, List.length_cons, List.length_nil]; omega)) rfl) rfl)) rfl ?_
            refine rg_put (d := 4) (v := .ow 102) rfl (og rfl (op_assign rfl rfl rfl)) ?_
            refine rg_done rfl ?_
            show A _ _ _ _ _ _ _
            refine a_region ?_
            refine rg_put (d := 19) (v := .d (.fl (.int .i64 (i : Int)))) rfl (og rfl (op_move rfl rfl rfl)) ?_
            refine rg_put (d := 20) (v := .d (.fl (.int .i64 (((i : Int) + 1))))) rfl (og rfl (op_bin rfl rfl rfl (fun x y w => b_add64 _ _ _ x y w (by omega)) rfl)) ?_
            refine rg_put (d := 5) (v := .d (.fl (.int .i64 (((i : Int) + 1))))) rfl (og rfl (op_assign rfl rfl rfl)) ?_
            refine rg_done rfl ?_
            have hst : ((alls l ((srtS (vs l l.length)).take i)) ++ (srt (l.filter (bq l ((ix ((srtS (vs l l.length))) i)))))) = alls l ((srtS (vs l l.length)).take (i + 1)) := alls_up (by omega)
            show ∃ i, _ ∧ _ ∧ Imp _ _ _ _ _
            refine ⟨i + 1, (by omega), by omega, imp_ren (fun m => bif Nat.beq m 101 then 102 else m) rfl ⟨rfl, rfl, rfl, (by first | rfl | exact ci (by omega) | exact ci (by simp) | exact cd (by simp) | simp), rfl, trivial⟩ ⟨(congrArg (fun z => Ob.tr 24 8 (tD ePsg z)) hst), trivial⟩⟩
        · skip
          have h12 := t_dec h7
          refine dr_put (d := 30) (v := .d (.sl 1 (List.map rS ((srtS (vs l l.length)))))) rfl (oy rfl rfl rfl h7 (op_move rfl rfl rfl)) ?_
          refine dr_put (d := 31) (v := .d (.fl (.int .i64 (i : Int)))) rfl (oy rfl rfl rfl h7 (op_move rfl rfl rfl)) ?_
          refine dr_put (d := 32) (v := .d (.fl (.int .i64 (((i : Int) - 1))))) rfl (oy rfl rfl rfl h7 (op_bin rfl rfl rfl (fun x y w => b_sub64 _ _ _ x y w (by omega)) rfl)) ?_
          refine dr_put (d := 33) (v := .el ((rS ((ix ((srtS (vs l l.length))) (((i : Int) - 1)).toNat))))) rfl (oy rfl rfl rfl h7 (s_index rfl Tryz.underlying46 ti9 rfl rfl (by omega) (row_atI (by omega) (by omega)) rfl)) ?_
          refine dr_put (d := 34) (v := .d (.fl (.string ((ix ((srtS (vs l l.length))) (((i : Int) - 1)).toNat))))) rfl (oy rfl rfl rfl h7 (op_load_el rfl Tryz.underlying9 rfl rfl rfl rfl)) ?_
          refine dr_put (d := 35) (v := .d (.sl 1 (List.map rS ((srtS (vs l l.length)))))) rfl (oy rfl rfl rfl h7 (op_move rfl rfl rfl)) ?_
          refine dr_put (d := 36) (v := .d (.fl (.int .i64 (i : Int)))) rfl (oy rfl rfl rfl h7 (op_move rfl rfl rfl)) ?_
          refine dr_put (d := 37) (v := .el ((rS ((ix ((srtS (vs l l.length))) i))))) rfl (oy rfl rfl rfl h7 (s_index rfl Tryz.underlying46 ti9 rfl rfl (by omega) (row_at (by omega)) rfl)) ?_
          refine dr_put (d := 38) (v := .d (.fl (.string ((ix ((srtS (vs l l.length))) i))))) rfl (oy rfl rfl rfl h7 (op_load_el rfl Tryz.underlying9 rfl rfl rfl rfl)) ?_
          refine dr_put (d := 39) (v := .d (.fl (.bool ((sLt ((ix ((srtS (vs l l.length))) (((i : Int) - 1)).toNat)) ((ix ((srtS (vs l l.length))) i))))))) rfl (oy rfl rfl rfl h7 (op_call rfl Tryz.func32 nm32 rfl (.cons rfl (.d _) (.cons rfl (.d _) .nil)) (befR ((ix ((srtS (vs l l.length))) (((i : Int) - 1)).toNat)) ((ix ((srtS (vs l l.length))) i)) (hus _ (ix_mem (by omega))) (hus _ (ix_mem (by omega)))) rfl)) ?_
          refine dr_put (d := 40) (v := .d (.fl (.bool ((!((sLt ((ix ((srtS (vs l l.length))) (((i : Int) - 1)).toNat)) ((ix ((srtS (vs l l.length))) i))))))))) rfl (oy rfl rfl rfl h7 (op_un rfl rfl (u_not _) rfl)) ?_
          refine dr_put (d := 41) (v := .d (.fl (.bool ((!((sLt ((ix ((srtS (vs l l.length))) (((i : Int) - 1)).toNat)) ((ix ((srtS (vs l l.length))) i))))))))) rfl (oy rfl rfl rfl h6 (op_pick rfl rfl (by rw [h7]; rfl) rfl)) ?_
          refine dr_put (d := 42) (v := .d (.fl (.bool ((!((sLt ((ix ((srtS (vs l l.length))) (((i : Int) - 1)).toNat)) ((ix ((srtS (vs l l.length))) i))))))))) rfl (og rfl (op_pick rfl rfl (by rw [h6]; rfl) rfl)) ?_
          refine dr_done rfl (sepB_of [0, 0, 3, 7, 15, 31, 63, 127, 255, 511, 511, 1535, 4095, 8191, 511, 511, 49663, 115199, 262143, 524287, 1048575, 2097151] (by kernel_rfl)) (by kernel_rfl) ?_
          refine a_cond rfl (fun h13 => ?_) (fun h13 => ?_)
          · skip
            have h14 := t_not h13
            refine a_rseq ?_
            refine rg_put (d := 2) (v := .d (.fl (.bool false))) rfl (og rfl (op_assign rfl rfl rfl)) ?_
            refine rg_done rfl ?_
            refine a_ret ?_
            show ∃ ds, ResL _ _ _ ds ∧ RV.of ds = _
            refine ⟨[.fl (.bool false)], (.cons (.tmp rfl (.d _)) .nil), ?_⟩
            exfalso; have h := vs_asc (l := l) (i := ((i : Int) - 1).toNat) (j := i) (by omega) (by omega); rw [h14] at h; cases h
          · skip
            have h15 := f_not h13
            refine a_skip ?_
            show A _ _ _ _ _ _ _
            refine a_rseq ?_
            refine rg_put (d := 43) (v := .d (.sl 8 (List.map ePsg l))) rfl (og rfl (op_move rfl rfl rfl)) ?_
            refine rg_put (d := 44) (v := .d (.sl 1 (List.map rS ((srtS (vs l l.length)))))) rfl (og rfl (op_move rfl rfl rfl)) ?_
            refine rg_put (d := 45) (v := .d (.fl (.int .i64 (i : Int)))) rfl (og rfl (op_move rfl rfl rfl)) ?_
            refine rg_put (d := 46) (v := .el ((rS ((ix ((srtS (vs l l.length))) i))))) rfl (og rfl (s_index rfl Tryz.underlying46 ti9 rfl rfl (by omega) (row_at (by omega)) rfl)) ?_
            refine rg_put (d := 47) (v := .d (.fl (.string ((ix ((srtS (vs l l.length))) i))))) rfl (og rfl (op_load_el rfl Tryz.underlying9 rfl rfl rfl rfl)) ?_
            refine rg_put (d := 48) (v := .d (.sl 8 (List.map ePsg ((srt (l.filter (bq l ((ix ((srtS (vs l l.length))) i))))))))) rfl (og rfl (op_call rfl Tryz.func25 nm25 rfl (.cons rfl (.d _) (.cons rfl (.d _) .nil)) (ofP l ((ix ((srtS (vs l l.length))) i)) (by omega) (fun x hx => (hsz x hx).n)) rfl)) ?_
            refine rg_put (d := 6) (v := .d (.sl 8 (List.map ePsg ((srt (l.filter (bq l ((ix ((srtS (vs l l.length))) i))))))))) rfl (og rfl (op_assign rfl rfl rfl)) ?_
            refine rg_done rfl ?_
            refine a_seq ?_
            refine a_rseq ?_
            have hof : (srt (l.filter (bq l (ix (srtS (vs l l.length)) i)))).length ≤ l.length := by rw [srt_len]; exact List.length_filter_le _ _
            refine rg_put (d := 49) (v := .d (.sl 8 (List.map ePsg ((srt (l.filter (bq l ((ix ((srtS (vs l l.length))) i))))))))) rfl (og rfl (op_move rfl rfl rfl)) ?_
            refine rg_put (d := 50) (v := .d (.fl (.int .i64 ((((srt (l.filter (bq l ((ix ((srtS (vs l l.length))) i)))))).length : Int))))) rfl (og rfl (s_len rfl Tryz.underlying38 rfl rfl)) ?_
            refine rg_put (d := 51) (v := .d (.fl (.bool (((((srt (l.filter (bq l ((ix ((srtS (vs l l.length))) i)))))).length : Int) == 0))))) rfl (og rfl (op_bin rfl rfl rfl (b_eql _ _ _ _) rfl)) ?_
            refine rg_done rfl ?_
            refine a_cond rfl (fun h16 => ?_) (fun h16 => ?_)
            · skip
              have h17 := t_beq h16
              refine a_rseq ?_
              refine rg_put (d := 2) (v := .d (.fl (.bool false))) rfl (og rfl (op_assign rfl rfl rfl)) ?_
              refine rg_done rfl ?_
              refine a_ret ?_
              show ∃ ds, ResL _ _ _ ds ∧ RV.of ds = _
              refine ⟨[.fl (.bool false)], (.cons (.tmp rfl (.d _)) .nil), ?_⟩
              exact absurd (t_beq h16) (of_ne (by omega))
            · skip
              have h18 := f_beq h16
              refine a_skip ?_
              show A _ _ _ _ _ _ _
              refine a_region ?_
              refine rg_put (d := 52) (v := .ow 101) rfl (og rfl (op_move rfl rfl rfl)) ?_
              refine rg_put (d := 53) (v := .d (.sl 8 (List.map ePsg ((srt (l.filter (bq l ((ix ((srtS (vs l l.length))) i))))))))) rfl (og rfl (op_move rfl rfl rfl)) ?_
              refine rg_nam (d := 54) (v := .ow 103) (m := 103) (nw := [(103, .tr 24 8 (tD ePsg (((alls l ((srtS (vs l l.length)).take i)) ++ (srt (l.filter (bq l ((ix ((srtS (vs l l.length))) i))))))))), (101, .no)]) rfl (og rfl (of_eff (s_append_td 103 rfl Tryz.underlying38 ti24 rfl rfl rfl rfl rfl (.d _) (by first | omega | (simp only [List.length_append, List.length_cons, List.length_nil]; omega)) rfl) rfl)) rfl ?_
              refine rg_put (d := 4) (v := .ow 103) rfl (og rfl (op_assign rfl rfl rfl)) ?_
              refine rg_done rfl ?_
              show A _ _ _ _ _ _ _
              refine a_region ?_
              refine rg_put (d := 19) (v := .d (.fl (.int .i64 (i : Int)))) rfl (og rfl (op_move rfl rfl rfl)) ?_
              refine rg_put (d := 20) (v := .d (.fl (.int .i64 (((i : Int) + 1))))) rfl (og rfl (op_bin rfl rfl rfl (fun x y w => b_add64 _ _ _ x y w (by omega)) rfl)) ?_
              refine rg_put (d := 5) (v := .d (.fl (.int .i64 (((i : Int) + 1))))) rfl (og rfl (op_assign rfl rfl rfl)) ?_
              refine rg_done rfl ?_
              have hst : ((alls l ((srtS (vs l l.length)).take i)) ++ (srt (l.filter (bq l ((ix ((srtS (vs l l.length))) i)))))) = alls l ((srtS (vs l l.length)).take (i + 1)) := alls_up (by omega)
              show ∃ i, _ ∧ _ ∧ Imp _ _ _ _ _
              refine ⟨i + 1, (by omega), by omega, imp_ren (fun m => bif Nat.beq m 101 then 103 else m) rfl ⟨rfl, rfl, rfl, (by first | rfl | exact ci (by omega) | exact ci (by simp) | exact cd (by simp) | simp), rfl, trivial⟩ ⟨(congrArg (fun z => Ob.tr 24 8 (tD ePsg z)) hst), trivial⟩⟩
      · skip
        refine dr_put (d := 27) (v := .d (.fl undef)) rfl (on rfl rfl rfl h6) ?_
        refine dr_put (d := 28) (v := .d (.fl undef)) rfl (on rfl rfl rfl h6) ?_
        refine dr_put (d := 29) (v := .d (.fl undef)) rfl (on rfl rfl rfl h6) ?_
        refine dr_put (d := 30) (v := .d (.fl undef)) rfl (ou rfl rfl rfl) ?_
        refine dr_put (d := 31) (v := .d (.fl undef)) rfl (ou rfl rfl rfl) ?_
        refine dr_put (d := 32) (v := .d (.fl undef)) rfl (ou rfl rfl rfl) ?_
        refine dr_put (d := 33) (v := .d (.fl undef)) rfl (ou rfl rfl rfl) ?_
        refine dr_put (d := 34) (v := .d (.fl undef)) rfl (ou rfl rfl rfl) ?_
        refine dr_put (d := 35) (v := .d (.fl undef)) rfl (ou rfl rfl rfl) ?_
        refine dr_put (d := 36) (v := .d (.fl undef)) rfl (ou rfl rfl rfl) ?_
        refine dr_put (d := 37) (v := .d (.fl undef)) rfl (ou rfl rfl rfl) ?_
        refine dr_put (d := 38) (v := .d (.fl undef)) rfl (ou rfl rfl rfl) ?_
        refine dr_put (d := 39) (v := .d (.fl undef)) rfl (ou rfl rfl rfl) ?_
        refine dr_put (d := 40) (v := .d (.fl undef)) rfl (ou rfl rfl rfl) ?_
        refine dr_put (d := 41) (v := .d (.fl undef)) rfl (on rfl rfl rfl h6) ?_
        refine dr_put (d := 42) (v := .d (.fl (.bool true))) rfl (og rfl (op_pick rfl rfl (by rw [h6]; rfl) rfl)) ?_
        refine dr_done rfl (sepB_of [0, 0, 3, 7, 15, 31, 63, 127, 255, 511, 511, 1535, 4095, 8191, 511, 511, 49663, 115199, 262143, 524287, 1048575, 2097151] (by kernel_rfl)) (by kernel_rfl) ?_
        refine a_condK rfl rfl ?_
        refine a_rseq ?_
        refine rg_put (d := 2) (v := .d (.fl (.bool false))) rfl (og rfl (op_assign rfl rfl rfl)) ?_
        refine rg_done rfl ?_
        refine a_ret ?_
        show ∃ ds, ResL _ _ _ ds ∧ RV.of ds = _
        refine ⟨[.fl (.bool false)], (.cons (.tmp rfl (.d _)) .nil), ?_⟩
        exfalso; have h := (vs_mem _ _ ((srtS_perm _).subset (ix_mem (by omega : i < (srtS (vs l l.length)).length)))).1; rw [show sEq (ix (srtS (vs l l.length)) i) em = true from h6] at h; cases h
    · skip
      have h19 := f_dec h4
      refine a_exit ?_
      show A _ _ _ _ _ _ _
      refine a_rseq ?_
      have hil : i = (srtS (vs l l.length)).length := by omega
      rw [show (alls l ((srtS (vs l l.length)).take i)) = (alls l (srtS (vs l l.length))) from (by rw [hil, List.take_length])]
      refine rg_put (d := 7) (v := .d (.fl (.slice none 0 0))) rfl (og rfl (op_assign rfl rfl rfl)) ?_
      refine rg_done rfl ?_
      refine a_seq ?_
      refine a_rseq ?_
      refine rg_imp (imp_nilT 7 104 24 8 rfl rfl) ?_
      refine rg_put (d := 8) (v := .d (.fl (.int .i64 0))) rfl (og rfl (op_assign rfl rfl rfl)) ?_
      refine rg_done rfl ?_
      refine a_block ?_
      refine a_loop (ι := Nat) (fun k => SS [(0, .d (.sl 8 (List.map ePsg l))), (3, .d (.sl 1 (List.map rS ((srtS (vs l l.length)))))), (4, .ow 101), (5, .d (.fl (.int .i64 (i : Int)))), (11, .d (.fl (.bool ((!(fewP l)))))), (18, .d (.fl (.bool ((decide ((i : Int) < (((srtS (vs l l.length))).length : Int))))))), (8, .d (.fl (.int .i64 (k : Int)))), (7, .ow 104)] [(101, .tr 24 8 (tD ePsg ((alls l (srtS (vs l l.length)))))), (104, .tr 24 8 (tD ePsg (((l.take k).filter wq))))]) (fun k => k ≤ l.length) (fun k => l.length - k) 0 (by omega) (imp_forget rfl ⟨rfl, rfl, rfl, rfl, rfl, rfl, (by first | rfl | exact ci (by omega) | exact ci (by simp) | exact cd (by simp) | simp), (by first | rfl | exact ci (by omega) | exact ci (by simp) | exact cd (by simp) | simp), trivial⟩ ⟨rfl, rfl, trivial⟩) (fun k hok => ?_)
      have hk := hok
      have hfl := fl_len l wq k
      refine a_seq ?_
      refine a_rseq ?_
      refine rg_put (d := 55) (v := .d (.fl (.int .i64 (k : Int)))) rfl (og rfl (op_move rfl rfl rfl)) ?_
      refine rg_put (d := 56) (v := .d (.sl 8 (List.map ePsg l))) rfl (og rfl (op_move rfl rfl rfl)) ?_
      refine rg_put (d := 57) (v := .d (.fl (.int .i64 (l.length : Int)))) rfl (og rfl (s_len rfl Tryz.underlying38 rfl rfl)) ?_
      refine rg_put (d := 58) (v := .d (.fl (.bool ((decide ((k : Int) < (l.length : Int))))))) rfl (og rfl (op_bin rfl rfl rfl (b_lss _ _ _ _) rfl)) ?_
      refine rg_done rfl ?_
      refine a_cond rfl (fun h20 => ?_) (fun h20 => ?_)
      · skip
        have h21 := t_dec h20
        refine a_skip ?_
        show A _ _ _ _ _ _ _
        refine a_seq ?_
        refine a_block ?_
        refine a_rseq ?_
        refine rg_put (d := 61) (v := .d (.sl 8 (List.map ePsg l))) rfl (og rfl (op_move rfl rfl rfl)) ?_
        refine rg_put (d := 62) (v := .d (.fl (.int .i64 (k : Int)))) rfl (og rfl (op_move rfl rfl rfl)) ?_
        refine rg_put (d := 63) (v := .el ((ePsg (ix l k)))) rfl (og rfl (s_index rfl Tryz.underlying38 ti24 rfl rfl (by omega) (row_at (by omega)) rfl)) ?_
        refine rg_put (d := 64) (v := .el ((List.drop 3 ((ePsg (ix l k)))))) rfl (og rfl (of_eff (s_field_el rfl Tryz.underlying24 rfl ti9 rfl rfl rfl) rfl)) ?_
        refine rg_put (d := 65) (v := .d (.fl (.string ((ix l k).tag)))) rfl (og rfl (op_load_el rfl Tryz.underlying9 rfl rfl rfl rfl)) ?_
        refine rg_put (d := 66) (v := .d (.fl (.bool ((!(sEq ((ix l k).tag) (⟨#[]⟩))))))) rfl (og rfl (op_bin rfl rfl rfl (b_sne _ _ _) rfl)) ?_
        refine rg_put (d := 67) (v := .d (.fl (.bool ((!(sEq ((ix l k).tag) (⟨#[]⟩))))))) rfl (og rfl (op_move rfl rfl rfl)) ?_
        rcases fot ((!(sEq ((ix l k).tag) (⟨#[]⟩)))) with h22 | h22
        · skip
          have h23 := f_not h22
          refine rg_put (d := 68) (v := .d (.sl 8 (List.map ePsg l))) rfl (oy rfl rfl rfl h22 (op_move rfl rfl rfl)) ?_
          refine rg_put (d := 69) (v := .d (.fl (.int .i64 (k : Int)))) rfl (oy rfl rfl rfl h22 (op_move rfl rfl rfl)) ?_
          refine rg_put (d := 70) (v := .el ((ePsg (ix l k)))) rfl (oy rfl rfl rfl h22 (s_index rfl Tryz.underlying38 ti24 rfl rfl (by omega) (row_at (by omega)) rfl)) ?_
          refine rg_put (d := 71) (v := .el ((List.drop 4 ((ePsg (ix l k)))))) rfl (oy rfl rfl rfl h22 (of_eff (s_field_el rfl Tryz.underlying24 rfl ti9 rfl rfl rfl) rfl)) ?_
          refine rg_put (d := 72) (v := .d (.fl (.string ((ix l k).plate)))) rfl (oy rfl rfl rfl h22 (op_load_el rfl Tryz.underlying9 rfl rfl rfl rfl)) ?_
          refine rg_put (d := 73) (v := .d (.fl (.bool ((!(sEq ((ix l k).plate) (⟨#[]⟩))))))) rfl (oy rfl rfl rfl h22 (op_bin rfl rfl rfl (b_sne _ _ _) rfl)) ?_
          refine rg_put (d := 74) (v := .d (.fl (.bool ((!(sEq ((ix l k).plate) (⟨#[]⟩))))))) rfl (og rfl (op_pick rfl rfl (by rw [h22]; rfl) rfl)) ?_
          refine rg_done rfl ?_
          refine a_cond rfl (fun h24 => ?_) (fun h24 => ?_)
          · skip
            have h25 := t_not h24
            refine a_region ?_
            refine rg_put (d := 75) (v := .ow 104) rfl (og rfl (op_move rfl rfl rfl)) ?_
            refine rg_put (d := 76) (v := .d (.sl 8 (List.map ePsg l))) rfl (og rfl (op_move rfl rfl rfl)) ?_
            refine rg_put (d := 77) (v := .d (.fl (.int .i64 (k : Int)))) rfl (og rfl (op_move rfl rfl rfl)) ?_
            refine rg_put (d := 78) (v := .el ((ePsg (ix l k)))) rfl (og rfl (s_index rfl Tryz.underlying38 ti24 rfl rfl (by omega) (row_at (by omega)) rfl)) ?_
            refine rg_put (d := 79) (v := .d (.ag (ePsg (ix l k)))) rfl (og rfl (of_eff (s_load_els rfl Tryz.underlying24 rfl ti24 rfl rfl rfl) rfl)) ?_
            refine rg_put (d := 80) (v := .d (.sl 8 (List.map ePsg [(ix l k)]))) rfl (og rfl (of_eff (op_slices rfl Tryz.underlying38 ti24 rfl rfl rfl (by kernel_rfl) (xs := [.ag (ePsg (ix l k))]) rfl rfl (.cons rfl rfl (.d _) rfl rfl rfl .nil) rfl) rfl)) ?_
            refine rg_nam (d := 81) (v := .ow 105) (m := 105) (nw := [(105, .tr 24 8 (tD ePsg ((((l.take k).filter wq) ++ [(ix l k)])))), (104, .no)]) rfl (og rfl (of_eff (s_append_td 105 rfl Tryz.underlying38 ti24 rfl rfl rfl rfl rfl (.d _) (by first | omega | (simp only [List.length_append, List.length_cons, List.length_nil]; omega)) rfl) rfl)) rfl ?_
            refine rg_put (d := 7) (v := .ow 105) rfl (og rfl (op_assign rfl rfl rfl)) ?_
            refine rg_done rfl ?_
            show A _ _ _ _ _ _ _
            refine a_region ?_
            refine rg_put (d := 59) (v := .d (.fl (.int .i64 (k : Int)))) rfl (og rfl (op_move rfl rfl rfl)) ?_
            refine rg_put (d := 60) (v := .d (.fl (.int .i64 (((k : Int) + 1))))) rfl (og rfl (op_bin rfl rfl rfl (fun x y w => b_add64 _ _ _ x y w (by omega)) rfl)) ?_
            refine rg_put (d := 8) (v := .d (.fl (.int .i64 (((k : Int) + 1))))) rfl (og rfl (op_assign rfl rfl rfl)) ?_
            refine rg_done rfl ?_
            have hst : (((l.take k).filter wq) ++ [(ix l k)]) = (l.take (k + 1)).filter wq := fl_yes (by omega) (by show (!(sEq (ix l k).tag em) || !(sEq (ix l k).plate em)) = true; rw [show sEq (ix l k).tag em = true from h23, show sEq (ix l k).plate em = false from h25]; rfl)
            show ∃ i, _ ∧ _ ∧ Imp _ _ _ _ _
            refine ⟨k + 1, (by omega), by omega, imp_ren (fun m => bif Nat.beq m 104 then 105 else m) rfl ⟨rfl, rfl, rfl, rfl, rfl, rfl, (by first | rfl | exact ci (by omega) | exact ci (by simp) | exact cd (by simp) | simp), rfl, trivial⟩ ⟨rfl, (congrArg (fun z => Ob.tr 24 8 (tD ePsg z)) hst), trivial⟩⟩
          · skip
            have h26 := f_not h24
            refine a_skip ?_
            show A _ _ _ _ _ _ _
            refine a_region ?_
            refine rg_put (d := 59) (v := .d (.fl (.int .i64 (k : Int)))) rfl (og rfl (op_move rfl rfl rfl)) ?_
            refine rg_put (d := 60) (v := .d (.fl (.int .i64 (((k : Int) + 1))))) rfl (og rfl (op_bin rfl rfl rfl (fun x y w => b_add64 _ _ _ x y w (by omega)) rfl)) ?_
            refine rg_put (d := 8) (v := .d (.fl (.int .i64 (((k : Int) + 1))))) rfl (og rfl (op_assign rfl rfl rfl)) ?_
            refine rg_done rfl ?_
            have hst : ((l.take k).filter wq) = (l.take (k + 1)).filter wq := fl_no (by omega) (by show (!(sEq (ix l k).tag em) || !(sEq (ix l k).plate em)) = false; rw [show sEq (ix l k).tag em = true from h23, show sEq (ix l k).plate em = true from h26]; rfl)
            show ∃ i, _ ∧ _ ∧ Imp _ _ _ _ _
            refine ⟨k + 1, (by omega), by omega, imp_forget rfl ⟨rfl, rfl, rfl, rfl, rfl, rfl, (by first | rfl | exact ci (by omega) | exact ci (by simp) | exact cd (by simp) | simp), rfl, trivial⟩ ⟨rfl, (congrArg (fun z => Ob.tr 24 8 (tD ePsg z)) hst), trivial⟩⟩
        · skip
          have h27 := t_not h22
          refine rg_put (d := 68) (v := .d (.fl undef)) rfl (on rfl rfl rfl h22) ?_
          refine rg_put (d := 69) (v := .d (.fl undef)) rfl (on rfl rfl rfl h22) ?_
          refine rg_put (d := 70) (v := .d (.fl undef)) rfl (on rfl rfl rfl h22) ?_
          refine rg_put (d := 71) (v := .d (.fl undef)) rfl (on rfl rfl rfl h22) ?_
          refine rg_put (d := 72) (v := .d (.fl undef)) rfl (on rfl rfl rfl h22) ?_
          refine rg_put (d := 73) (v := .d (.fl undef)) rfl (on rfl rfl rfl h22) ?_
          refine rg_put (d := 74) (v := .d (.fl (.bool true))) rfl (og rfl (op_pick rfl rfl (by rw [h22]; rfl) rfl)) ?_
          refine rg_done rfl ?_
          refine a_condK rfl rfl ?_
          refine a_region ?_
          refine rg_put (d := 75) (v := .ow 104) rfl (og rfl (op_move rfl rfl rfl)) ?_
          refine rg_put (d := 76) (v := .d (.sl 8 (List.map ePsg l))) rfl (og rfl (op_move rfl rfl rfl)) ?_
          refine rg_put (d := 77) (v := .d (.fl (.int .i64 (k : Int)))) rfl (og rfl (op_move rfl rfl rfl)) ?_
          refine rg_put (d := 78) (v := .el ((ePsg (ix l k)))) rfl (og rfl (s_index rfl Tryz.underlying38 ti24 rfl rfl (by omega) (row_at (by omega)) rfl)) ?_
          refine rg_put (d := 79) (v := .d (.ag (ePsg (ix l k)))) rfl (og rfl (of_eff (s_load_els rfl Tryz.underlying24 rfl ti24 rfl rfl rfl) rfl)) ?_
          refine rg_put (d := 80) (v := .d (.sl 8 (List.map ePsg [(ix l k)]))) rfl (og rfl (of_eff (op_slices rfl Tryz.underlying38 ti24 rfl rfl rfl (by kernel_rfl) (xs := [.ag (ePsg (ix l k))]) rfl rfl (.cons rfl rfl (.d _) rfl rfl rfl .nil) rfl) rfl)) ?_
          refine rg_nam (d := 81) (v := .ow 106) (m := 106) (nw := [(106, .tr 24 8 (tD ePsg ((((l.take k).filter wq) ++ [(ix l k)])))), (104, .no)]) rfl (og rfl (of_eff (s_append_td 106 rfl Tryz.underlying38 ti24 rfl rfl rfl rfl rfl (.d _) (by first | omega | (simp only [List.length_append, List.length_cons, List.length_nil]; omega)) rfl) rfl)) rfl ?_
          refine rg_put (d := 7) (v := .ow 106) rfl (og rfl (op_assign rfl rfl rfl)) ?_
          refine rg_done rfl ?_
          show A _ _ _ _ _ _ _
          refine a_region ?_
          refine rg_put (d := 59) (v := .d (.fl (.int .i64 (k : Int)))) rfl (og rfl (op_move rfl rfl rfl)) ?_
          refine rg_put (d := 60) (v := .d (.fl (.int .i64 (((k : Int) + 1))))) rfl (og rfl (op_bin rfl rfl rfl (fun x y w => b_add64 _ _ _ x y w (by omega)) rfl)) ?_
          refine rg_put (d := 8) (v := .d (.fl (.int .i64 (((k : Int) + 1))))) rfl (og rfl (op_assign rfl rfl rfl)) ?_
          refine rg_done rfl ?_
          have hst : (((l.take k).filter wq) ++ [(ix l k)]) = (l.take (k + 1)).filter wq := fl_yes (by omega) (by show (!(sEq (ix l k).tag em) || !(sEq (ix l k).plate em)) = true; rw [show sEq (ix l k).tag em = false from h27]; rfl)
          show ∃ i, _ ∧ _ ∧ Imp _ _ _ _ _
          refine ⟨k + 1, (by omega), by omega, imp_ren (fun m => bif Nat.beq m 104 then 106 else m) rfl ⟨rfl, rfl, rfl, rfl, rfl, rfl, (by first | rfl | exact ci (by omega) | exact ci (by simp) | exact cd (by simp) | simp), rfl, trivial⟩ ⟨rfl, (congrArg (fun z => Ob.tr 24 8 (tD ePsg z)) hst), trivial⟩⟩
      · skip
        have h28 := f_dec h20
        refine a_exit ?_
        show A _ _ _ _ _ _ _
        refine a_rseq ?_
        rw [show ((l.take k).filter wq) = (l.filter wq) from (by rw [List.take_of_length_le (by omega)])]
        refine rg_put (d := 82) (v := .ow 101) rfl (og rfl (op_move rfl rfl rfl)) ?_
        refine rg_imp (imp_leakT 82 101 rfl rfl) ?_
        refine rg_put (d := 83) (v := .d (.sl 8 (List.map ePsg ((srt (l.filter wq)))))) rfl (og rfl (op_call rfl Tryz.func22 nm22 rfl (.cons rfl (.d _) .nil) ((show Ctr Tryz.prog 22 [.sl 8 (List.map ePsg (alls l (srtS (vs l l.length))))] (.d (.sl 8 (List.map ePsg (srt (l.filter wq))))) from by rw [← all_want l]; exact sortR (alls l (srtS (vs l l.length))) (by omega) (fun x hx => hsz x (alls_sub hx)))) rfl)) ?_
        refine rg_put (d := 84) (v := .ow 104) rfl (og rfl (op_move rfl rfl rfl)) ?_
        refine rg_imp (imp_leakT 84 104 rfl rfl) ?_
        refine rg_put (d := 85) (v := .d (.sl 8 (List.map ePsg ((srt (l.filter wq)))))) rfl (og rfl (op_call rfl Tryz.func22 nm22 rfl (.cons rfl (.d _) .nil) (sortR (l.filter wq) (by omega) (fun x hx => hsz x (List.mem_filter.1 hx).1)) rfl)) ?_
        refine rg_put (d := 86) (v := .d (.fl (.bool true))) rfl (og rfl (op_call rfl Tryz.func20 nm20 rfl (.cons rfl (.d _) (.cons rfl (.d _) .nil)) (sameR (srt (l.filter wq)) (by omega) (fun x hx => hsz x (List.mem_filter.1 ((srt_perm _).subset hx)).1)) rfl)) ?_
        refine rg_put (d := 87) (v := .d (.fl (.bool true))) rfl (og rfl (op_move rfl rfl rfl)) ?_
        refine rg_put (d := 88) (v := .d (.fl (.bool true))) rfl (oy rfl rfl rfl rfl (op_call rfl Tryz.func12 nm12 rfl .nil aliveT rfl)) ?_
        refine rg_put (d := 89) (v := .d (.fl (.bool true))) rfl (og rfl (op_pick rfl rfl rfl rfl)) ?_
        refine rg_put (d := 2) (v := .d (.fl (.bool true))) rfl (og rfl (op_assign rfl rfl rfl)) ?_
        refine rg_done rfl ?_
        refine a_ret ?_
        show ∃ ds, ResL _ _ _ ds ∧ RV.of ds = _
        refine ⟨[.fl (.bool true)], (.cons (.tmp rfl (.d _)) .nil), ?_⟩
        rfl
end Go.Proofs.YtakmjlpciicaiaaGreatDoor.Wk
