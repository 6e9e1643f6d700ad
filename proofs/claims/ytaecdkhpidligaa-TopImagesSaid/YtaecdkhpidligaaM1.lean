/- Images that are few and short; the program is awake. No condition. -/
import Derived.Test.YtaecdkhpidligaaR13
import Derived.Test.YtaecdkhpidligaaR21
import Derived.Test.YtaecdkhpidligaaB8
set_option linter.unusedSimpArgs false
set_option linter.unusedVariables false
namespace Go.Proofs.Ytaecdkhpidligaa.Wk
open Go Go.RowKit Go.Proofs.Ytaecdkhpidligaa.Av
open Go.Proofs.Ytaecdkhpidligaa.Wr
abbrev CS : ByteArray := ⟨#[99, 97, 115, 101]⟩
def hO (s : ByteArray) : Bool := !(decide ((100 : Int) < (s.size : Int))) && !(sEq s CS)
def picO (im : Im) : Bool := (!(decide ((100 : Int) < (im.id.size : Int))) && !(decide ((4 : Int) < (im.hold.length : Int)))) && im.hold.all hO
def pic (l : List Im) : Bool := l.all picO && decide ((l.length : Int) ≤ 10)
theorem all_no {α : Type} [Inhabited α] {p : α → Bool} {l : List α} {k : Nat} (hk : k < l.length) (h : p (ix l k) = false) : l.all p = false := by
  rw [List.all_eq_false]; exact ⟨_, ix_mem hk, by rw [h]; simp⟩
theorem all_yes {α : Type} [Inhabited α] {p : α → Bool} {l : List α} (h : ∀ q, q < l.length → p (ix l q) = true) : l.all p = true := by
  rw [List.all_eq_true]
  intro x hx
  obtain ⟨j, hj, he⟩ := List.mem_iff_getElem.1 hx
  rw [ix_eq hj] at he
  rw [← he]; exact h j hj
theorem pic_no {l : List Im} {k : Nat} (hk : k < l.length) (h : picO (ix l k) = false) : pic l = false := by unfold pic; rw [all_no hk h]; rfl

set_option maxHeartbeats 4000000 in
set_option maxRecDepth 100000 in
theorem pic4 (l : List Im) (hl : l.length ≤ 9223372036854775807) (hz : ∀ im ∈ l, im.hold.length ≤ 9223372036854775807) : Ctr Try.prog 4 [.sl 5 (List.map eIm l)] (.d (.fl (.bool (pic l)))) := by
  refine ctr (n := 61) (rs := #[.tmp 2]) (L := [(0, .d (.sl 5 (List.map eIm l)))]) Try.func4 rfl rfl rfl rfl rfl (fun w0 U0 => ?_)
  refine a_rseq ?_
  refine rg_put (d := 2) (v := .d (.fl (.bool false))) rfl (og rfl (op_assign rfl rfl rfl)) ?_
  refine rg_done rfl ?_
  refine a_seq ?_
  refine a_rseq ?_
  refine rg_put (d := 3) (v := .d (.fl (.int .i64 0))) rfl (og rfl (op_assign rfl rfl rfl)) ?_
  refine rg_done rfl ?_
  refine a_block ?_
  refine a_loop (ι := Nat) (fun k => SS [(0, .d (.sl 5 (List.map eIm l))), (3, .d (.fl (.int .i64 (k : Int))))] []) (fun k => k ≤ l.length ∧ ∀ q, q < k → picO (ix l q) = true) (fun k => l.length - k) 0 (⟨by omega, fun q h => by omega⟩) (imp_forget rfl ⟨rfl, (by first | rfl | exact ci (by omega) | exact ci (by simp) | exact cd (by simp) | simp), trivial⟩ trivial) (fun k hok => ?_)
  obtain ⟨hk, hq⟩ := hok
  refine a_seq ?_
  refine a_rseq ?_
  refine rg_put (d := 5) (v := .d (.fl (.int .i64 (k : Int)))) rfl (og rfl (op_move rfl rfl rfl)) ?_
  refine rg_put (d := 6) (v := .d (.sl 5 (List.map eIm l))) rfl (og rfl (op_move rfl rfl rfl)) ?_
  refine rg_put (d := 7) (v := .d (.fl (.int .i64 (l.length : Int)))) rfl (og rfl (s_len rfl Try.underlying23 rfl rfl)) ?_
  refine rg_put (d := 8) (v := .d (.fl (.bool ((decide ((k : Int) < (l.length : Int))))))) rfl (og rfl (op_bin rfl rfl rfl (b_lss _ _ _ _) rfl)) ?_
  refine rg_done rfl ?_
  refine a_cond rfl (fun h1 => ?_) (fun h1 => ?_)
  · skip
    have h2 := t_dec h1
    refine a_skip ?_
    show A _ _ _ _ _ _ _
    refine a_seq ?_
    refine a_block ?_
    refine a_seq ?_
    refine a_rseq ?_
    refine rg_put (d := 11) (v := .d (.sl 5 (List.map eIm l))) rfl (og rfl (op_move rfl rfl rfl)) ?_
    refine rg_put (d := 12) (v := .d (.fl (.int .i64 (k : Int)))) rfl (og rfl (op_move rfl rfl rfl)) ?_
    refine rg_put (d := 13) (v := .el ((eIm (ix l k)))) rfl (og rfl (s_index rfl Try.underlying23 ti40 rfl rfl (by omega) (row_at (by omega)) rfl)) ?_
    refine rg_put (d := 14) (v := .el ((List.drop 0 ((eIm (ix l k)))))) rfl (og rfl (of_eff (s_field_el rfl Try.underlying40 rfl ti9 rfl rfl rfl) rfl)) ?_
    refine rg_put (d := 15) (v := .d (.fl (.string ((ix l k).id)))) rfl (og rfl (op_load_el rfl Try.underlying9 rfl rfl rfl rfl)) ?_
    refine rg_put (d := 16) (v := .d (.fl (.int .i64 ((((ix l k).id).size : Int))))) rfl (og rfl (op_len_str rfl Try.underlying9 rfl rfl)) ?_
    refine rg_put (d := 17) (v := .d (.fl (.bool ((decide (100 < (((ix l k).id).size : Int))))))) rfl (og rfl (op_bin rfl rfl rfl (b_gtr _ _ _ _) rfl)) ?_
    refine rg_put (d := 18) (v := .d (.fl (.bool ((decide (100 < (((ix l k).id).size : Int))))))) rfl (og rfl (op_move rfl rfl rfl)) ?_
    rcases fot ((decide (100 < (((ix l k).id).size : Int)))) with h3 | h3
    · skip
      have h4 := f_dec h3
      refine rg_put (d := 19) (v := .d (.sl 5 (List.map eIm l))) rfl (oy rfl rfl rfl h3 (op_move rfl rfl rfl)) ?_
      refine rg_put (d := 20) (v := .d (.fl (.int .i64 (k : Int)))) rfl (oy rfl rfl rfl h3 (op_move rfl rfl rfl)) ?_
      refine rg_put (d := 21) (v := .el ((eIm (ix l k)))) rfl (oy rfl rfl rfl h3 (s_index rfl Try.underlying23 ti40 rfl rfl (by omega) (row_at (by omega)) rfl)) ?_
      refine rg_put (d := 22) (v := .el ((List.drop 3 ((eIm (ix l k)))))) rfl (oy rfl rfl rfl h3 (of_eff (s_field_el rfl Try.underlying40 rfl ti33 rfl rfl rfl) rfl)) ?_
      refine rg_put (d := 23) (v := .d (.sl 1 (List.map rS ((ix l k).hold)))) rfl (oy rfl rfl rfl h3 (op_load_el rfl Try.underlying33 rfl rfl rfl rfl)) ?_
      refine rg_put (d := 24) (v := .d (.fl (.int .i64 ((((ix l k).hold).length : Int))))) rfl (oy rfl rfl rfl h3 (s_len rfl Try.underlying33 rfl rfl)) ?_
      refine rg_put (d := 25) (v := .d (.fl (.bool ((decide (4 < (((ix l k).hold).length : Int))))))) rfl (oy rfl rfl rfl h3 (op_bin rfl rfl rfl (b_gtr _ _ _ _) rfl)) ?_
      refine rg_put (d := 26) (v := .d (.fl (.bool ((decide (4 < (((ix l k).hold).length : Int))))))) rfl (og rfl (op_pick rfl rfl (by rw [h3]; rfl) rfl)) ?_
      refine rg_done rfl ?_
      refine a_cond rfl (fun h5 => ?_) (fun h5 => ?_)
      · skip
        have h6 := t_dec h5
        refine a_rseq ?_
        refine rg_put (d := 2) (v := .d (.fl (.bool false))) rfl (og rfl (op_assign rfl rfl rfl)) ?_
        refine rg_done rfl ?_
        refine a_ret ?_
        show ∃ ds, ResL _ _ _ ds ∧ RV.of ds = _
        refine ⟨[.fl (.bool false)], (.cons (.tmp rfl (.d _)) .nil), ?_⟩
        have hx : picO (ix l k) = false := by unfold picO; simp only [h1, h3, h5]; rfl
        rw [pic_no (by omega) hx]; rfl
      · skip
        have h7 := f_dec h5
        refine a_skip ?_
        show A _ _ _ _ _ _ _
        refine a_rseq ?_
        refine rg_put (d := 4) (v := .d (.fl (.int .i64 0))) rfl (og rfl (op_assign rfl rfl rfl)) ?_
        refine rg_done rfl ?_
        refine a_block ?_
        refine a_loop (ι := Nat) (fun j => SS [(0, .d (.sl 5 (List.map eIm l))), (3, .d (.fl (.int .i64 (k : Int)))), (8, .d (.fl (.bool ((decide ((k : Int) < (l.length : Int))))))), (26, .d (.fl (.bool ((decide (4 < (((ix l k).hold).length : Int))))))), (4, .d (.fl (.int .i64 (j : Int))))] []) (fun j => j ≤ (ix l k).hold.length ∧ ∀ q, q < j → hO (ix (ix l k).hold q) = true) (fun j => (ix l k).hold.length - j) 0 (⟨by omega, fun q h => by omega⟩) (imp_forget rfl ⟨rfl, rfl, rfl, rfl, (by first | rfl | exact ci (by omega) | exact ci (by simp) | exact cd (by simp) | simp), trivial⟩ trivial) (fun j hok => ?_)
        obtain ⟨hj, hp⟩ := hok
        have hzk := hz _ (ix_mem (l := l) (k := k) (by omega))
        refine a_seq ?_
        refine a_rseq ?_
        refine rg_put (d := 27) (v := .d (.fl (.int .i64 (j : Int)))) rfl (og rfl (op_move rfl rfl rfl)) ?_
        refine rg_put (d := 28) (v := .d (.sl 5 (List.map eIm l))) rfl (og rfl (op_move rfl rfl rfl)) ?_
        refine rg_put (d := 29) (v := .d (.fl (.int .i64 (k : Int)))) rfl (og rfl (op_move rfl rfl rfl)) ?_
        refine rg_put (d := 30) (v := .el ((eIm (ix l k)))) rfl (og rfl (s_index rfl Try.underlying23 ti40 rfl rfl (by omega) (row_at (by omega)) rfl)) ?_
        refine rg_put (d := 31) (v := .el ((List.drop 3 ((eIm (ix l k)))))) rfl (og rfl (of_eff (s_field_el rfl Try.underlying40 rfl ti33 rfl rfl rfl) rfl)) ?_
        refine rg_put (d := 32) (v := .d (.sl 1 (List.map rS ((ix l k).hold)))) rfl (og rfl (op_load_el rfl Try.underlying33 rfl rfl rfl rfl)) ?_
        refine rg_put (d := 33) (v := .d (.fl (.int .i64 ((((ix l k).hold).length : Int))))) rfl (og rfl (s_len rfl Try.underlying33 rfl rfl)) ?_
        refine rg_put (d := 34) (v := .d (.fl (.bool ((decide ((j : Int) < (((ix l k).hold).length : Int))))))) rfl (og rfl (op_bin rfl rfl rfl (b_lss _ _ _ _) rfl)) ?_
        refine rg_done rfl ?_
        refine a_cond rfl (fun h8 => ?_) (fun h8 => ?_)
        · skip
          have h9 := t_dec h8
          refine a_skip ?_
          show A _ _ _ _ _ _ _
          refine a_seq ?_
          refine a_block ?_
          refine a_rseq ?_
          refine rg_put (d := 37) (v := .d (.sl 5 (List.map eIm l))) rfl (og rfl (op_move rfl rfl rfl)) ?_
          refine rg_put (d := 38) (v := .d (.fl (.int .i64 (k : Int)))) rfl (og rfl (op_move rfl rfl rfl)) ?_
          refine rg_put (d := 39) (v := .el ((eIm (ix l k)))) rfl (og rfl (s_index rfl Try.underlying23 ti40 rfl rfl (by omega) (row_at (by omega)) rfl)) ?_
          refine rg_put (d := 40) (v := .el ((List.drop 3 ((eIm (ix l k)))))) rfl (og rfl (of_eff (s_field_el rfl Try.underlying40 rfl ti33 rfl rfl rfl) rfl)) ?_
          refine rg_put (d := 41) (v := .d (.sl 1 (List.map rS ((ix l k).hold)))) rfl (og rfl (op_load_el rfl Try.underlying33 rfl rfl rfl rfl)) ?_
          refine rg_put (d := 42) (v := .d (.fl (.int .i64 (j : Int)))) rfl (og rfl (op_move rfl rfl rfl)) ?_
          refine rg_put (d := 43) (v := .el ((rS ((ix ((ix l k).hold) j))))) rfl (og rfl (s_index rfl Try.underlying33 ti9 rfl rfl (by omega) (row_at (by omega)) rfl)) ?_
          refine rg_put (d := 44) (v := .d (.fl (.string ((ix ((ix l k).hold) j))))) rfl (og rfl (op_load_el rfl Try.underlying9 rfl rfl rfl rfl)) ?_
          refine rg_put (d := 45) (v := .d (.fl (.int .i64 ((((ix ((ix l k).hold) j)).size : Int))))) rfl (og rfl (op_len_str rfl Try.underlying9 rfl rfl)) ?_
          refine rg_put (d := 46) (v := .d (.fl (.bool ((decide (100 < (((ix ((ix l k).hold) j)).size : Int))))))) rfl (og rfl (op_bin rfl rfl rfl (b_gtr _ _ _ _) rfl)) ?_
          refine rg_put (d := 47) (v := .d (.fl (.bool ((decide (100 < (((ix ((ix l k).hold) j)).size : Int))))))) rfl (og rfl (op_move rfl rfl rfl)) ?_
          rcases fot ((decide (100 < (((ix ((ix l k).hold) j)).size : Int)))) with h10 | h10
          · skip
            have h11 := f_dec h10
            refine rg_put (d := 48) (v := .d (.sl 5 (List.map eIm l))) rfl (oy rfl rfl rfl h10 (op_move rfl rfl rfl)) ?_
            refine rg_put (d := 49) (v := .d (.fl (.int .i64 (k : Int)))) rfl (oy rfl rfl rfl h10 (op_move rfl rfl rfl)) ?_
            refine rg_put (d := 50) (v := .el ((eIm (ix l k)))) rfl (oy rfl rfl rfl h10 (s_index rfl Try.underlying23 ti40 rfl rfl (by omega) (row_at (by omega)) rfl)) ?_
            refine rg_put (d := 51) (v := .el ((List.drop 3 ((eIm (ix l k)))))) rfl (oy rfl rfl rfl h10 (of_eff (s_field_el rfl Try.underlying40 rfl ti33 rfl rfl rfl) rfl)) ?_
            refine rg_put (d := 52) (v := .d (.sl 1 (List.map rS ((ix l k).hold)))) rfl (oy rfl rfl rfl h10 (op_load_el rfl Try.underlying33 rfl rfl rfl rfl)) ?_
            refine rg_put (d := 53) (v := .d (.fl (.int .i64 (j : Int)))) rfl (oy rfl rfl rfl h10 (op_move rfl rfl rfl)) ?_
            refine rg_put (d := 54) (v := .el ((rS ((ix ((ix l k).hold) j))))) rfl (oy rfl rfl rfl h10 (s_index rfl Try.underlying33 ti9 rfl rfl (by omega) (row_at (by omega)) rfl)) ?_
            refine rg_put (d := 55) (v := .d (.fl (.string ((ix ((ix l k).hold) j))))) rfl (oy rfl rfl rfl h10 (op_load_el rfl Try.underlying9 rfl rfl rfl rfl)) ?_
            refine rg_put (d := 56) (v := .d (.fl (.bool ((sEq ((ix ((ix l k).hold) j)) (⟨#[99, 97, 115, 101]⟩)))))) rfl (oy rfl rfl rfl h10 (op_bin rfl rfl rfl (b_seq _ _ _) rfl)) ?_
            refine rg_put (d := 57) (v := .d (.fl (.bool ((sEq ((ix ((ix l k).hold) j)) (⟨#[99, 97, 115, 101]⟩)))))) rfl (og rfl (op_pick rfl rfl (by rw [h10]; rfl) rfl)) ?_
            refine rg_done rfl ?_
            refine a_cond rfl (fun h12 => ?_) (fun h12 => ?_)
            · skip
              refine a_rseq ?_
              refine rg_put (d := 2) (v := .d (.fl (.bool false))) rfl (og rfl (op_assign rfl rfl rfl)) ?_
              refine rg_done rfl ?_
              refine a_ret ?_
              show ∃ ds, ResL _ _ _ ds ∧ RV.of ds = _
              refine ⟨[.fl (.bool false)], (.cons (.tmp rfl (.d _)) .nil), ?_⟩
              have hy : hO (ix (ix l k).hold j) = false := by unfold hO; simp only [h1, h3, h5, h8, h10, h12]; rfl
              have hx : picO (ix l k) = false := by unfold picO; rw [all_no (p := hO) (l := (ix l k).hold) (k := j) (by omega) hy, Bool.and_false]
              rw [pic_no (by omega) hx]; rfl
            · skip
              refine a_skip ?_
              show A _ _ _ _ _ _ _
              refine a_region ?_
              refine rg_put (d := 35) (v := .d (.fl (.int .i64 (j : Int)))) rfl (og rfl (op_move rfl rfl rfl)) ?_
              refine rg_put (d := 36) (v := .d (.fl (.int .i64 (((j : Int) + 1))))) rfl (og rfl (op_bin rfl rfl rfl (fun x y w => b_add64 _ _ _ x y w (by omega)) rfl)) ?_
              refine rg_put (d := 4) (v := .d (.fl (.int .i64 (((j : Int) + 1))))) rfl (og rfl (op_assign rfl rfl rfl)) ?_
              refine rg_done rfl ?_
              have hy : hO (ix (ix l k).hold j) = true := by unfold hO; simp only [h1, h3, h5, h8, h10, h12]; rfl
              show ∃ i, _ ∧ _ ∧ Imp _ _ _ _ _
              refine ⟨j + 1, ⟨by omega, fun q h => (Nat.lt_succ_iff_lt_or_eq.1 h).elim (hp q) (fun e => by rw [e]; exact hy)⟩, by omega, imp_forget rfl ⟨rfl, rfl, rfl, rfl, (by first | rfl | exact ci (by omega) | exact ci (by simp) | exact cd (by simp) | simp), trivial⟩ trivial⟩
          · skip
            have h13 := t_dec h10
            refine rg_put (d := 48) (v := .d (.fl undef)) rfl (on rfl rfl rfl h10) ?_
            refine rg_put (d := 49) (v := .d (.fl undef)) rfl (on rfl rfl rfl h10) ?_
            refine rg_put (d := 50) (v := .d (.fl undef)) rfl (on rfl rfl rfl h10) ?_
            refine rg_put (d := 51) (v := .d (.fl undef)) rfl (on rfl rfl rfl h10) ?_
            refine rg_put (d := 52) (v := .d (.fl undef)) rfl (on rfl rfl rfl h10) ?_
            refine rg_put (d := 53) (v := .d (.fl undef)) rfl (on rfl rfl rfl h10) ?_
            refine rg_put (d := 54) (v := .d (.fl undef)) rfl (on rfl rfl rfl h10) ?_
            refine rg_put (d := 55) (v := .d (.fl undef)) rfl (on rfl rfl rfl h10) ?_
            refine rg_put (d := 56) (v := .d (.fl undef)) rfl (on rfl rfl rfl h10) ?_
            refine rg_put (d := 57) (v := .d (.fl (.bool true))) rfl (og rfl (op_pick rfl rfl (by rw [h10]; rfl) rfl)) ?_
            refine rg_done rfl ?_
            refine a_condK rfl rfl ?_
            refine a_rseq ?_
            refine rg_put (d := 2) (v := .d (.fl (.bool false))) rfl (og rfl (op_assign rfl rfl rfl)) ?_
            refine rg_done rfl ?_
            refine a_ret ?_
            show ∃ ds, ResL _ _ _ ds ∧ RV.of ds = _
            refine ⟨[.fl (.bool false)], (.cons (.tmp rfl (.d _)) .nil), ?_⟩
            have hy : hO (ix (ix l k).hold j) = false := by unfold hO; simp only [h1, h3, h5, h8, h10]; rfl
            have hx : picO (ix l k) = false := by unfold picO; rw [all_no (p := hO) (l := (ix l k).hold) (k := j) (by omega) hy, Bool.and_false]
            rw [pic_no (by omega) hx]; rfl
        · skip
          have h14 := f_dec h8
          refine a_exit ?_
          show A _ _ _ _ _ _ _
          refine a_region ?_
          refine rg_put (d := 9) (v := .d (.fl (.int .i64 (k : Int)))) rfl (og rfl (op_move rfl rfl rfl)) ?_
          refine rg_put (d := 10) (v := .d (.fl (.int .i64 (((k : Int) + 1))))) rfl (og rfl (op_bin rfl rfl rfl (fun x y w => b_add64 _ _ _ x y w (by omega)) rfl)) ?_
          refine rg_put (d := 3) (v := .d (.fl (.int .i64 (((k : Int) + 1))))) rfl (og rfl (op_assign rfl rfl rfl)) ?_
          refine rg_done rfl ?_
          have hx : picO (ix l k) = true := by unfold picO; rw [all_yes (p := hO) (l := (ix l k).hold) (fun q h => hp q (by omega))]; simp only [h1, h3, h5, h8]; rfl
          show ∃ i, _ ∧ _ ∧ Imp _ _ _ _ _
          refine ⟨k + 1, ⟨by omega, fun q h => (Nat.lt_succ_iff_lt_or_eq.1 h).elim (hq q) (fun e => by rw [e]; exact hx)⟩, by omega, imp_forget rfl ⟨rfl, (by first | rfl | exact ci (by omega) | exact ci (by simp) | exact cd (by simp) | simp), trivial⟩ trivial⟩
    · skip
      have h15 := t_dec h3
      refine rg_put (d := 19) (v := .d (.fl undef)) rfl (on rfl rfl rfl h3) ?_
      refine rg_put (d := 20) (v := .d (.fl undef)) rfl (on rfl rfl rfl h3) ?_
      refine rg_put (d := 21) (v := .d (.fl undef)) rfl (on rfl rfl rfl h3) ?_
      refine rg_put (d := 22) (v := .d (.fl undef)) rfl (on rfl rfl rfl h3) ?_
      refine rg_put (d := 23) (v := .d (.fl undef)) rfl (on rfl rfl rfl h3) ?_
      refine rg_put (d := 24) (v := .d (.fl undef)) rfl (on rfl rfl rfl h3) ?_
      refine rg_put (d := 25) (v := .d (.fl undef)) rfl (on rfl rfl rfl h3) ?_
      refine rg_put (d := 26) (v := .d (.fl (.bool true))) rfl (og rfl (op_pick rfl rfl (by rw [h3]; rfl) rfl)) ?_
      refine rg_done rfl ?_
      refine a_condK rfl rfl ?_
      refine a_rseq ?_
      refine rg_put (d := 2) (v := .d (.fl (.bool false))) rfl (og rfl (op_assign rfl rfl rfl)) ?_
      refine rg_done rfl ?_
      refine a_ret ?_
      show ∃ ds, ResL _ _ _ ds ∧ RV.of ds = _
      refine ⟨[.fl (.bool false)], (.cons (.tmp rfl (.d _)) .nil), ?_⟩
      have hx : picO (ix l k) = false := by unfold picO; simp only [h1, h3]; rfl
      rw [pic_no (by omega) hx]; rfl
  · skip
    have h16 := f_dec h1
    refine a_exit ?_
    show A _ _ _ _ _ _ _
    refine a_rseq ?_
    refine rg_put (d := 58) (v := .d (.sl 5 (List.map eIm l))) rfl (og rfl (op_move rfl rfl rfl)) ?_
    refine rg_put (d := 59) (v := .d (.fl (.int .i64 (l.length : Int)))) rfl (og rfl (s_len rfl Try.underlying23 rfl rfl)) ?_
    refine rg_put (d := 60) (v := .d (.fl (.bool ((decide ((l.length : Int) ≤ 10)))))) rfl (og rfl (op_bin rfl rfl rfl (b_leq _ _ _ _) rfl)) ?_
    refine rg_put (d := 2) (v := .d (.fl (.bool ((decide ((l.length : Int) ≤ 10)))))) rfl (og rfl (op_assign rfl rfl rfl)) ?_
    refine rg_done rfl ?_
    refine a_ret ?_
    show ∃ ds, ResL _ _ _ ds ∧ RV.of ds = _
    refine ⟨[.fl (.bool ((decide ((l.length : Int) ≤ 10))))], (.cons (.tmp rfl (.d _)) .nil), ?_⟩
    have hall := all_yes (p := picO) (l := l) (fun q h => hq q (by omega))
    have hu : pic l = ((decide ((l.length : Int) ≤ 10))) := by unfold pic; rw [hall, Bool.true_and]
    rw [hu]; rfl
abbrev aL : List Kp := [Kp.mk 1 10 0]
abbrev aI : Im := Im.mk ⟨#[97]⟩ 5 1 [] 0
abbrev aJ : Im := Im.mk ⟨#[97]⟩ 5 1 [CS] 0
abbrev aP : Pk := Pk.mk ⟨#[118, 49]⟩ [aJ] [12907000074502061786]
theorem awb : ([aI] : List Im).length ≤ 1000 ∧ ∀ q, q < ([aI] : List Im).length → (ix [aI] q).hold.length ≤ 1000 := ⟨by decide, fun q h => by
  have : q = 0 := by simpa using h
  subst this; decide⟩
theorem awc : ([aJ] : List Im).length ≤ 1000 ∧ ∀ q, q < ([aJ] : List Im).length → (ix [aJ] q).hold.length ≤ 1000 := ⟨by decide, fun q h => by
  have : q = 0 := by simpa using h
  subst this; decide⟩
theorem aw1 : purge aL [aI] [0] 15 = (([], [⟨#[97]⟩]), 0) := by kernel_rfl
theorem aw2 : hld [aI] ⟨#[97]⟩ CS = ([aJ], 0) := by kernel_rfl
theorem aw3 : purge aL [aJ] [0] 15 = (([aJ], []), 0) := by kernel_rfl
theorem aw4 : bld ⟨#[118, 49]⟩ [aJ] = (aP, 0) := by kernel_rfl
theorem okJ : Okd aJ := ⟨by decide, by decide, by decide, ⟨by decide, by decide⟩, ⟨by decide, by decide⟩, by decide⟩
theorem okJ1 : ∀ im ∈ [aJ], Okd im := fun im h => by rw [List.mem_singleton.1 h]; exact okJ
theorem okP : Okp aP := ⟨by decide, by decide, by decide, okJ1, by decide⟩
theorem aw5 : lEq aP.chain (fits aP.case aP.images) = true := by kernel_rfl
theorem au1 : Ctr Try.prog 7 [.sl 3 (List.map eKp aL), .sl 5 (List.map eIm [aI]), .sl 1 (List.map (rI .i64) [0]), .fl (.int .i64 15)] (.tu [.sl 5 (List.map eIm []), .sl 1 (List.map rS [⟨#[97]⟩]), .fl (.int .i64 0)]) := by
  have := ret_purge aL [aI] [0] 15 awb.1 awb.2
  rw [aw1] at this; exact this
theorem au2 : Ctr Try.prog 8 [.sl 5 (List.map eIm [aI]), .fl (.string ⟨#[97]⟩), .fl (.string CS)] (.tu [.sl 5 (List.map eIm [aJ]), .fl (.int .i64 0)]) := by
  have := ret_hold [aI] ⟨#[97]⟩ CS awb.1 awb.2
  rw [aw2] at this; exact this
theorem au3 : Ctr Try.prog 7 [.sl 3 (List.map eKp aL), .sl 5 (List.map eIm [aJ]), .sl 1 (List.map (rI .i64) [0]), .fl (.int .i64 15)] (.tu [.sl 5 (List.map eIm [aJ]), .sl 1 (List.map rS []), .fl (.int .i64 0)]) := by
  have := ret_purge aL [aJ] [0] 15 awc.1 awc.2
  rw [aw3] at this; exact this
theorem au4 : Ctr Try.prog 6 [.fl (.string ⟨#[118, 49]⟩), .sl 5 (List.map eIm [aJ])] (.tu [.ag (ePk aP), .fl (.int .i64 0)]) := by
  have := build15 ⟨#[118, 49]⟩ [aJ] (by decide) (by decide) okJ1
  rw [aw4] at this; exact this
theorem au5 : Ctr Try.prog 9 [.ag (ePk aP)] (.d (.fl (.bool true))) := by
  have := verify20 aP okP
  rw [aw5] at this; exact this

set_option maxHeartbeats 4000000 in
set_option maxRecDepth 100000 in
theorem awake5  : Ctr Try.prog 5 [] (.d (.fl (.bool true))) := by
  refine ctr (n := 81) (rs := #[.tmp 0]) (L := []) Try.func5 rfl rfl rfl rfl rfl (fun w0 U0 => ?_)
  refine a_rseq ?_
  refine rg_put (d := 0) (v := .d (.fl (.bool false))) rfl (og rfl (op_assign rfl rfl rfl)) ?_
  refine rg_done rfl ?_
  refine a_rseq ?_
  refine rg_put (d := 13) (v := .d (.ag (eKp (Kp.mk 1 10 0)))) rfl (og rfl (of_eff (op_build rfl Try.underlying44 ti44 rfl (by kernel_rfl) (by kernel_rfl) (pl := #[(0, 1), (1, 1), (2, 1)]) (by kernel_rfl) (.cons rfl rfl (.d _) rfl rfl rfl (.cons rfl rfl (.d _) rfl rfl rfl .nil)) rfl) rfl)) ?_
  refine rg_put (d := 14) (v := .d (.sl 3 (List.map eKp [(Kp.mk 1 10 0)]))) rfl (og rfl (of_eff (op_slices rfl Try.underlying22 ti44 rfl rfl rfl (by kernel_rfl) (xs := [.ag (eKp (Kp.mk 1 10 0))]) rfl rfl (.cons rfl rfl (.d _) rfl rfl rfl .nil) rfl) rfl)) ?_
  refine rg_put (d := 1) (v := .d (.sl 3 (List.map eKp [(Kp.mk 1 10 0)]))) rfl (og rfl (op_assign rfl rfl rfl)) ?_
  refine rg_done rfl ?_
  refine a_rseq ?_
  refine rg_put (d := 15) (v := .d (.ag [.fl (.string (⟨#[97]⟩)), .fl (.int .i64 5), .fl (.int .i64 1), .fl (.slice none 0 0), .fl (.int .u64 0)])) rfl (og rfl (of_eff (op_build rfl Try.underlying40 ti40 rfl (by kernel_rfl) (by kernel_rfl) (pl := #[(0, 1), (1, 1), (2, 1), (3, 1), (4, 1)]) (by kernel_rfl) (.cons rfl rfl (.d _) rfl rfl rfl (.cons rfl rfl (.d _) rfl rfl rfl (.cons rfl rfl (.d _) rfl rfl rfl .nil))) rfl) rfl)) ?_
  refine rg_put (d := 16) (v := .d (.sl 5 (List.map eIm ([(Im.mk (⟨#[97]⟩) 5 1 [] 0)])))) rfl (og rfl (of_eff (op_slices rfl Try.underlying23 ti40 rfl rfl rfl (by kernel_rfl) (xs := [.ag [.fl (.string (⟨#[97]⟩)), .fl (.int .i64 5), .fl (.int .i64 1), .sl 1 (List.map rS []), .fl (.int .u64 0)]]) rfl rfl (.cons rfl rfl (.cv (Cv.ag (xs := [.fl (.string (⟨#[97]⟩)), .fl (.int .i64 5), .fl (.int .i64 1), .fl (.slice none 0 0), .fl (.int .u64 0)]) (ys := [.fl (.string (⟨#[97]⟩)), .fl (.int .i64 5), .fl (.int .i64 1), .sl 1 (List.map rS []), .fl (.int .u64 0)]) ⟨Cv.refl _, Cv.refl _, Cv.refl _, Cv.nil _, Cv.refl _, trivial⟩)) rfl rfl rfl .nil) rfl) rfl)) ?_
  refine rg_put (d := 2) (v := .d (.sl 5 (List.map eIm ([(Im.mk (⟨#[97]⟩) 5 1 [] 0)])))) rfl (og rfl (op_assign rfl rfl rfl)) ?_
  refine rg_done rfl ?_
  refine a_rseq ?_
  refine rg_put (d := 18) (v := .d (.sl 3 (List.map eKp [(Kp.mk 1 10 0)]))) rfl (og rfl (op_move rfl rfl rfl)) ?_
  refine rg_put (d := 19) (v := .d (.sl 5 (List.map eIm ([(Im.mk (⟨#[97]⟩) 5 1 [] 0)])))) rfl (og rfl (op_move rfl rfl rfl)) ?_
  refine rg_put (d := 20) (v := .d (.sl 1 (List.map (rI .i64) [0]))) rfl (og rfl (of_eff (op_slices rfl Try.underlying24 ti3 rfl rfl rfl (by kernel_rfl) (xs := [.fl (.int .i64 0)]) rfl rfl (.cons rfl rfl (.d _) rfl rfl rfl .nil) rfl) rfl)) ?_
  refine rg_put (d := 21) (v := .tu [.sl 5 (List.map eIm ([] : List Im)), .sl 1 (List.map rS ([⟨#[97]⟩] : List ByteArray)), .fl (.int .i64 0)]) rfl (og rfl (op_call rfl Try.func7 nm7 rfl (.cons rfl (.d _) (.cons rfl (.d _) (.cons rfl (.d _) (.cons rfl (.d _) .nil)))) au1 rfl)) ?_
  refine rg_put (d := 17) (v := .tu [.sl 5 (List.map eIm ([] : List Im)), .sl 1 (List.map rS ([⟨#[97]⟩] : List ByteArray)), .fl (.int .i64 0)]) rfl (og rfl (op_move rfl rfl rfl)) ?_
  refine rg_put (d := 22) (v := .d (.sl 5 (List.map eIm ([] : List Im)))) rfl (og rfl (op_extract rfl rfl rfl rfl)) ?_
  refine rg_put (d := 23) (v := .d (.sl 1 (List.map rS ([⟨#[97]⟩] : List ByteArray)))) rfl (og rfl (op_extract rfl rfl rfl rfl)) ?_
  refine rg_put (d := 24) (v := .d (.fl (.int .i64 0))) rfl (og rfl (op_extract rfl rfl rfl rfl)) ?_
  refine rg_put (d := 3) (v := .d (.sl 5 (List.map eIm ([] : List Im)))) rfl (og rfl (op_assign rfl rfl rfl)) ?_
  refine rg_put (d := 4) (v := .d (.sl 1 (List.map rS ([⟨#[97]⟩] : List ByteArray)))) rfl (og rfl (op_assign rfl rfl rfl)) ?_
  refine rg_put (d := 5) (v := .d (.fl (.int .i64 0))) rfl (og rfl (op_assign rfl rfl rfl)) ?_
  refine rg_done rfl ?_
  refine a_rseq ?_
  refine rg_put (d := 26) (v := .d (.sl 5 (List.map eIm ([(Im.mk (⟨#[97]⟩) 5 1 [] 0)])))) rfl (og rfl (op_move rfl rfl rfl)) ?_
  refine rg_put (d := 27) (v := .tu [.sl 5 (List.map eIm [aJ]), .fl (.int .i64 0)]) rfl (og rfl (op_call rfl Try.func8 nm8 rfl (.cons rfl (.d _) (.cons rfl (.d _) (.cons rfl (.d _) .nil))) au2 rfl)) ?_
  refine rg_put (d := 25) (v := .tu [.sl 5 (List.map eIm [aJ]), .fl (.int .i64 0)]) rfl (og rfl (op_move rfl rfl rfl)) ?_
  refine rg_put (d := 28) (v := .d (.sl 5 (List.map eIm [aJ]))) rfl (og rfl (op_extract rfl rfl rfl rfl)) ?_
  refine rg_put (d := 29) (v := .d (.fl (.int .i64 0))) rfl (og rfl (op_extract rfl rfl rfl rfl)) ?_
  refine rg_put (d := 6) (v := .d (.sl 5 (List.map eIm [aJ]))) rfl (og rfl (op_assign rfl rfl rfl)) ?_
  refine rg_put (d := 7) (v := .d (.fl (.int .i64 0))) rfl (og rfl (op_assign rfl rfl rfl)) ?_
  refine rg_done rfl ?_
  refine a_rseq ?_
  refine rg_put (d := 31) (v := .d (.sl 3 (List.map eKp [(Kp.mk 1 10 0)]))) rfl (og rfl (op_move rfl rfl rfl)) ?_
  refine rg_put (d := 32) (v := .d (.sl 5 (List.map eIm [aJ]))) rfl (og rfl (op_move rfl rfl rfl)) ?_
  refine rg_put (d := 33) (v := .d (.sl 1 (List.map (rI .i64) [0]))) rfl (og rfl (of_eff (op_slices rfl Try.underlying24 ti3 rfl rfl rfl (by kernel_rfl) (xs := [.fl (.int .i64 0)]) rfl rfl (.cons rfl rfl (.d _) rfl rfl rfl .nil) rfl) rfl)) ?_
  refine rg_put (d := 34) (v := .tu [.sl 5 (List.map eIm [aJ]), .sl 1 (List.map rS ([] : List ByteArray)), .fl (.int .i64 0)]) rfl (og rfl (op_call rfl Try.func7 nm7 rfl (.cons rfl (.d _) (.cons rfl (.d _) (.cons rfl (.d _) (.cons rfl (.d _) .nil)))) au3 rfl)) ?_
  refine rg_put (d := 30) (v := .tu [.sl 5 (List.map eIm [aJ]), .sl 1 (List.map rS ([] : List ByteArray)), .fl (.int .i64 0)]) rfl (og rfl (op_move rfl rfl rfl)) ?_
  refine rg_put (d := 35) (v := .d (.sl 5 (List.map eIm [aJ]))) rfl (og rfl (op_extract rfl rfl rfl rfl)) ?_
  refine rg_put (d := 36) (v := .d (.sl 1 (List.map rS ([] : List ByteArray)))) rfl (og rfl (op_extract rfl rfl rfl rfl)) ?_
  refine rg_put (d := 37) (v := .d (.fl (.int .i64 0))) rfl (og rfl (op_extract rfl rfl rfl rfl)) ?_
  refine rg_put (d := 8) (v := .d (.sl 5 (List.map eIm [aJ]))) rfl (og rfl (op_assign rfl rfl rfl)) ?_
  refine rg_put (d := 9) (v := .d (.sl 1 (List.map rS ([] : List ByteArray)))) rfl (og rfl (op_assign rfl rfl rfl)) ?_
  refine rg_put (d := 10) (v := .d (.fl (.int .i64 0))) rfl (og rfl (op_assign rfl rfl rfl)) ?_
  refine rg_done rfl ?_
  refine a_rseq ?_
  refine rg_put (d := 39) (v := .d (.sl 5 (List.map eIm [aJ]))) rfl (og rfl (op_move rfl rfl rfl)) ?_
  refine rg_put (d := 40) (v := .tu [.ag (ePk aP), .fl (.int .i64 0)]) rfl (og rfl (op_call rfl Try.func6 nm6 rfl (.cons rfl (.d _) (.cons rfl (.d _) .nil)) au4 rfl)) ?_
  refine rg_put (d := 38) (v := .tu [.ag (ePk aP), .fl (.int .i64 0)]) rfl (og rfl (op_move rfl rfl rfl)) ?_
  refine rg_put (d := 41) (v := .d (.ag (ePk aP))) rfl (og rfl (op_extract rfl rfl rfl rfl)) ?_
  refine rg_put (d := 42) (v := .d (.fl (.int .i64 0))) rfl (og rfl (op_extract rfl rfl rfl rfl)) ?_
  refine rg_nam (d := 11) (v := .pt 101 0) (m := 101) (nw := [(101, .bx 29 ([.fl (.string (⟨#[]⟩)), .fl (.slice none 0 0), .fl (.slice none 0 0)]))]) rfl (og rfl (of_eff (s_alloc 101 rfl ti29 (by kernel_rfl) rfl) rfl)) rfl ?_
  refine rg_sto (nw := [(101, .bx 29 (ePk aP))]) rfl (og rfl (of_eff (s_store rfl rfl ti29 rfl rfl rfl rfl rfl rfl) rfl)) ?_
  refine rg_put (d := 12) (v := .d (.fl (.int .i64 0))) rfl (og rfl (op_assign rfl rfl rfl)) ?_
  refine rg_done rfl ?_
  refine a_rseq ?_
  refine rg_put (d := 43) (v := .d (.fl (.int .i64 0))) rfl (og rfl (op_move rfl rfl rfl)) ?_
  refine rg_put (d := 44) (v := .d (.fl (.bool (0 == 0)))) rfl (og rfl (op_bin rfl rfl rfl (b_eql _ _ _ _) rfl)) ?_
  refine rg_put (d := 45) (v := .d (.fl (.bool (0 == 0)))) rfl (og rfl (op_move rfl rfl rfl)) ?_
  refine rg_put (d := 46) (v := .d (.fl (.int .i64 0))) rfl (oy rfl rfl rfl rfl (op_move rfl rfl rfl)) ?_
  refine rg_put (d := 47) (v := .d (.fl (.bool (0 == 0)))) rfl (oy rfl rfl rfl rfl (op_bin rfl rfl rfl (b_eql _ _ _ _) rfl)) ?_
  refine rg_put (d := 48) (v := .d (.fl (.bool (0 == 0)))) rfl (og rfl (op_pick rfl rfl rfl rfl)) ?_
  refine rg_put (d := 49) (v := .d (.fl (.bool (0 == 0)))) rfl (og rfl (op_move rfl rfl rfl)) ?_
  refine rg_put (d := 50) (v := .d (.fl (.int .i64 0))) rfl (oy rfl rfl rfl rfl (op_move rfl rfl rfl)) ?_
  refine rg_put (d := 51) (v := .d (.fl (.bool (0 == 0)))) rfl (oy rfl rfl rfl rfl (op_bin rfl rfl rfl (b_eql _ _ _ _) rfl)) ?_
  refine rg_put (d := 52) (v := .d (.fl (.bool (0 == 0)))) rfl (og rfl (op_pick rfl rfl rfl rfl)) ?_
  refine rg_put (d := 53) (v := .d (.fl (.bool (0 == 0)))) rfl (og rfl (op_move rfl rfl rfl)) ?_
  refine rg_put (d := 54) (v := .d (.fl (.int .i64 0))) rfl (oy rfl rfl rfl rfl (op_move rfl rfl rfl)) ?_
  refine rg_put (d := 55) (v := .d (.fl (.bool (0 == 0)))) rfl (oy rfl rfl rfl rfl (op_bin rfl rfl rfl (b_eql _ _ _ _) rfl)) ?_
  refine rg_put (d := 56) (v := .d (.fl (.bool (0 == 0)))) rfl (og rfl (op_pick rfl rfl rfl rfl)) ?_
  refine rg_put (d := 57) (v := .d (.fl (.bool (0 == 0)))) rfl (og rfl (op_move rfl rfl rfl)) ?_
  refine rg_put (d := 58) (v := .d (.sl 5 (List.map eIm ([] : List Im)))) rfl (oy rfl rfl rfl rfl (op_move rfl rfl rfl)) ?_
  refine rg_put (d := 59) (v := .d (.fl (.int .i64 ((([] : List Im).length : Int))))) rfl (oy rfl rfl rfl rfl (s_len rfl Try.underlying23 rfl rfl)) ?_
  refine rg_put (d := 60) (v := .d (.fl (.bool (((([] : List Im).length : Int) == 0))))) rfl (oy rfl rfl rfl rfl (op_bin rfl rfl rfl (b_eql _ _ _ _) rfl)) ?_
  refine rg_put (d := 61) (v := .d (.fl (.bool (((([] : List Im).length : Int) == 0))))) rfl (og rfl (op_pick rfl rfl rfl rfl)) ?_
  refine rg_put (d := 62) (v := .d (.fl (.bool (((([] : List Im).length : Int) == 0))))) rfl (og rfl (op_move rfl rfl rfl)) ?_
  refine rg_put (d := 63) (v := .d (.sl 1 (List.map rS ([⟨#[97]⟩] : List ByteArray)))) rfl (oy rfl rfl rfl rfl (op_move rfl rfl rfl)) ?_
  refine rg_put (d := 64) (v := .d (.fl (.int .i64 ((([⟨#[97]⟩] : List ByteArray).length : Int))))) rfl (oy rfl rfl rfl rfl (s_len rfl Try.underlying33 rfl rfl)) ?_
  refine rg_put (d := 65) (v := .d (.fl (.bool (((([⟨#[97]⟩] : List ByteArray).length : Int) == 1))))) rfl (oy rfl rfl rfl rfl (op_bin rfl rfl rfl (b_eql _ _ _ _) rfl)) ?_
  refine rg_put (d := 66) (v := .d (.fl (.bool (((([⟨#[97]⟩] : List ByteArray).length : Int) == 1))))) rfl (og rfl (op_pick rfl rfl rfl rfl)) ?_
  refine rg_put (d := 67) (v := .d (.fl (.bool (((([⟨#[97]⟩] : List ByteArray).length : Int) == 1))))) rfl (og rfl (op_move rfl rfl rfl)) ?_
  refine rg_put (d := 68) (v := .d (.sl 5 (List.map eIm [aJ]))) rfl (oy rfl rfl rfl rfl (op_move rfl rfl rfl)) ?_
  refine rg_put (d := 69) (v := .d (.fl (.int .i64 ([aJ].length : Int)))) rfl (oy rfl rfl rfl rfl (s_len rfl Try.underlying23 rfl rfl)) ?_
  refine rg_put (d := 70) (v := .d (.fl (.bool ((([aJ].length : Int) == 1))))) rfl (oy rfl rfl rfl rfl (op_bin rfl rfl rfl (b_eql _ _ _ _) rfl)) ?_
  refine rg_put (d := 71) (v := .d (.fl (.bool ((([aJ].length : Int) == 1))))) rfl (og rfl (op_pick rfl rfl rfl rfl)) ?_
  refine rg_put (d := 72) (v := .d (.fl (.bool ((([aJ].length : Int) == 1))))) rfl (og rfl (op_move rfl rfl rfl)) ?_
  refine rg_put (d := 73) (v := .d (.sl 1 (List.map rS ([] : List ByteArray)))) rfl (oy rfl rfl rfl rfl (op_move rfl rfl rfl)) ?_
  refine rg_put (d := 74) (v := .d (.fl (.int .i64 ((([] : List ByteArray).length : Int))))) rfl (oy rfl rfl rfl rfl (s_len rfl Try.underlying33 rfl rfl)) ?_
  refine rg_put (d := 75) (v := .d (.fl (.bool (((([] : List ByteArray).length : Int) == 0))))) rfl (oy rfl rfl rfl rfl (op_bin rfl rfl rfl (b_eql _ _ _ _) rfl)) ?_
  refine rg_put (d := 76) (v := .d (.fl (.bool (((([] : List ByteArray).length : Int) == 0))))) rfl (og rfl (op_pick rfl rfl rfl rfl)) ?_
  refine rg_put (d := 77) (v := .d (.fl (.bool (((([] : List ByteArray).length : Int) == 0))))) rfl (og rfl (op_move rfl rfl rfl)) ?_
  refine rg_put (d := 78) (v := .d (.ag (ePk aP))) rfl (oy rfl rfl rfl rfl (of_eff (s_load_pts rfl Try.underlying29 rfl ti29 rfl rfl rfl rfl) rfl)) ?_
  refine rg_put (d := 79) (v := .d (.fl (.bool true))) rfl (oy rfl rfl rfl rfl (op_call rfl Try.func9 nm9 rfl (.cons rfl (.d _) .nil) au5 rfl)) ?_
  refine rg_put (d := 80) (v := .d (.fl (.bool true))) rfl (og rfl (op_pick rfl rfl rfl rfl)) ?_
  refine rg_put (d := 0) (v := .d (.fl (.bool true))) rfl (og rfl (op_assign rfl rfl rfl)) ?_
  refine rg_done rfl ?_
  refine a_ret ?_
  show ∃ ds, ResL _ _ _ ds ∧ RV.of ds = _
  refine ⟨[.fl (.bool true)], (.cons (.tmp rfl (.d _)) .nil), ?_⟩
  rfl
end Go.Proofs.Ytaecdkhpidligaa.Wk
