/- Differences. Conditions: as each theorem names them. -/
import Derived.Test.YtobgdemhadlgnaaSk
import Derived.Test.YtobgdemhadlgnaaAvK
import Derived.Test.YtobgdemhadlgnaaAvR
import Derived.Test.YtobgdemhadlgnaaAvS
import Derived.Test.YtobgdemhadlgnaaB2
set_option linter.unusedSimpArgs false
set_option linter.unusedVariables false
namespace Go.Proofs.Ytobgdemhadlgnaa.Wk
open Go Go.RowKit Go.Sort Go.Shelf Go.Lib Go.Proofs.Ytobgdemhadlgnaa.Av
theorem k2_sz {A B : List Rec} (z1 : ∀ r ∈ A, r.key.size ≤ 20) (z2 : ∀ r ∈ B, r.key.size ≤ 20) : ∀ s ∈ k2 A B (kS B).length, s.size ≤ 20 := fun s hs => by
  rcases (k2_mem _ (Nat.le_refl _)).1 hs with h | h
  · obtain ⟨r, hr, rfl⟩ := kS_mem.1 h; exact z1 r hr
  · rw [List.take_length] at h; obtain ⟨r, hr, rfl⟩ := kS_mem.1 h; exact z2 r hr
theorem kS_len (l : List Rec) : (kS l).length ≤ l.length := by unfold kS; rw [srtS_len]; exact fk_len _ _
theorem e3_get {A B : List Rec} {n : Nat} (h : n < (kAll A B).length) : mfind .string (.string (ix (kAll A B) n)) (enT (vD A B (kS B).length) (k2 A B (kS B).length)) = some (some (DV.ag (eDfr (dfE A B (ix (kAll A B) n))))) := by
  rw [mfindT, k2_has h]
  show some (some (DV.ag (eDfr (gD A B (kS B).length (ix (kAll A B) n))))) = _
  rw [gD_all]

set_option maxHeartbeats 4000000 in
set_option maxRecDepth 100000 in
theorem difC (a b : Ptn) (h1 : a.ours.length ≤ 200) (h2 : b.theirs.length ≤ 200) (o1 : okR a.ours) (o2 : okR b.theirs) (z1 : ∀ r ∈ a.ours, r.key.size ≤ 20) (z2 : ∀ r ∈ b.theirs, r.key.size ≤ 20) : Ctr Try.prog 6 [.ag (ePt a), .ag (ePt b)] (.d (.sl 3 (List.map eDfr (dfL a.ours b.theirs)))) := by
  refine ctr (n := 76) (rs := #[.tmp 4]) (L := [(0, .d (.ag (ePt a))), (1, .d (.ag (ePt b)))]) Try.func6 rfl rfl rfl rfl rfl (fun w0 U0 => ?_)
  refine a_rseq ?_
  refine rg_nam (d := 2) (v := .pt 101 0) (m := 101) (nw := [(101, .bx 25 (ePt a))]) rfl (og rfl (of_eff (op_box 101 rfl rfl rfl rfl) rfl)) rfl ?_
  refine rg_nam (d := 3) (v := .pt 102 0) (m := 102) (nw := [(102, .bx 25 (ePt b))]) rfl (og rfl (of_eff (op_box 102 rfl rfl rfl rfl) rfl)) rfl ?_
  refine rg_put (d := 4) (v := .d (.fl (.slice none 0 0))) rfl (og rfl (op_assign rfl rfl rfl)) ?_
  refine rg_done rfl ?_
  refine a_rseq ?_
  refine rg_nam (d := 14) (v := .ow 103) (m := 103) (nw := [(103, .mp [])]) rfl (og rfl (op_makeMap 103 rfl rfl)) rfl ?_
  refine rg_put (d := 5) (v := .ow 103) rfl (og rfl (op_assign rfl rfl rfl)) ?_
  refine rg_done rfl ?_
  refine a_seq ?_
  refine a_rseq ?_
  have hn1 := net_len a.ours
  have hn2 := net_len b.theirs
  refine rg_put (d := 15) (v := .pt 101 4) rfl (og rfl (of_eff (s_field_pt rfl Try.underlying25 rfl ti23 rfl rfl rfl) rfl)) ?_
  refine rg_put (d := 16) (v := .d (.sl 5 (List.map eRec a.ours))) rfl (og rfl (op_load_pt rfl Try.underlying23 rfl rfl rfl rfl rfl)) ?_
  refine rg_put (d := 17) (v := .d (.sl 5 (List.map eRec (netL a.ours)))) rfl (og rfl (op_call rfl Try.func18 nm18 rfl (.cons rfl (.d _) .nil) (netC a.ours h1 o1) rfl)) ?_
  refine rg_put (d := 18) (v := .d (.fl (.int .i64 (((netL a.ours).length : Int))))) rfl (og rfl (s_len rfl Try.underlying23 rfl rfl)) ?_
  refine rg_put (d := 19) (v := .d (.fl (.int .i64 0))) rfl (og rfl (op_move rfl rfl rfl)) ?_
  refine rg_done rfl ?_
  refine a_block ?_
  refine a_loop (ι := Nat) (fun k => SS [(0, .d (.ag (ePt a))), (1, .d (.ag (ePt b))), (2, .pt 101 0), (3, .pt 102 0), (4, .d (.fl (.slice none 0 0))), (5, .ow 103), (17, .d (.sl 5 (List.map eRec (netL a.ours)))), (18, .d (.fl (.int .i64 (((netL a.ours).length : Int))))), (19, .d (.fl (.int .i64 (k : Int))))] [(101, .bx 25 (ePt a)), (102, .bx 25 (ePt b)), (103, .mp ((enT (vA a.ours) ((kS a.ours).take k))))]) (fun k => k ≤ (netL a.ours).length) (fun k => (netL a.ours).length - k) 0 (by omega) (imp_forget rfl ⟨rfl, rfl, rfl, rfl, rfl, rfl, rfl, rfl, rfl, trivial⟩ ⟨rfl, rfl, rfl, trivial⟩) (fun k hok => ?_)
  have hk := hok
  refine a_rseq ?_
  refine rg_put (d := 20) (v := .d (.fl (.bool ((decide ((k : Int) < ((netL a.ours).length : Int))))))) rfl (og rfl (op_bin rfl rfl rfl (b_lss _ _ _ _) rfl)) ?_
  refine rg_done rfl ?_
  refine a_seq ?_
  refine a_cond rfl (fun h1 => ?_) (fun h1 => ?_)
  · skip
    have h2 := t_dec h1
    refine a_skip ?_
    show A _ _ _ _ _ _ _
    refine a_seq ?_
    refine a_block ?_
    refine a_rseq ?_
    refine rg_put (d := 21) (v := .el ((eRec ((ix (netL a.ours) k))))) rfl (og rfl (s_index rfl Try.underlying23 ti37 rfl rfl (by omega) (row_at (by omega)) rfl)) ?_
    refine rg_put (d := 22) (v := .d (.ag (eRec (((ix (netL a.ours) k)))))) rfl (og rfl (of_eff (s_load_els rfl Try.underlying37 rfl ti37 rfl rfl rfl) rfl)) ?_
    refine rg_nam (d := 7) (v := .pt 104 0) (m := 104) (nw := [(104, .bx 37 ([.fl (.int .i64 0), .fl (.string (⟨#[]⟩)), .fl (.int .i64 0), .fl (.int .i64 0), .fl (.int .i64 0)]))]) rfl (og rfl (of_eff (s_alloc 104 rfl ti37 (by kernel_rfl) rfl) rfl)) rfl ?_
    refine rg_sto (nw := [(104, .bx 37 ((eRec (((ix (netL a.ours) k))))))]) rfl (og rfl (of_eff (s_store rfl rfl ti37 rfl rfl rfl rfl rfl rfl) rfl)) ?_
    refine rg_done rfl ?_
    refine a_region ?_
    refine rg_put (d := 23) (v := .ow 103) rfl (og rfl (op_move rfl rfl rfl)) ?_
    refine rg_put (d := 24) (v := .pt 104 1) rfl (og rfl (of_eff (s_field_pt rfl Try.underlying37 rfl ti9 rfl rfl rfl) rfl)) ?_
    refine rg_put (d := 25) (v := .d (.fl (.string ((((ix (netL a.ours) k))).key)))) rfl (og rfl (op_load_pt rfl Try.underlying9 rfl rfl rfl rfl rfl)) ?_
    refine rg_put (d := 26) (v := .pt 104 1) rfl (og rfl (of_eff (s_field_pt rfl Try.underlying37 rfl ti9 rfl rfl rfl) rfl)) ?_
    refine rg_put (d := 27) (v := .d (.fl (.string ((((ix (netL a.ours) k))).key)))) rfl (og rfl (op_load_pt rfl Try.underlying9 rfl rfl rfl rfl rfl)) ?_
    refine rg_put (d := 28) (v := .pt 104 3) rfl (og rfl (of_eff (s_field_pt rfl Try.underlying37 rfl ti3 rfl rfl rfl) rfl)) ?_
    refine rg_put (d := 29) (v := .d (.fl (.int .i64 ((((ix (netL a.ours) k))).cents)))) rfl (og rfl (op_load_pt rfl Try.underlying3 rfl rfl rfl rfl rfl)) ?_
    refine rg_put (d := 30) (v := .d (.ag (eDfr ((Dfr.mk ((((ix (netL a.ours) k))).key) ((((ix (netL a.ours) k))).cents) 0))))) rfl (og rfl (of_eff (op_build rfl Try.underlying31 ti31 rfl (by kernel_rfl) (by kernel_rfl) (pl := #[(0, 1), (1, 1), (2, 1)]) (by kernel_rfl) (.cons rfl rfl (.d _) rfl rfl rfl (.cons rfl rfl (.d _) rfl rfl rfl .nil)) rfl) rfl)) ?_
    refine rg_sto (nw := [(103, .mp ((enT (vA a.ours) ((kS a.ours).take k)) ++ [((.string ((((ix (netL a.ours) k))).key)), .ag (eDfr ((Dfr.mk ((((ix (netL a.ours) k))).key) ((((ix (netL a.ours) k))).cents) 0))))]))]) rfl (og rfl (op_mapPush rfl rfl Try.underlying46 Try.underlying9 rfl rfl rfl rfl (e1_no (by omega)) rfl)) ?_
    refine rg_done rfl ?_
    show A _ _ _ _ _ _ _
    refine a_region ?_
    refine rg_put (d := 31) (v := .d (.fl (.int .i64 (((k : Int) + 1))))) rfl (og rfl (op_bin rfl rfl rfl (fun x y w => b_add64 _ _ _ x y w (by omega)) rfl)) ?_
    refine rg_put (d := 19) (v := .d (.fl (.int .i64 (((k : Int) + 1))))) rfl (og rfl (op_move rfl rfl rfl)) ?_
    refine rg_done rfl ?_
    have hst : ((enT (vA a.ours) ((kS a.ours).take k)) ++ [((.string ((((ix (netL a.ours) k))).key)), .ag (eDfr ((Dfr.mk ((((ix (netL a.ours) k))).key) ((((ix (netL a.ours) k))).cents) 0))))]) = (enT (vA a.ours) ((kS a.ours).take (k + 1))) := e1_step (by omega)
    show ∃ i, _ ∧ _ ∧ Imp _ _ _ _ _
    refine ⟨k + 1, (by omega), by omega, imp_forget rfl ⟨rfl, rfl, rfl, rfl, rfl, rfl, rfl, rfl, (ci (by omega)), trivial⟩ ⟨rfl, rfl, (congrArg (fun z => Ob.mp z) hst), trivial⟩⟩
  · skip
    have h3 := f_dec h1
    refine a_exit ?_
    show A _ _ _ _ _ _ _
    refine a_seq ?_
    refine a_rseq ?_
    rw [show (enT (vA a.ours) ((kS a.ours).take k)) = (enT (vD a.ours b.theirs 0) (k2 a.ours b.theirs 0)) from (by rw [show k = (kS a.ours).length from by rw [← netL_len]; omega]; exact e2_0 _ _)]
    refine rg_put (d := 32) (v := .pt 102 5) rfl (og rfl (of_eff (s_field_pt rfl Try.underlying25 rfl ti23 rfl rfl rfl) rfl)) ?_
    refine rg_put (d := 33) (v := .d (.sl 5 (List.map eRec b.theirs))) rfl (og rfl (op_load_pt rfl Try.underlying23 rfl rfl rfl rfl rfl)) ?_
    refine rg_put (d := 34) (v := .d (.sl 5 (List.map eRec (netL b.theirs)))) rfl (og rfl (op_call rfl Try.func18 nm18 rfl (.cons rfl (.d _) .nil) (netC b.theirs h2 o2) rfl)) ?_
    refine rg_put (d := 35) (v := .d (.fl (.int .i64 (((netL b.theirs).length : Int))))) rfl (og rfl (s_len rfl Try.underlying23 rfl rfl)) ?_
    refine rg_put (d := 36) (v := .d (.fl (.int .i64 0))) rfl (og rfl (op_move rfl rfl rfl)) ?_
    refine rg_done rfl ?_
    refine a_block ?_
    refine a_loop (ι := Nat) (fun j => SS [(0, .d (.ag (ePt a))), (1, .d (.ag (ePt b))), (2, .pt 101 0), (3, .pt 102 0), (4, .d (.fl (.slice none 0 0))), (5, .ow 103), (17, .d (.sl 5 (List.map eRec (netL a.ours)))), (18, .d (.fl (.int .i64 (((netL a.ours).length : Int))))), (19, .d (.fl (.int .i64 (k : Int)))), (20, .d (.fl (.bool ((decide ((k : Int) < ((netL a.ours).length : Int))))))), (34, .d (.sl 5 (List.map eRec (netL b.theirs)))), (35, .d (.fl (.int .i64 (((netL b.theirs).length : Int))))), (36, .d (.fl (.int .i64 (j : Int))))] [(101, .bx 25 (ePt a)), (102, .bx 25 (ePt b)), (103, .mp ((enT (vD a.ours b.theirs j) (k2 a.ours b.theirs j))))]) (fun j => j ≤ (netL b.theirs).length) (fun j => (netL b.theirs).length - j) 0 (by omega) (imp_forget rfl ⟨rfl, rfl, rfl, rfl, rfl, rfl, rfl, rfl, rfl, rfl, rfl, rfl, rfl, trivial⟩ ⟨rfl, rfl, rfl, trivial⟩) (fun j hok => ?_)
    have hj := hok
    refine a_rseq ?_
    refine rg_put (d := 37) (v := .d (.fl (.bool ((decide ((j : Int) < ((netL b.theirs).length : Int))))))) rfl (og rfl (op_bin rfl rfl rfl (b_lss _ _ _ _) rfl)) ?_
    refine rg_done rfl ?_
    refine a_seq ?_
    refine a_cond rfl (fun h4 => ?_) (fun h4 => ?_)
    · skip
      have h5 := t_dec h4
      refine a_skip ?_
      show A _ _ _ _ _ _ _
      refine a_seq ?_
      refine a_block ?_
      refine a_rseq ?_
      refine rg_put (d := 38) (v := .el ((eRec ((ix (netL b.theirs) j))))) rfl (og rfl (s_index rfl Try.underlying23 ti37 rfl rfl (by omega) (row_at (by omega)) rfl)) ?_
      refine rg_put (d := 39) (v := .d (.ag (eRec (((ix (netL b.theirs) j)))))) rfl (og rfl (of_eff (s_load_els rfl Try.underlying37 rfl ti37 rfl rfl rfl) rfl)) ?_
      refine rg_nam (d := 9) (v := .pt 105 0) (m := 105) (nw := [(105, .bx 37 ([.fl (.int .i64 0), .fl (.string (⟨#[]⟩)), .fl (.int .i64 0), .fl (.int .i64 0), .fl (.int .i64 0)]))]) rfl (og rfl (of_eff (s_alloc 105 rfl ti37 (by kernel_rfl) rfl) rfl)) rfl ?_
      refine rg_sto (nw := [(105, .bx 37 ((eRec (((ix (netL b.theirs) j))))))]) rfl (og rfl (of_eff (s_store rfl rfl ti37 rfl rfl rfl rfl rfl rfl) rfl)) ?_
      refine rg_done rfl ?_
      refine a_region ?_
      refine rg_put (d := 40) (v := .ow 103) rfl (og rfl (op_move rfl rfl rfl)) ?_
      refine rg_put (d := 41) (v := .pt 105 1) rfl (og rfl (of_eff (s_field_pt rfl Try.underlying37 rfl ti9 rfl rfl rfl) rfl)) ?_
      refine rg_put (d := 42) (v := .d (.fl (.string ((((ix (netL b.theirs) j))).key)))) rfl (og rfl (op_load_pt rfl Try.underlying9 rfl rfl rfl rfl rfl)) ?_
      refine rg_put (d := 43) (v := .pt 105 1) rfl (og rfl (of_eff (s_field_pt rfl Try.underlying37 rfl ti9 rfl rfl rfl) rfl)) ?_
      refine rg_put (d := 44) (v := .d (.fl (.string ((((ix (netL b.theirs) j))).key)))) rfl (og rfl (op_load_pt rfl Try.underlying9 rfl rfl rfl rfl rfl)) ?_
      refine rg_put (d := 45) (v := .ow 103) rfl (og rfl (op_move rfl rfl rfl)) ?_
      refine rg_put (d := 46) (v := .pt 105 1) rfl (og rfl (of_eff (s_field_pt rfl Try.underlying37 rfl ti9 rfl rfl rfl) rfl)) ?_
      refine rg_put (d := 47) (v := .d (.fl (.string ((((ix (netL b.theirs) j))).key)))) rfl (og rfl (op_load_pt rfl Try.underlying9 rfl rfl rfl rfl rfl)) ?_
      rcases fot (((k2 a.ours b.theirs j).any (fun y => sEq y (ix (netL b.theirs) j).key))) with h6 | h6
      · skip
        refine rg_put (d := 48) (v := .d (.ag (eDfr ((Dfr.mk (⟨#[]⟩) 0 0))))) rfl (og rfl (op_lookup1 rfl Try.underlying46 Try.underlying9 rfl ti31 rfl rfl (.ow rfl) rfl (r := none) ((mfindT _ _ _).trans (by rw [show (k2 a.ours b.theirs j).any (fun y => sEq y (ix (netL b.theirs) j).key) = false from h6]; rfl)) rfl rfl)) ?_
        refine rg_put (d := 49) (v := .d (.fl (.int .i64 (((Dfr.mk (⟨#[]⟩) 0 0)).ours)))) rfl (og rfl (op_fieldC rfl Try.underlying31 rfl Try.underlying3 rfl rfl rfl rfl rfl)) ?_
        refine rg_put (d := 50) (v := .pt 105 3) rfl (og rfl (of_eff (s_field_pt rfl Try.underlying37 rfl ti3 rfl rfl rfl) rfl)) ?_
        refine rg_put (d := 51) (v := .d (.fl (.int .i64 ((((ix (netL b.theirs) j))).cents)))) rfl (og rfl (op_load_pt rfl Try.underlying3 rfl rfl rfl rfl rfl)) ?_
        refine rg_put (d := 52) (v := .d (.ag (eDfr ((Dfr.mk ((((ix (netL b.theirs) j))).key) (((Dfr.mk (⟨#[]⟩) 0 0)).ours) ((((ix (netL b.theirs) j))).cents)))))) rfl (og rfl (of_eff (op_build rfl Try.underlying31 ti31 rfl (by kernel_rfl) (by kernel_rfl) (pl := #[(0, 1), (1, 1), (2, 1)]) (by kernel_rfl) (.cons rfl rfl (.d _) rfl rfl rfl (.cons rfl rfl (.d _) rfl rfl rfl (.cons rfl rfl (.d _) rfl rfl rfl .nil))) rfl) rfl)) ?_
        refine rg_sto (nw := [(103, .mp ((enT (vD a.ours b.theirs j) (k2 a.ours b.theirs j)) ++ [((.string ((((ix (netL b.theirs) j))).key)), .ag (eDfr ((Dfr.mk ((((ix (netL b.theirs) j))).key) (((Dfr.mk (⟨#[]⟩) 0 0)).ours) ((((ix (netL b.theirs) j))).cents)))))]))]) rfl (og rfl (op_mapPush rfl rfl Try.underlying46 Try.underlying9 rfl rfl rfl rfl ((mfindT _ _ _).trans (by rw [show (k2 a.ours b.theirs j).any (fun y => sEq y (ix (netL b.theirs) j).key) = false from h6]; rfl)) rfl)) ?_
        refine rg_done rfl ?_
        show A _ _ _ _ _ _ _
        refine a_region ?_
        refine rg_put (d := 53) (v := .d (.fl (.int .i64 (((j : Int) + 1))))) rfl (og rfl (op_bin rfl rfl rfl (fun x y w => b_add64 _ _ _ x y w (by omega)) rfl)) ?_
        refine rg_put (d := 36) (v := .d (.fl (.int .i64 (((j : Int) + 1))))) rfl (og rfl (op_move rfl rfl rfl)) ?_
        refine rg_done rfl ?_
        have hst : ((enT (vD a.ours b.theirs j) (k2 a.ours b.theirs j)) ++ [((.string ((((ix (netL b.theirs) j))).key)), .ag (eDfr ((Dfr.mk ((((ix (netL b.theirs) j))).key) (((Dfr.mk (⟨#[]⟩) 0 0)).ours) ((((ix (netL b.theirs) j))).cents)))))]) = (enT (vD a.ours b.theirs (j + 1)) (k2 a.ours b.theirs (j + 1))) := e2_n (by omega) h6
        show ∃ i, _ ∧ _ ∧ Imp _ _ _ _ _
        refine ⟨j + 1, (by omega), by omega, imp_forget rfl ⟨rfl, rfl, rfl, rfl, rfl, rfl, rfl, rfl, rfl, rfl, rfl, rfl, (ci (by omega)), trivial⟩ ⟨rfl, rfl, (congrArg (fun z => Ob.mp z) hst), trivial⟩⟩
      · skip
        refine rg_put (d := 48) (v := .d (.ag (eDfr ((gD a.ours b.theirs j (ix (netL b.theirs) j).key))))) rfl (og rfl (op_lookup1 rfl Try.underlying46 Try.underlying9 rfl ti31 rfl rfl (.ow rfl) rfl (r := (some (.ag (eDfr ((gD a.ours b.theirs j (ix (netL b.theirs) j).key)))))) ((mfindT _ _ _).trans (by rw [show (k2 a.ours b.theirs j).any (fun y => sEq y (ix (netL b.theirs) j).key) = true from h6]; rfl)) rfl rfl)) ?_
        refine rg_put (d := 49) (v := .d (.fl (.int .i64 (((gD a.ours b.theirs j (ix (netL b.theirs) j).key)).ours)))) rfl (og rfl (op_fieldC rfl Try.underlying31 rfl Try.underlying3 rfl rfl rfl rfl rfl)) ?_
        refine rg_put (d := 50) (v := .pt 105 3) rfl (og rfl (of_eff (s_field_pt rfl Try.underlying37 rfl ti3 rfl rfl rfl) rfl)) ?_
        refine rg_put (d := 51) (v := .d (.fl (.int .i64 ((((ix (netL b.theirs) j))).cents)))) rfl (og rfl (op_load_pt rfl Try.underlying3 rfl rfl rfl rfl rfl)) ?_
        refine rg_put (d := 52) (v := .d (.ag (eDfr ((Dfr.mk ((((ix (netL b.theirs) j))).key) (((gD a.ours b.theirs j (ix (netL b.theirs) j).key)).ours) ((((ix (netL b.theirs) j))).cents)))))) rfl (og rfl (of_eff (op_build rfl Try.underlying31 ti31 rfl (by kernel_rfl) (by kernel_rfl) (pl := #[(0, 1), (1, 1), (2, 1)]) (by kernel_rfl) (.cons rfl rfl (.d _) rfl rfl rfl (.cons rfl rfl (.d _) rfl rfl rfl (.cons rfl rfl (.d _) rfl rfl rfl .nil))) rfl) rfl)) ?_
        refine rg_sto (nw := [(103, .mp (mput .string ((.string ((((ix (netL b.theirs) j))).key))) (.ag (eDfr ((Dfr.mk ((((ix (netL b.theirs) j))).key) (((gD a.ours b.theirs j (ix (netL b.theirs) j).key)).ours) ((((ix (netL b.theirs) j))).cents))))) ((enT (vD a.ours b.theirs j) (k2 a.ours b.theirs j)))))]) rfl (og rfl (op_mapSet rfl rfl Try.underlying46 Try.underlying9 rfl rfl rfl rfl ((mfindT _ _ _).trans (by rw [show (k2 a.ours b.theirs j).any (fun y => sEq y (ix (netL b.theirs) j).key) = true from h6]; rfl)) rfl (stays_str _))) ?_
        refine rg_done rfl ?_
        show A _ _ _ _ _ _ _
        refine a_region ?_
        refine rg_put (d := 53) (v := .d (.fl (.int .i64 (((j : Int) + 1))))) rfl (og rfl (op_bin rfl rfl rfl (fun x y w => b_add64 _ _ _ x y w (by omega)) rfl)) ?_
        refine rg_put (d := 36) (v := .d (.fl (.int .i64 (((j : Int) + 1))))) rfl (og rfl (op_move rfl rfl rfl)) ?_
        refine rg_done rfl ?_
        have hst : (mput .string ((.string ((((ix (netL b.theirs) j))).key))) (.ag (eDfr ((Dfr.mk ((((ix (netL b.theirs) j))).key) (((gD a.ours b.theirs j (ix (netL b.theirs) j).key)).ours) ((((ix (netL b.theirs) j))).cents))))) ((enT (vD a.ours b.theirs j) (k2 a.ours b.theirs j)))) = (enT (vD a.ours b.theirs (j + 1)) (k2 a.ours b.theirs (j + 1))) := e2_y (by omega) h6
        show ∃ i, _ ∧ _ ∧ Imp _ _ _ _ _
        refine ⟨j + 1, (by omega), by omega, imp_forget rfl ⟨rfl, rfl, rfl, rfl, rfl, rfl, rfl, rfl, rfl, rfl, rfl, rfl, (ci (by omega)), trivial⟩ ⟨rfl, rfl, (congrArg (fun z => Ob.mp z) hst), trivial⟩⟩
    · skip
      have h7 := f_dec h4
      refine a_exit ?_
      show A _ _ _ _ _ _ _
      refine a_rseq ?_
      refine rg_put (d := 10) (v := .d (.fl (.slice none 0 0))) rfl (og rfl (op_assign rfl rfl rfl)) ?_
      refine rg_done rfl ?_
      refine a_seq ?_
      refine a_rseq ?_
      refine rg_imp (imp_nilT 10 106 31 3 rfl rfl) ?_
      rw [show (enT (vD a.ours b.theirs j) (k2 a.ours b.theirs j)) = (enT (vD a.ours b.theirs (kS b.theirs).length) (k2 a.ours b.theirs (kS b.theirs).length)) from (by rw [show j = (kS b.theirs).length from by rw [← netL_len]; omega])]
      refine rg_imp (imp_mp 5 103 rfl rfl) ?_
      have hkl := kAll_len a.ours b.theirs
      have hk2 := k2_len a.ours b.theirs (kS b.theirs).length
      have hka := kS_len a.ours
      have hkb := kS_len b.theirs
      refine rg_put (d := 54) (v := .d (.mp (enT (vD a.ours b.theirs (kS b.theirs).length) (k2 a.ours b.theirs (kS b.theirs).length)))) rfl (og rfl (op_move rfl rfl rfl)) ?_
      refine rg_two (m2 := 107) rfl rfl rfl rfl rfl Try.func20 nm20 rfl rfl rfl rfl rfl rfl Try.func19 nm19 rfl rfl (keysF keysG _) (sortedV sortedG Try.underlying9 (l := k2 a.ours b.theirs (kS b.theirs).length) (by unfold enT; rw [List.map_map]; rfl) (by omega) (fun s hs => by have := k2_sz z1 z2 s hs; unfold maxLen; omega)) rfl ?_
      rw [show (srtS (k2 a.ours b.theirs (kS b.theirs).length)) = (kAll a.ours b.theirs) from (k2_all _ _)]
      refine rg_put (d := 57) (v := .d (.fl (.int .i64 ((((kAll a.ours b.theirs)).length : Int))))) rfl (og rfl (op_len_tr rfl Try.underlying48 rfl rfl tD_len rfl)) ?_
      refine rg_put (d := 58) (v := .d (.fl (.int .i64 0))) rfl (og rfl (op_move rfl rfl rfl)) ?_
      refine rg_done rfl ?_
      refine a_block ?_
      refine a_loop (ι := Nat) (fun n => SS [(0, .d (.ag (ePt a))), (1, .d (.ag (ePt b))), (2, .pt 101 0), (3, .pt 102 0), (4, .d (.fl (.slice none 0 0))), (5, .d (.mp (enT (vD a.ours b.theirs (kS b.theirs).length) (k2 a.ours b.theirs (kS b.theirs).length)))), (17, .d (.sl 5 (List.map eRec (netL a.ours)))), (18, .d (.fl (.int .i64 (((netL a.ours).length : Int))))), (19, .d (.fl (.int .i64 (k : Int)))), (20, .d (.fl (.bool ((decide ((k : Int) < ((netL a.ours).length : Int))))))), (34, .d (.sl 5 (List.map eRec (netL b.theirs)))), (35, .d (.fl (.int .i64 (((netL b.theirs).length : Int))))), (36, .d (.fl (.int .i64 (j : Int)))), (37, .d (.fl (.bool ((decide ((j : Int) < ((netL b.theirs).length : Int))))))), (56, .ow 107), (57, .d (.fl (.int .i64 ((((kAll a.ours b.theirs)).length : Int))))), (58, .d (.fl (.int .i64 (n : Int)))), (10, .ow 106)] [(101, .bx 25 (ePt a)), (102, .bx 25 (ePt b)), (107, .tr 9 1 (tD rS (kAll a.ours b.theirs))), (106, .tr 31 3 (tD eDfr (dfO a.ours b.theirs n)))]) (fun n => n ≤ (kAll a.ours b.theirs).length) (fun n => (kAll a.ours b.theirs).length - n) 0 (by omega) (imp_forget rfl ⟨rfl, rfl, rfl, rfl, rfl, rfl, rfl, rfl, rfl, rfl, rfl, rfl, rfl, rfl, rfl, rfl, rfl, rfl, trivial⟩ ⟨rfl, rfl, rfl, rfl, trivial⟩) (fun n hok => ?_)
      have hn := hok
      have hdl := dfO_len a.ours b.theirs n
      refine a_rseq ?_
      refine rg_put (d := 59) (v := .d (.fl (.bool ((decide ((n : Int) < (((kAll a.ours b.theirs)).length : Int))))))) rfl (og rfl (op_bin rfl rfl rfl (b_lss _ _ _ _) rfl)) ?_
      refine rg_done rfl ?_
      refine a_seq ?_
      refine a_cond rfl (fun h8 => ?_) (fun h8 => ?_)
      · skip
        have h9 := t_dec h8
        refine a_skip ?_
        show A _ _ _ _ _ _ _
        refine a_seq ?_
        refine a_block ?_
        refine a_rseq ?_
        refine rg_put (d := 60) (v := .pe 107 1 n 0) rfl (og rfl (op_index_tr rfl Try.underlying48 ti9 rfl rfl rfl (get_lt (tD_at (by omega))) rfl)) ?_
        refine rg_put (d := 61) (v := .d (.fl (.string ((ix (kAll a.ours b.theirs) n))))) rfl (og rfl (of_eff (op_load_pe rfl Try.underlying9 rfl rfl rfl (tD_at (by omega)) rfl rfl) rfl)) ?_
        refine rg_put (d := 12) (v := .d (.fl (.string ((ix (kAll a.ours b.theirs) n))))) rfl (og rfl (op_assign rfl rfl rfl)) ?_
        refine rg_done rfl ?_
        refine a_rseq ?_
        refine rg_put (d := 62) (v := .d (.mp (enT (vD a.ours b.theirs (kS b.theirs).length) (k2 a.ours b.theirs (kS b.theirs).length)))) rfl (og rfl (op_move rfl rfl rfl)) ?_
        refine rg_put (d := 63) (v := .d (.fl (.string ((ix (kAll a.ours b.theirs) n))))) rfl (og rfl (op_move rfl rfl rfl)) ?_
        refine rg_put (d := 64) (v := .d (.ag (eDfr ((dfE a.ours b.theirs (ix (kAll a.ours b.theirs) n)))))) rfl (og rfl (op_lookup1 rfl Try.underlying46 Try.underlying9 rfl ti31 rfl rfl (.d _) rfl (r := (some (.ag (eDfr ((dfE a.ours b.theirs (ix (kAll a.ours b.theirs) n))))))) (e3_get (by omega)) rfl rfl)) ?_
        refine rg_nam (d := 13) (v := .pt 108 0) (m := 108) (nw := [(108, .bx 31 ([.fl (.string (⟨#[]⟩)), .fl (.int .i64 0), .fl (.int .i64 0)]))]) rfl (og rfl (of_eff (s_alloc 108 rfl ti31 (by kernel_rfl) rfl) rfl)) rfl ?_
        refine rg_sto (nw := [(108, .bx 31 ((eDfr ((dfE a.ours b.theirs (ix (kAll a.ours b.theirs) n))))))]) rfl (og rfl (of_eff (s_store rfl rfl ti31 rfl rfl rfl rfl rfl rfl) rfl)) ?_
        refine rg_done rfl ?_
        refine a_rseq ?_
        refine rg_put (d := 65) (v := .pt 108 1) rfl (og rfl (of_eff (s_field_pt rfl Try.underlying31 rfl ti3 rfl rfl rfl) rfl)) ?_
        refine rg_put (d := 66) (v := .d (.fl (.int .i64 (((dfE a.ours b.theirs (ix (kAll a.ours b.theirs) n))).ours)))) rfl (og rfl (op_load_pt rfl Try.underlying3 rfl rfl rfl rfl rfl)) ?_
        refine rg_put (d := 67) (v := .pt 108 2) rfl (og rfl (of_eff (s_field_pt rfl Try.underlying31 rfl ti3 rfl rfl rfl) rfl)) ?_
        refine rg_put (d := 68) (v := .d (.fl (.int .i64 (((dfE a.ours b.theirs (ix (kAll a.ours b.theirs) n))).theirs)))) rfl (og rfl (op_load_pt rfl Try.underlying3 rfl rfl rfl rfl rfl)) ?_
        refine rg_put (d := 69) (v := .d (.fl (.bool ((((dfE a.ours b.theirs (ix (kAll a.ours b.theirs) n))).ours != ((dfE a.ours b.theirs (ix (kAll a.ours b.theirs) n))).theirs))))) rfl (og rfl (op_bin rfl rfl rfl (b_neq _ _ _ _) rfl)) ?_
        refine rg_done rfl ?_
        refine a_cond rfl (fun h10 => ?_) (fun h10 => ?_)
        · skip
          have h11 := t_bne h10
          refine a_region ?_
          refine rg_put (d := 70) (v := .ow 106) rfl (og rfl (op_move rfl rfl rfl)) ?_
          refine rg_put (d := 71) (v := .d (.ag (eDfr (((dfE a.ours b.theirs (ix (kAll a.ours b.theirs) n))))))) rfl (og rfl (of_eff (s_load_pts rfl Try.underlying31 rfl ti31 rfl rfl rfl rfl) rfl)) ?_
          refine rg_put (d := 72) (v := .d (.sl 3 (List.map eDfr [((dfE a.ours b.theirs (ix (kAll a.ours b.theirs) n)))]))) rfl (og rfl (of_eff (op_slices rfl Try.underlying28 ti31 rfl rfl rfl (by kernel_rfl) (xs := [.ag (eDfr (((dfE a.ours b.theirs (ix (kAll a.ours b.theirs) n)))))]) rfl rfl (.cons rfl rfl (.d _) rfl rfl rfl .nil) rfl) rfl)) ?_
          refine rg_nam (d := 73) (v := .ow 109) (m := 109) (nw := [(109, .tr 31 3 (tD eDfr (((dfO a.ours b.theirs n) ++ [((dfE a.ours b.theirs (ix (kAll a.ours b.theirs) n)))])))), (106, .no)]) rfl (og rfl (of_eff (s_append_td 109 rfl Try.underlying28 ti31 rfl rfl rfl rfl rfl (.d _) (by simp only [List.length_append, List.length_cons, List.length_nil]; omega) rfl) rfl)) rfl ?_
          refine rg_put (d := 10) (v := .ow 109) rfl (og rfl (op_assign rfl rfl rfl)) ?_
          refine rg_done rfl ?_
          show A _ _ _ _ _ _ _
          refine a_region ?_
          refine rg_put (d := 74) (v := .d (.fl (.int .i64 (((n : Int) + 1))))) rfl (og rfl (op_bin rfl rfl rfl (fun x y w => b_add64 _ _ _ x y w (by omega)) rfl)) ?_
          refine rg_put (d := 58) (v := .d (.fl (.int .i64 (((n : Int) + 1))))) rfl (og rfl (op_move rfl rfl rfl)) ?_
          refine rg_done rfl ?_
          show ∃ i, _ ∧ _ ∧ Imp _ _ _ _ _
          refine ⟨n + 1, (by omega), by omega, imp_ren (fun m => bif Nat.beq m 106 then 109 else m) rfl ⟨rfl, rfl, rfl, rfl, rfl, rfl, rfl, rfl, rfl, rfl, rfl, rfl, rfl, rfl, rfl, rfl, (ci (by omega)), rfl, trivial⟩ ⟨rfl, rfl, rfl, (congrArg (fun z => Ob.tr 31 3 (tD eDfr z)) (dfO_y (by omega) h10)), trivial⟩⟩
        · skip
          have h12 := f_bne h10
          refine a_skip ?_
          show A _ _ _ _ _ _ _
          refine a_region ?_
          refine rg_put (d := 74) (v := .d (.fl (.int .i64 (((n : Int) + 1))))) rfl (og rfl (op_bin rfl rfl rfl (fun x y w => b_add64 _ _ _ x y w (by omega)) rfl)) ?_
          refine rg_put (d := 58) (v := .d (.fl (.int .i64 (((n : Int) + 1))))) rfl (og rfl (op_move rfl rfl rfl)) ?_
          refine rg_done rfl ?_
          show ∃ i, _ ∧ _ ∧ Imp _ _ _ _ _
          refine ⟨n + 1, (by omega), by omega, imp_forget rfl ⟨rfl, rfl, rfl, rfl, rfl, rfl, rfl, rfl, rfl, rfl, rfl, rfl, rfl, rfl, rfl, rfl, (ci (by omega)), rfl, trivial⟩ ⟨rfl, rfl, rfl, (congrArg (fun z => Ob.tr 31 3 (tD eDfr z)) (dfO_n (by omega) h10)), trivial⟩⟩
      · skip
        have h13 := f_dec h8
        refine a_exit ?_
        show A _ _ _ _ _ _ _
        refine a_rseq ?_
        refine rg_put (d := 75) (v := .ow 106) rfl (og rfl (op_move rfl rfl rfl)) ?_
        refine rg_put (d := 4) (v := .ow 106) rfl (og rfl (op_assign rfl rfl rfl)) ?_
        refine rg_done rfl ?_
        refine a_imp (imp_leakT 4 106 rfl rfl) ?_
        refine a_ret ?_
        show ∃ ds, ResL _ _ _ ds ∧ RV.of ds = _
        refine ⟨[.sl 3 (List.map eDfr (dfO a.ours b.theirs n))], (.cons (.tmp rfl (.d _)) .nil), ?_⟩
        rw [show n = (kAll a.ours b.theirs).length by omega]; rfl
end Go.Proofs.Ytobgdemhadlgnaa.Wk
