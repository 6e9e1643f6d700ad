/- Words, escapes, joined fields, the builder. Conditions: strings that are not too long. -/
import Derived.Test.YtgfbgkoifcacdaaDoorAvG
import Derived.Test.YtgfbgkoifcacdaaDoorOEc
import Derived.Test.YtgfbgkoifcacdaaDoorOJn
import Derived.Test.YtgfbgkoifcacdaaDoorB6
set_option linter.unusedSimpArgs false
set_option linter.unusedVariables false
namespace Go.Proofs.YtgfbgkoifcacdaaDoor.Wk
open Go Go.RowKit Go.Proofs.YtgfbgkoifcacdaaDoor.Av
theorem GS_drop {n : Int} (h0 : 0 ≤ n) (h1 : n < 19) : (List.drop n.toNat GS)[0]? = some (.fl (.string (ix wds n.toNat))) := by
  unfold GS
  rw [List.getElem?_drop, List.getElem?_map, Nat.add_zero, ix_get (show n.toNat < wds.length by show n.toNat < 19; omega)]
  rfl
def why (n : Int) : ByteArray := if decide (n < 0) = true then ⟨#[]⟩ else if decide (19 ≤ n) = true then ⟨#[]⟩ else ix wds n.toNat
theorem why_neg {n : Int} (h : decide (n < 0) = true) : why n = ⟨#[]⟩ := if_pos h
theorem why_big {n : Int} (h : decide (n < 0) = false) (h2 : decide (19 ≤ n) = true) : why n = ⟨#[]⟩ := by unfold why; rw [if_neg (by rw [h]; decide), if_pos h2]
theorem why_in {n : Int} (h : decide (n < 0) = false) (h2 : decide (19 ≤ n) = false) : why n = ix wds n.toNat := by unfold why; rw [if_neg (by rw [h]; decide), if_neg (by rw [h2]; decide)]
theorem wds_size : ∀ n, n < 19 → (ix wds n).size ≤ 40 := by decide +kernel
theorem why_size (n : Int) : (why n).size ≤ 40 := by
  unfold why
  split
  · decide
  · split
    · decide
    · rename_i h1 h2
      have h1' : ¬ n < 0 := fun h => h1 (decide_eq_true h)
      have h2' : ¬ 19 ≤ n := fun h => h2 (decide_eq_true h)
      exact wds_size _ (by omega)
def es (s : ByteArray) : ByteArray := Go.Proofs.YtgfbgkoifcacdaaDoor.Om.esS s
theorem es44 (s : ByteArray) (h : s.size ≤ 100000) : Ctr Tryd.prog 44 [.fl (.string s)] (.d (.fl (.string (es s)))) := ctr_flat [.string s] (fun w => Go.Proofs.YtgfbgkoifcacdaaDoor.Ow.escape27 s w h)
theorem es48 (s : ByteArray) (h : s.size ≤ 100000) : Ctr Tryd.prog 48 [.fl (.string s)] (.d (.fl (.string (es s)))) := ctr_flat [.string s] (fun w => Go.Proofs.YtgfbgkoifcacdaaDoor.Ow.escape28 s w h)
theorem es_size {s : ByteArray} {n : Nat} (h : s.size ≤ n) : (es s).size ≤ 3 * n + 1 := by
  unfold es Go.Proofs.YtgfbgkoifcacdaaDoor.Om.esS
  split
  · show 1 ≤ _; omega
  · rw [Go.Proofs.YtgfbgkoifcacdaaDoor.Om.strd_size]
    have := Go.Proofs.YtgfbgkoifcacdaaDoor.Om.ek_len s s.size
    omega
def jn (l : List ByteArray) : ByteArray := Go.Proofs.YtgfbgkoifcacdaaDoor.Om.js l l.length
theorem ba_assoc (a b c : ByteArray) : (a ++ b) ++ c = a ++ (b ++ c) := by
  apply ByteArray.ext
  simp only [ByteArray.data_append, Array.append_assoc]
theorem jn_two (a b : ByteArray) : jn [a, b] = (a ++ (⟨#[32]⟩ : ByteArray)) ++ b := by
  show Go.Proofs.YtgfbgkoifcacdaaDoor.Om.js [a, b] 2 = _
  rw [Go.Proofs.YtgfbgkoifcacdaaDoor.Om.js_next _ (by decide), Go.Proofs.YtgfbgkoifcacdaaDoor.Om.js_one]; rfl
theorem jn_three (a b c : ByteArray) : jn ([a, b] ++ [c]) = (((a ++ (⟨#[32]⟩ : ByteArray)) ++ b) ++ (⟨#[32]⟩ : ByteArray)) ++ c := by
  show Go.Proofs.YtgfbgkoifcacdaaDoor.Om.js [a, b, c] 3 = _
  rw [Go.Proofs.YtgfbgkoifcacdaaDoor.Om.js_next _ (by decide), Go.Proofs.YtgfbgkoifcacdaaDoor.Om.js_next _ (by decide), Go.Proofs.YtgfbgkoifcacdaaDoor.Om.js_one]; rfl
theorem jn46 (l : List ByteArray) (hs : (jn l).size ≤ 1000000) : Ctr Tryd.prog 46 [.sl 1 (List.map rS l)] (.d (.fl (.string (jn l)))) := by
  intro vals U w hR
  obtain ⟨v, rfl⟩ : ∃ v, vals = [v] := List.length_eq_one_iff.1 (by simpa using hR.1)
  have hv : Rd w U v (.sl 1 (List.map rS l)) := hR.2 0 v _ rfl rfl
  generalize hd : DV.sl 1 (List.map rS l) = d at hv
  cases hv with
  | sn A c z =>
    injection hd with _ hd
    have hl : l = [] := List.map_eq_nil_iff.1 hd
    subst hl
    refine Calls.mono (Go.Proofs.YtgfbgkoifcacdaaDoor.Ow.join29 A 0 c [] w ⟨rfl, by omega, fun h => absurd h (by omega)⟩ (Nat.zero_le _) hs) ?_
    rintro e w' ⟨rfl, hb⟩
    exact ⟨_, U, rfl, hb, fun _ _ => rfl, .fl _⟩
  | sl b off n c z rows u hn hz hm hcell hr =>
    injection hd with hz1 hd
    subst hz1 hd
    have hn' : l.length = n := by simpa using hn
    have hc : ∀ i, i < n → w.cell? ⟨b, off + i, none⟩ = some (.string (Go.Proofs.YtgfbgkoifcacdaaDoor.Om.sat l i)) := by
      intro i hi
      have hca : cellAt (List.map rS l) i 0 = some (.fl (.string (ix l i))) := by
        unfold cellAt
        rw [List.getElem?_map, ix_get (by omega)]; rfl
      obtain ⟨h1, _, _⟩ := hcell i 0 _ hca
      have h2 := rd_fl (hr i 0 _ hca)
      rw [h2] at h1
      rw [Nat.mul_one, Nat.add_zero] at h1
      exact h1
    refine Calls.mono (Go.Proofs.YtgfbgkoifcacdaaDoor.Ow.join29 (some ⟨b, off, none⟩) n c l w ⟨hn', hm.1, fun h0 => ⟨b, off, rfl, World.block_lt_of_cell? w _ (hc 0 h0), hc⟩⟩ hm.2 (by rw [← hn']; exact hs)) ?_
    rintro e w' ⟨rfl, hb⟩
    rw [← hn']
    exact ⟨_, U, rfl, hb, fun _ _ => rfl, .fl _⟩
  | _ => cases hd
theorem cc_fresh (v : Value) (rows : List (List DV)) : CtrX Tryd.prog 69 [.q 0 v] [.bt 135 [.dv (.fl (.pointer none)), .ow 5 1 rows]] [.bt 135 [.dv (.fl v), .ow 5 1 rows]] (.tu []) := cc_fresh_of (fun b w h1 h2 h3 => Any.Builder_copyCheck_fresh { Tryd.laysJoin with } Tryd.joinExtra.toX72 b w h1 h2 h3) v
theorem cc_used (v : Value) (rows : List (List DV)) : CtrX Tryd.prog 69 [.q 0 v] [.bt 135 [.dv (.fl v), .ow 5 1 rows]] [.bt 135 [.dv (.fl v), .ow 5 1 rows]] (.tu []) := cc_used_of (fun b w h1 => Any.Builder_copyCheck_used { Tryd.laysJoin with } Tryd.joinExtra.toX72 b w h1) v
theorem bstr47 (B b : Nat) (l : List UInt8) (w : World) (h : Lib.IsBuilder 135 5 B b (Lib.byteCells l) w) (hB : B ≤ w.heap.size) : Calls Tryd.prog 47 #[.pointer (some ⟨b, 0, none⟩)] w fun e w' => e = .returned (.string ⟨l.toArray⟩) ∧ Below B w w' := Any.Builder_String_any { Tryd.laysJoin with } Tryd.joinExtra B b l w h hB

set_option maxHeartbeats 4000000 in
set_option maxRecDepth 100000 in
theorem why18 (n : Int) : CtrK Tryd.prog KK 18 [.fl (.int .i64 n)] (.d (.fl (.string (why n)))) := by
  refine ctrK (n := 12) (rs := #[.tmp 2]) (L := [(0, .d (.fl (.int .i64 n)))]) Tryd.func18 rfl rfl rfl rfl rfl (fun w0 U0 hG => ?_)
  refine a_rseq ?_
  refine rg_put (d := 2) (v := .d (.fl (.string (⟨#[]⟩)))) rfl (og rfl (op_assign rfl rfl rfl)) ?_
  refine rg_done rfl ?_
  refine a_seq ?_
  refine a_rseq ?_
  refine rg_put (d := 3) (v := .d (.fl (.int .i64 n))) rfl (og rfl (op_move rfl rfl rfl)) ?_
  refine rg_put (d := 4) (v := .d (.fl (.bool ((decide (n < 0)))))) rfl (og rfl (op_bin rfl rfl rfl (b_lss _ _ _ _) rfl)) ?_
  refine rg_put (d := 5) (v := .d (.fl (.bool ((decide (n < 0)))))) rfl (og rfl (op_move rfl rfl rfl)) ?_
  rcases fot ((decide (n < 0))) with h1 | h1
  · skip
    have h2 := f_dec h1
    refine rg_put (d := 6) (v := .d (.fl (.int .i64 n))) rfl (oy rfl rfl rfl h1 (op_move rfl rfl rfl)) ?_
    refine rg_put (d := 7) (v := .d (.fl (.bool ((decide (19 ≤ n)))))) rfl (oy rfl rfl rfl h1 (op_bin rfl rfl rfl (b_geq _ _ _ _) rfl)) ?_
    refine rg_put (d := 8) (v := .d (.fl (.bool ((decide (19 ≤ n)))))) rfl (og rfl (op_pick rfl rfl (by rw [h1]; rfl) rfl)) ?_
    refine rg_done rfl ?_
    refine a_cond rfl (fun h3 => ?_) (fun h3 => ?_)
    · skip
      have h4 := t_dec h3
      refine a_rseq ?_
      refine rg_put (d := 2) (v := .d (.fl (.string (⟨#[]⟩)))) rfl (og rfl (op_assign rfl rfl rfl)) ?_
      refine rg_done rfl ?_
      refine a_ret ?_
      show ∃ ds, ResL _ _ _ ds ∧ RV.of ds = _
      refine ⟨[.fl (.string (⟨#[]⟩))], (.cons (.tmp rfl (.d _)) .nil), ?_⟩
      rw [why_big h1 h3]; rfl
    · skip
      have h5 := f_dec h3
      refine a_skip ?_
      show A _ _ _ _ _ _ _
      refine a_rseq ?_
      refine rg_put (d := 9) (v := .d (.fl (.int .i64 n))) rfl (og rfl (op_move rfl rfl rfl)) ?_
      refine rg_put (d := 10) (v := .el ((List.drop (n).toNat GS))) rfl (og rfl (op_indexG hG.1 rfl Tryd.underlying144 ti9 rfl (by omega) (by omega) rfl)) ?_
      refine rg_put (d := 11) (v := .d (.fl (.string (ix wds n.toNat)))) rfl (og rfl (op_load_el rfl Tryd.underlying9 rfl rfl (GS_drop (by omega) (by omega)) rfl)) ?_
      refine rg_put (d := 2) (v := .d (.fl (.string (ix wds n.toNat)))) rfl (og rfl (op_assign rfl rfl rfl)) ?_
      refine rg_done rfl ?_
      refine a_ret ?_
      show ∃ ds, ResL _ _ _ ds ∧ RV.of ds = _
      refine ⟨[.fl (.string (ix wds n.toNat))], (.cons (.tmp rfl (.d _)) .nil), ?_⟩
      rw [why_in h1 h3]; rfl
  · skip
    have h6 := t_dec h1
    refine rg_put (d := 6) (v := .d (.fl undef)) rfl (on rfl rfl rfl h1) ?_
    refine rg_put (d := 7) (v := .d (.fl undef)) rfl (on rfl rfl rfl h1) ?_
    refine rg_put (d := 8) (v := .d (.fl (.bool true))) rfl (og rfl (op_pick rfl rfl (by rw [h1]; rfl) rfl)) ?_
    refine rg_done rfl ?_
    refine a_condK rfl rfl ?_
    refine a_rseq ?_
    refine rg_put (d := 2) (v := .d (.fl (.string (⟨#[]⟩)))) rfl (og rfl (op_assign rfl rfl rfl)) ?_
    refine rg_done rfl ?_
    refine a_ret ?_
    show ∃ ds, ResL _ _ _ ds ∧ RV.of ds = _
    refine ⟨[.fl (.string (⟨#[]⟩))], (.cons (.tmp rfl (.d _)) .nil), ?_⟩
    rw [why_neg h1]; rfl
set_option maxHeartbeats 4000000 in
set_option maxRecDepth 100000 in
theorem why19 (n : Int) : Ctr Tryd.prog 19 [.fl (.int .i64 n)] (.d (.fl (.string (why n)))) := by
  have hw19 : wds.length = 19 := rfl
  refine ctr (n := 17) (rs := #[.tmp 2]) (L := [(0, .d (.fl (.int .i64 n)))]) Tryd.func19 rfl rfl rfl rfl rfl (fun w0 U0 => ?_)
  refine a_rseq ?_
  refine rg_put (d := 2) (v := .d (.fl (.string (⟨#[]⟩)))) rfl (og rfl (op_assign rfl rfl rfl)) ?_
  refine rg_done rfl ?_
  refine a_rseq ?_
  refine rg_put (d := 4) (v := .d (.sl 1 (List.map rS wds))) rfl (og rfl (of_eff (op_slices rfl Tryd.underlying137 ti9 rfl rfl rfl (by kernel_rfl) (xs := [.fl (.string (⟨#[]⟩)), .fl (.string (⟨#[117, 110, 107, 110, 111, 119, 110, 32, 100, 101, 118, 105, 99, 101]⟩)), .fl (.string (⟨#[105, 110, 118, 97, 108, 105, 100, 32, 116, 105, 109, 101]⟩)), .fl (.string (⟨#[109, 97, 108, 102, 111, 114, 109, 101, 100, 32, 114, 101, 97, 100, 105, 110, 103]⟩)), .fl (.string (⟨#[99, 111, 110, 102, 108, 105, 99, 116, 105, 110, 103, 32, 114, 101, 112, 111, 114, 116, 115]⟩)), .fl (.string (⟨#[111, 117, 116, 32, 111, 102, 32, 115, 101, 114, 118, 105, 99, 101]⟩)), .fl (.string (⟨#[117, 110, 97, 115, 115, 105, 103, 110, 101, 100, 32, 97, 120, 108, 101, 115]⟩)), .fl (.string (⟨#[108, 111, 119, 32, 99, 111, 110, 102, 105, 100, 101, 110, 99, 101]⟩)), .fl (.string (⟨#[116, 111, 111, 32, 109, 97, 110, 121, 32, 100, 101, 116, 101, 99, 116, 105, 111, 110, 115]⟩)), .fl (.string (⟨#[101, 108, 115, 101, 119, 104, 101, 114, 101, 32, 97, 116, 32, 116, 104, 97, 116, 32, 116, 105, 109, 101]⟩)), .fl (.string (⟨#[110, 111, 32, 101, 110, 116, 114, 121]⟩)), .fl (.string (⟨#[110, 111, 32, 101, 120, 105, 116]⟩)), .fl (.string (⟨#[99, 104, 101, 99, 107, 32, 112, 111, 105, 110, 116, 115, 32, 97, 108, 111, 110, 101]⟩)), .fl (.string (⟨#[110, 111, 32, 114, 97, 116, 101]⟩)), .fl (.string (⟨#[119, 97, 105, 118, 101, 100, 32, 102, 111, 114, 32, 97, 110, 32, 111, 117, 116, 97, 103, 101]⟩)), .fl (.string (⟨#[101, 120, 101, 109, 112, 116]⟩)), .fl (.string (⟨#[99, 97, 112, 112, 101, 100]⟩)), .fl (.string (⟨#[110, 111, 32, 97, 99, 99, 111, 117, 110, 116]⟩)), .fl (.string (⟨#[97, 108, 114, 101, 97, 100, 121, 32, 112, 97, 105, 100]⟩))]) rfl rfl (.cons rfl rfl (.d _) rfl rfl rfl (.cons rfl rfl (.d _) rfl rfl rfl (.cons rfl rfl (.d _) rfl rfl rfl (.cons rfl rfl (.d _) rfl rfl rfl (.cons rfl rfl (.d _) rfl rfl rfl (.cons rfl rfl (.d _) rfl rfl rfl (.cons rfl rfl (.d _) rfl rfl rfl (.cons rfl rfl (.d _) rfl rfl rfl (.cons rfl rfl (.d _) rfl rfl rfl (.cons rfl rfl (.d _) rfl rfl rfl (.cons rfl rfl (.d _) rfl rfl rfl (.cons rfl rfl (.d _) rfl rfl rfl (.cons rfl rfl (.d _) rfl rfl rfl (.cons rfl rfl (.d _) rfl rfl rfl (.cons rfl rfl (.d _) rfl rfl rfl (.cons rfl rfl (.d _) rfl rfl rfl (.cons rfl rfl (.d _) rfl rfl rfl (.cons rfl rfl (.d _) rfl rfl rfl (.cons rfl rfl (.d _) rfl rfl rfl .nil))))))))))))))))))) rfl) rfl)) ?_
  refine rg_put (d := 3) (v := .d (.sl 1 (List.map rS wds))) rfl (og rfl (op_assign rfl rfl rfl)) ?_
  refine rg_done rfl ?_
  refine a_seq ?_
  refine a_rseq ?_
  refine rg_put (d := 5) (v := .d (.fl (.int .i64 n))) rfl (og rfl (op_move rfl rfl rfl)) ?_
  refine rg_put (d := 6) (v := .d (.fl (.bool ((decide (n < 0)))))) rfl (og rfl (op_bin rfl rfl rfl (b_lss _ _ _ _) rfl)) ?_
  refine rg_put (d := 7) (v := .d (.fl (.bool ((decide (n < 0)))))) rfl (og rfl (op_move rfl rfl rfl)) ?_
  rcases fot ((decide (n < 0))) with h1 | h1
  · skip
    have h2 := f_dec h1
    refine rg_put (d := 8) (v := .d (.fl (.int .i64 n))) rfl (oy rfl rfl rfl h1 (op_move rfl rfl rfl)) ?_
    refine rg_put (d := 9) (v := .d (.sl 1 (List.map rS wds))) rfl (oy rfl rfl rfl h1 (op_move rfl rfl rfl)) ?_
    refine rg_put (d := 10) (v := .d (.fl (.int .i64 (wds.length : Int)))) rfl (oy rfl rfl rfl h1 (s_len rfl Tryd.underlying137 rfl rfl)) ?_
    refine rg_put (d := 11) (v := .d (.fl (.bool ((decide ((wds.length : Int) ≤ n)))))) rfl (oy rfl rfl rfl h1 (op_bin rfl rfl rfl (b_geq _ _ _ _) rfl)) ?_
    refine rg_put (d := 12) (v := .d (.fl (.bool ((decide ((wds.length : Int) ≤ n)))))) rfl (og rfl (op_pick rfl rfl (by rw [h1]; rfl) rfl)) ?_
    refine rg_done rfl ?_
    refine a_cond rfl (fun h3 => ?_) (fun h3 => ?_)
    · skip
      have h4 := t_dec h3
      refine a_rseq ?_
      refine rg_put (d := 2) (v := .d (.fl (.string (⟨#[]⟩)))) rfl (og rfl (op_assign rfl rfl rfl)) ?_
      refine rg_done rfl ?_
      refine a_ret ?_
      show ∃ ds, ResL _ _ _ ds ∧ RV.of ds = _
      refine ⟨[.fl (.string (⟨#[]⟩))], (.cons (.tmp rfl (.d _)) .nil), ?_⟩
      rw [why_big h1 (by exact h3)]; rfl
    · skip
      have h5 := f_dec h3
      refine a_skip ?_
      show A _ _ _ _ _ _ _
      refine a_rseq ?_
      refine rg_put (d := 13) (v := .d (.sl 1 (List.map rS wds))) rfl (og rfl (op_move rfl rfl rfl)) ?_
      refine rg_put (d := 14) (v := .d (.fl (.int .i64 n))) rfl (og rfl (op_move rfl rfl rfl)) ?_
      refine rg_put (d := 15) (v := .el ((rS ((ix wds (n).toNat))))) rfl (og rfl (s_index rfl Tryd.underlying137 ti9 rfl rfl (by omega) (row_atI (by omega) (by omega)) rfl)) ?_
      refine rg_put (d := 16) (v := .d (.fl (.string ((ix wds (n).toNat))))) rfl (og rfl (op_load_el rfl Tryd.underlying9 rfl rfl rfl rfl)) ?_
      refine rg_put (d := 2) (v := .d (.fl (.string ((ix wds (n).toNat))))) rfl (og rfl (op_assign rfl rfl rfl)) ?_
      refine rg_done rfl ?_
      refine a_ret ?_
      show ∃ ds, ResL _ _ _ ds ∧ RV.of ds = _
      refine ⟨[.fl (.string ((ix wds (n).toNat)))], (.cons (.tmp rfl (.d _)) .nil), ?_⟩
      rw [why_in h1 (by exact h3)]; rfl
  · skip
    have h6 := t_dec h1
    refine rg_put (d := 8) (v := .d (.fl undef)) rfl (on rfl rfl rfl h1) ?_
    refine rg_put (d := 9) (v := .d (.fl undef)) rfl (on rfl rfl rfl h1) ?_
    refine rg_put (d := 10) (v := .d (.fl undef)) rfl (on rfl rfl rfl h1) ?_
    refine rg_put (d := 11) (v := .d (.fl undef)) rfl (on rfl rfl rfl h1) ?_
    refine rg_put (d := 12) (v := .d (.fl (.bool true))) rfl (og rfl (op_pick rfl rfl (by rw [h1]; rfl) rfl)) ?_
    refine rg_done rfl ?_
    refine a_condK rfl rfl ?_
    refine a_rseq ?_
    refine rg_put (d := 2) (v := .d (.fl (.string (⟨#[]⟩)))) rfl (og rfl (op_assign rfl rfl rfl)) ?_
    refine rg_done rfl ?_
    refine a_ret ?_
    show ∃ ds, ResL _ _ _ ds ∧ RV.of ds = _
    refine ⟨[.fl (.string (⟨#[]⟩))], (.cons (.tmp rfl (.d _)) .nil), ?_⟩
    rw [why_neg h1]; rfl
set_option maxHeartbeats 4000000 in
set_option maxRecDepth 100000 in
theorem ws_fresh (u s : ByteArray) (v : Value) (hs : u.size + s.size ≤ 100000000) : CtrX Tryd.prog 45 [.q 0 v, .d (.fl (.string s))] [.bt 135 [.dv (.fl (.pointer none)), .ow 5 1 (List.map (rI .u8) (bys u))]] [.bt 135 [.dv (.fl v), .ow 5 1 (List.map (rI .u8) (bys (u ++ s)))]] (.tu [.fl (.int .i64 s.size), .fl .nilIface]) := by
  refine ctrX (n := 19) (rs := #[.tmp 4, .tmp 5]) Tryd.func45 rfl rfl rfl rfl rfl rfl rfl rfl (fun w0 U0 vv H V Q => ?_)
  show A _ _ _ _ _ _ (SS [(0, .pv 0 v), (1, .d (.fl (.string s)))] [(0, .bt 135 [.dv (.fl (.pointer none)), .ow 5 1 (List.map (rI .u8) (bys u))]), (1, .pin H V Q)])
  refine a_rseq ?_
  refine rg_put (d := 4) (v := .d (.fl (.int .i64 0))) rfl (og rfl (op_assign rfl rfl rfl)) ?_
  refine rg_put (d := 5) (v := .d (.fl (.nilIface))) rfl (og rfl (op_assign rfl rfl rfl)) ?_
  refine rg_done rfl ?_
  refine a_rseq ?_
  refine rg_put (d := 6) (v := .pv 0 v) rfl (og rfl (op_move rfl rfl rfl)) ?_
  refine rg_upd (d := 7) (v := .tu []) (nw := [(0, .bt 135 [.dv (.fl v), .ow 5 1 (List.map (rI .u8) (bys u))])]) rfl (og rfl (of_eff (op_callX [0] (obs := [.bt 135 [.dv (.fl (.pointer none)), .ow 5 1 (List.map (rI .u8) (bys u))]]) (obs' := [.bt 135 [.dv (.fl v), .ow 5 1 (List.map (rI .u8) (bys u))]]) (r := .tu []) rfl Tryd.func69 nm69 rfl (.q 0 rfl rfl .nil) rfl (And.intro rfl trivial) rfl rfl rfl (cc_fresh v (List.map (rI .u8) (bys u))) rfl) rfl)) ?_
  refine rg_done rfl ?_
  refine a_rseq ?_
  refine rg_put (d := 8) (v := .pv 0 v) rfl (og rfl (op_move rfl rfl rfl)) ?_
  refine rg_put (d := 9) (v := .pv 0 v) rfl (og rfl (op_move rfl rfl rfl)) ?_
  refine rg_put (d := 10) (v := .pt 0 0) rfl (og rfl (op_nilCheck rfl rfl rfl)) ?_
  refine rg_put (d := 11) (v := .pt 0 1) rfl (og rfl (of_eff (s_field_pt rfl Tryd.underlying135 rfl ti133 rfl rfl rfl) rfl)) ?_
  refine rg_nam (d := 12) (v := .ow 101) (m := 101) (nw := [(101, .tr 5 1 (tD (rI .u8) (bys u))), (0, .bt 135 [.dv (.fl v), .un])]) rfl (og rfl (of_eff (op_takeBt 101 rfl Tryd.underlying133 rfl rfl rfl rfl rfl rfl) rfl)) rfl ?_
  refine rg_put (d := 13) (v := .d (.fl (.string s))) rfl (og rfl (op_move rfl rfl rfl)) ?_
  refine rg_nam (d := 14) (v := .ow 102) (m := 102) (nw := [(102, .tr 5 1 (tD (rI .u8) (((bys u) ++ bys s)))), (101, .no)]) rfl (og rfl (of_eff (op_appendStr 102 rfl Tryd.underlying133 Tryd.underlying9 ti5 rfl rfl rfl (by simp only [bys_len]; omega) rfl) rfl)) rfl ?_
  refine rg_put (d := 15) (v := .pt 0 0) rfl (og rfl (op_nilCheck rfl rfl rfl)) ?_
  refine rg_put (d := 16) (v := .pt 0 1) rfl (og rfl (of_eff (s_field_pt rfl Tryd.underlying135 rfl ti133 rfl rfl rfl) rfl)) ?_
  refine rg_sto (nw := [(0, .bt 135 [.dv (.fl v), .ow 5 1 (List.map (rI .u8) (((bys u) ++ bys s)))]), (102, .no)]) rfl (og rfl (of_eff (op_store_bt rfl rfl ti133 rfl rfl rfl (.tr rfl) rfl rfl rfl) rfl)) ?_
  refine rg_done rfl ?_
  refine a_rseq ?_
  rw [show (bys u ++ bys s) = (bys (u ++ s)) from bys_app _ _]
  refine rg_put (d := 17) (v := .d (.fl (.string s))) rfl (og rfl (op_move rfl rfl rfl)) ?_
  refine rg_put (d := 18) (v := .d (.fl (.int .i64 (s.size : Int)))) rfl (og rfl (op_len_str rfl Tryd.underlying9 rfl rfl)) ?_
  refine rg_put (d := 4) (v := .d (.fl (.int .i64 (s.size : Int)))) rfl (og rfl (op_assign rfl rfl rfl)) ?_
  refine rg_put (d := 5) (v := .d (.fl (.nilIface))) rfl (og rfl (op_assign rfl rfl rfl)) ?_
  refine rg_done rfl ?_
  refine a_ret ?_
  show (∃ ds, ResL _ _ _ ds ∧ RV.of ds = _) ∧ _ ∧ _
  refine ⟨⟨[.fl (.int .i64 (s.size : Int)), .fl (.nilIface)], (.cons (.tmp rfl (.d _)) (.cons (.tmp rfl (.d _)) .nil)), ?_⟩, (And.intro rfl trivial), (And.intro rfl rfl)⟩
  rfl
set_option maxHeartbeats 4000000 in
set_option maxRecDepth 100000 in
theorem ws_used (u s : ByteArray) (v : Value) (hs : u.size + s.size ≤ 100000000) : CtrX Tryd.prog 45 [.q 0 v, .d (.fl (.string s))] [.bt 135 [.dv (.fl v), .ow 5 1 (List.map (rI .u8) (bys u))]] [.bt 135 [.dv (.fl v), .ow 5 1 (List.map (rI .u8) (bys (u ++ s)))]] (.tu [.fl (.int .i64 s.size), .fl .nilIface]) := by
  refine ctrX (n := 19) (rs := #[.tmp 4, .tmp 5]) Tryd.func45 rfl rfl rfl rfl rfl rfl rfl rfl (fun w0 U0 vv H V Q => ?_)
  show A _ _ _ _ _ _ (SS [(0, .pv 0 v), (1, .d (.fl (.string s)))] [(0, .bt 135 [.dv (.fl v), .ow 5 1 (List.map (rI .u8) (bys u))]), (1, .pin H V Q)])
  refine a_rseq ?_
  refine rg_put (d := 4) (v := .d (.fl (.int .i64 0))) rfl (og rfl (op_assign rfl rfl rfl)) ?_
  refine rg_put (d := 5) (v := .d (.fl (.nilIface))) rfl (og rfl (op_assign rfl rfl rfl)) ?_
  refine rg_done rfl ?_
  refine a_rseq ?_
  refine rg_put (d := 6) (v := .pv 0 v) rfl (og rfl (op_move rfl rfl rfl)) ?_
  refine rg_upd (d := 7) (v := .tu []) (nw := [(0, .bt 135 [.dv (.fl v), .ow 5 1 (List.map (rI .u8) (bys u))])]) rfl (og rfl (of_eff (op_callX [0] (obs := [.bt 135 [.dv (.fl v), .ow 5 1 (List.map (rI .u8) (bys u))]]) (obs' := [.bt 135 [.dv (.fl v), .ow 5 1 (List.map (rI .u8) (bys u))]]) (r := .tu []) rfl Tryd.func69 nm69 rfl (.q 0 rfl rfl .nil) rfl (And.intro rfl trivial) rfl rfl rfl (cc_used v (List.map (rI .u8) (bys u))) rfl) rfl)) ?_
  refine rg_done rfl ?_
  refine a_rseq ?_
  refine rg_put (d := 8) (v := .pv 0 v) rfl (og rfl (op_move rfl rfl rfl)) ?_
  refine rg_put (d := 9) (v := .pv 0 v) rfl (og rfl (op_move rfl rfl rfl)) ?_
  refine rg_put (d := 10) (v := .pt 0 0) rfl (og rfl (op_nilCheck rfl rfl rfl)) ?_
  refine rg_put (d := 11) (v := .pt 0 1) rfl (og rfl (of_eff (s_field_pt rfl Tryd.underlying135 rfl ti133 rfl rfl rfl) rfl)) ?_
  refine rg_nam (d := 12) (v := .ow 101) (m := 101) (nw := [(101, .tr 5 1 (tD (rI .u8) (bys u))), (0, .bt 135 [.dv (.fl v), .un])]) rfl (og rfl (of_eff (op_takeBt 101 rfl Tryd.underlying133 rfl rfl rfl rfl rfl rfl) rfl)) rfl ?_
  refine rg_put (d := 13) (v := .d (.fl (.string s))) rfl (og rfl (op_move rfl rfl rfl)) ?_
  refine rg_nam (d := 14) (v := .ow 102) (m := 102) (nw := [(102, .tr 5 1 (tD (rI .u8) (((bys u) ++ bys s)))), (101, .no)]) rfl (og rfl (of_eff (op_appendStr 102 rfl Tryd.underlying133 Tryd.underlying9 ti5 rfl rfl rfl (by simp only [bys_len]; omega) rfl) rfl)) rfl ?_
  refine rg_put (d := 15) (v := .pt 0 0) rfl (og rfl (op_nilCheck rfl rfl rfl)) ?_
  refine rg_put (d := 16) (v := .pt 0 1) rfl (og rfl (of_eff (s_field_pt rfl Tryd.underlying135 rfl ti133 rfl rfl rfl) rfl)) ?_
  refine rg_sto (nw := [(0, .bt 135 [.dv (.fl v), .ow 5 1 (List.map (rI .u8) (((bys u) ++ bys s)))]), (102, .no)]) rfl (og rfl (of_eff (op_store_bt rfl rfl ti133 rfl rfl rfl (.tr rfl) rfl rfl rfl) rfl)) ?_
  refine rg_done rfl ?_
  refine a_rseq ?_
  rw [show (bys u ++ bys s) = (bys (u ++ s)) from bys_app _ _]
  refine rg_put (d := 17) (v := .d (.fl (.string s))) rfl (og rfl (op_move rfl rfl rfl)) ?_
  refine rg_put (d := 18) (v := .d (.fl (.int .i64 (s.size : Int)))) rfl (og rfl (op_len_str rfl Tryd.underlying9 rfl rfl)) ?_
  refine rg_put (d := 4) (v := .d (.fl (.int .i64 (s.size : Int)))) rfl (og rfl (op_assign rfl rfl rfl)) ?_
  refine rg_put (d := 5) (v := .d (.fl (.nilIface))) rfl (og rfl (op_assign rfl rfl rfl)) ?_
  refine rg_done rfl ?_
  refine a_ret ?_
  show (∃ ds, ResL _ _ _ ds ∧ RV.of ds = _) ∧ _ ∧ _
  refine ⟨⟨[.fl (.int .i64 (s.size : Int)), .fl (.nilIface)], (.cons (.tmp rfl (.d _)) (.cons (.tmp rfl (.d _)) .nil)), ?_⟩, (And.intro rfl trivial), (And.intro rfl rfl)⟩
  rfl
def flds (x : Fc) : List ByteArray := if (x.why != 0) = true then [x.kind, es x.key] ++ [why x.why] else [x.kind, es x.key]
def lnF (x : Fc) : ByteArray := jn (flds x) ++ (⟨#[10]⟩ : ByteArray)
def prS (l : List Fc) : Nat → ByteArray
  | 0 => ⟨#[]⟩
  | k + 1 => prS l k ++ lnF (ix l k)
def okF (l : List Fc) : Prop := l.length ≤ 1000 ∧ ∀ q, q < l.length → (ix l q).kind.size ≤ 300 ∧ (ix l q).key.size ≤ 300
theorem flds_yes {x : Fc} (h : (x.why != 0) = true) : flds x = [x.kind, es x.key] ++ [why x.why] := if_pos h
theorem flds_no {x : Fc} (h : (x.why != 0) = false) : flds x = [x.kind, es x.key] := if_neg (by rw [h]; decide)
theorem jn_size {x : Fc} (h1 : x.kind.size ≤ 300) (h2 : x.key.size ≤ 300) : (jn (flds x)).size ≤ 1300 := by
  have h3 := es_size h2
  have h4 := why_size x.why
  cases h : (x.why != 0) with
  | true =>
    rw [flds_yes h, jn_three]
    simp only [ByteArray.size_append]
    show x.kind.size + 1 + (es x.key).size + 1 + (why x.why).size ≤ 1300
    omega
  | false =>
    rw [flds_no h, jn_two]
    simp only [ByteArray.size_append]
    show x.kind.size + 1 + (es x.key).size ≤ 1300
    omega
theorem prS_size {l : List Fc} (h : okF l) : ∀ k, k ≤ l.length → (prS l k).size ≤ 1301 * k
  | 0, _ => by show 0 ≤ _; omega
  | k + 1, hk => by
    have h1 := prS_size h k (by omega)
    have h2 := h.2 k (by omega)
    have h3 := jn_size h2.1 h2.2
    rw [prS, ByteArray.size_append]
    unfold lnF
    rw [ByteArray.size_append]
    show _ + ((jn (flds (ix l k))).size + 1) ≤ _
    omega
theorem ref_yes {l : List Fc} {k : Nat} (h : ((ix l k).why != 0) = true) : ((((((prS l k ++ (ix l k).kind) ++ (⟨#[32]⟩ : ByteArray)) ++ es (ix l k).key) ++ (⟨#[32]⟩ : ByteArray)) ++ why (ix l k).why) ++ (⟨#[10]⟩ : ByteArray)) = prS l (k + 1) := by
  rw [prS, lnF, flds_yes h, jn_three]
  simp only [ba_assoc]
theorem ref_no {l : List Fc} {k : Nat} (h : ((ix l k).why != 0) = false) : ((((prS l k ++ (ix l k).kind) ++ (⟨#[32]⟩ : ByteArray)) ++ es (ix l k).key) ++ (⟨#[10]⟩ : ByteArray)) = prS l (k + 1) := by
  rw [prS, lnF, flds_no h, jn_two]
  simp only [ba_assoc]

end Go.Proofs.YtgfbgkoifcacdaaDoor.Wk
