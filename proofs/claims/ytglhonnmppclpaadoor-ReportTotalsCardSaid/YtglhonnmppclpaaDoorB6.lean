/- The report of the totals, both sides. Conditions: lists of at most 40 elements, amounts that fit. -/
import Derived.Test.YtglhonnmppclpaaDoorLt
import Derived.Test.YtglhonnmppclpaaDoorJc
import Derived.Test.YtglhonnmppclpaaDoorB5
set_option linter.unusedSimpArgs false
set_option linter.unusedVariables false
namespace Go.Proofs.YtglhonnmppclpaaDoor.Wk
open Go Go.RowKit Go.Proofs.YtglhonnmppclpaaDoor.Av
theorem jc48 (l : List ByteArray) (hn0 : l.length ≤ 1000000) (hs : (Go.Proofs.YtglhonnmppclpaaDoor.Ow.jc l).size ≤ 1000000) : Ctr Tryd.prog 48 [.sl 1 (List.map rS l), .fl (.string ⟨#[]⟩)] (.d (.fl (.string (Go.Proofs.YtglhonnmppclpaaDoor.Ow.jc l)))) := by
  intro vals U w hR
  obtain ⟨v, z0, rfl⟩ : ∃ v z0, vals = [v, z0] := by
    have h9 : vals.length = 2 := by simpa using hR.1
    match vals, h9 with
    | [a, b], _ => exact ⟨a, b, rfl⟩
  have hz0 := rd_fl (hR.2 1 z0 _ rfl rfl)
  subst hz0
  have hv : Rd w U v (.sl 1 (List.map rS l)) := hR.2 0 v _ rfl rfl
  generalize hd : DV.sl 1 (List.map rS l) = d at hv
  cases hv with
  | sn A c z =>
    injection hd with _ hd
    have hl : l = [] := List.map_eq_nil_iff.1 hd
    subst hl
    refine Calls.mono (Go.Proofs.YtglhonnmppclpaaDoor.Ow.jcW A 0 c [] w ⟨rfl, by omega, fun h => absurd h (by omega)⟩ (Nat.zero_le _) (by omega) hs) ?_
    rintro e w' ⟨rfl, hb⟩
    exact ⟨_, U, rfl, hb, fun _ _ => rfl, .fl _⟩
  | sl b off n c z rows u hn hz hm hcell hr =>
    injection hd with hz1 hd
    subst hz1 hd
    have hn' : l.length = n := by simpa using hn
    have hc : ∀ i, i < n → w.cell? ⟨b, off + i, none⟩ = some (.string (Go.Proofs.YtglhonnmppclpaaDoor.Om.sat l i)) := by
      intro i hi
      have hca : cellAt (List.map rS l) i 0 = some (.fl (.string (ix l i))) := by
        unfold cellAt
        rw [List.getElem?_map, ix_get (by omega)]; rfl
      obtain ⟨h1, _, _⟩ := hcell i 0 _ hca
      have h2 := rd_fl (hr i 0 _ hca)
      rw [h2] at h1
      rw [Nat.mul_one, Nat.add_zero] at h1
      exact h1
    refine Calls.mono (Go.Proofs.YtglhonnmppclpaaDoor.Ow.jcW (some ⟨b, off, none⟩) n c l w ⟨hn', hm.1, fun h0 => ⟨b, off, rfl, World.block_lt_of_cell? w _ (hc 0 h0), hc⟩⟩ hm.2 (by omega) hs) ?_
    rintro e w' ⟨rfl, hb⟩
    exact ⟨_, U, rfl, hb, fun _ _ => rfl, .fl _⟩
  | _ => cases hd
open Go.Proofs.YtglhonnmppclpaaDoor.Lq (opn opn21 opn22)
def gO (x : Cs) : List Cs := if opn x = true then [x] else []
def opF (l : List Cs) (k : Nat) : List Cs := cat gO l k
theorem op_yes {l : List Cs} {k : Nat} (h : opn (ix l k) = true) : opF l k ++ [ix l k] = opF l (k + 1) := by
  show _ = cat gO l k ++ gO (ix l k)
  unfold gO; rw [if_pos h]; rfl
theorem op_no {l : List Cs} {k : Nat} (h : opn (ix l k) = false) : opF l k = opF l (k + 1) := by
  show _ = cat gO l k ++ gO (ix l k)
  unfold gO; rw [if_neg (by rw [h]; decide), List.append_nil]; rfl
theorem opn_yes {l : List Cs} {k : Nat} (h : opn (ix l k) = true) : ((opF l k).length : Int) + 1 = ((opF l (k + 1)).length : Int) := by rw [← op_yes h, List.length_append]; rfl
theorem opn_no {l : List Cs} {k : Nat} (h : opn (ix l k) = false) : ((opF l k).length : Int) = ((opF l (k + 1)).length : Int) := by rw [← op_no h]
theorem opF_len (l : List Cs) (k : Nat) (hk : k ≤ l.length) : (opF l k).length ≤ k := by
  have := cat_len (g := gO) (l := l) (c := 1) (fun x _ => by unfold gO; split <;> simp) k hk
  unfold opF; omega
theorem l2_jn {w : ByteArray} {n : Int} (hw : w.size ≤ 12) (h : in64 n) : (jn [w, fm n]).size ≤ 44 := jn_bound (c := 21) (List.forall_mem_cons.2 ⟨(by omega), (List.forall_mem_cons.2 ⟨(fm_size h), (fun _ h => by cases h)⟩)⟩)
theorem l2_ln {w : ByteArray} {n : Int} (hw : w.size ≤ 12) (h : in64 n) : (ln [w, fm n]).size ≤ 45 := by have h1 := l2_jn hw h; have h2 := ln_size [w, fm n]; omega
theorem ld_jn {w : ByteArray} (d : Int) (hw : w.size ≤ 12) : (jn [w, dtS d]).size ≤ 142 := jn_bound (c := 70) (List.forall_mem_cons.2 ⟨(by omega), (List.forall_mem_cons.2 ⟨(dtS_size d), (fun _ h => by cases h)⟩)⟩)
theorem ld_ln {w : ByteArray} (d : Int) (hw : w.size ≤ 12) : (ln [w, dtS d]).size ≤ 143 := by have h1 := ld_jn d hw; have h2 := ln_size [w, dtS d]; omega
theorem l3_jn {w : ByteArray} {n t : Int} (hw : w.size ≤ 12) (h : in64 n) (h2 : in64 t) : (jn [w, fm n, sh t]).size ≤ 78 := jn_bound (c := 25) (List.forall_mem_cons.2 ⟨(by omega), (List.forall_mem_cons.2 ⟨(Nat.le_trans (fm_size h) (by decide)), (List.forall_mem_cons.2 ⟨(sh_size h2), (fun _ h => by cases h)⟩)⟩)⟩)
theorem l3_ln {w : ByteArray} {n t : Int} (hw : w.size ≤ 12) (h : in64 n) (h2 : in64 t) : (ln [w, fm n, sh t]).size ≤ 79 := by have h1 := l3_jn hw h h2; have h2 := ln_size [w, fm n, sh t]; omega
theorem l4_jn {w : ByteArray} {n t : Int} (hw : w.size ≤ 12) (h : in64 n) (h2 : in64 t) : (jn [w, fm n, fm t]).size ≤ 78 := jn_bound (c := 25) (List.forall_mem_cons.2 ⟨(by omega), (List.forall_mem_cons.2 ⟨(Nat.le_trans (fm_size h) (by decide)), (List.forall_mem_cons.2 ⟨(Nat.le_trans (fm_size h2) (by decide)), (fun _ h => by cases h)⟩)⟩)⟩)
theorem l4_ln {w : ByteArray} {n t : Int} (hw : w.size ≤ 12) (h : in64 n) (h2 : in64 t) : (ln [w, fm n, fm t]).size ≤ 79 := by have h1 := l4_jn hw h h2; have h2 := ln_size [w, fm n, fm t]; omega
structure OkT (s : Sa) : Prop where
  chg : OkL s.res.chg
  en : OkE s.books.led.e
  cs : s.cases.length ≤ 40
  pass : s.res.pass.length ≤ 9223372036854775807
  rej : s.res.rej.length ≤ 9223372036854775807
  trips : s.res.trips.length ≤ 9223372036854775807
  stays : s.res.stays.length ≤ 9223372036854775807
  exc : s.res.exc.length ≤ 9223372036854775807
  done : s.books.done.length ≤ 9223372036854775807
  count : in64 s.count
def tS (s : Sa) : ByteArray := ((((((((((ln [⟨#[101, 118, 101, 110, 116, 115]⟩, fm s.count]) ++ ln [⟨#[99, 108, 111, 115, 101, 100]⟩, dtS s.closed]) ++ ln [⟨#[112, 97, 115, 115, 97, 103, 101, 115]⟩, fm (s.res.pass.length : Int)]) ++ ln [⟨#[114, 101, 106, 101, 99, 116, 115]⟩, fm (s.res.rej.length : Int)]) ++ ln [⟨#[116, 114, 105, 112, 115]⟩, fm (s.res.trips.length : Int)]) ++ ln [⟨#[115, 116, 97, 121, 115]⟩, fm (s.res.stays.length : Int)]) ++ ln [⟨#[99, 104, 97, 114, 103, 101, 115]⟩, fm (s.res.chg.length : Int), sh (tot s.res.chg s.res.chg.length)]) ++ ln [⟨#[101, 120, 99, 108, 117, 115, 105, 111, 110, 115]⟩, fm (s.res.exc.length : Int)]) ++ ln [⟨#[112, 111, 115, 116, 101, 100]⟩, fm (s.books.done.length : Int)]) ++ ln [⟨#[101, 110, 116, 114, 105, 101, 115]⟩, fm (s.books.led.e.length : Int), sh (dbE s.books.led.e s.books.led.e.length)]) ++ ln [⟨#[99, 97, 115, 101, 115]⟩, fm (s.cases.length : Int), fm ((opF s.cases s.cases.length).length : Int)]
theorem tS_jc (s : Sa) : Go.Proofs.YtglhonnmppclpaaDoor.Ow.jc [ln [⟨#[101, 118, 101, 110, 116, 115]⟩, fm s.count], ln [⟨#[99, 108, 111, 115, 101, 100]⟩, dtS s.closed], ln [⟨#[112, 97, 115, 115, 97, 103, 101, 115]⟩, fm (s.res.pass.length : Int)], ln [⟨#[114, 101, 106, 101, 99, 116, 115]⟩, fm (s.res.rej.length : Int)], ln [⟨#[116, 114, 105, 112, 115]⟩, fm (s.res.trips.length : Int)], ln [⟨#[115, 116, 97, 121, 115]⟩, fm (s.res.stays.length : Int)], ln [⟨#[99, 104, 97, 114, 103, 101, 115]⟩, fm (s.res.chg.length : Int), sh (tot s.res.chg s.res.chg.length)], ln [⟨#[101, 120, 99, 108, 117, 115, 105, 111, 110, 115]⟩, fm (s.res.exc.length : Int)], ln [⟨#[112, 111, 115, 116, 101, 100]⟩, fm (s.books.done.length : Int)], ln [⟨#[101, 110, 116, 114, 105, 101, 115]⟩, fm (s.books.led.e.length : Int), sh (dbE s.books.led.e s.books.led.e.length)], ln [⟨#[99, 97, 115, 101, 115]⟩, fm (s.cases.length : Int), fm ((opF s.cases s.cases.length).length : Int)]] = tS s := by
  unfold tS
  simp only [Go.Proofs.YtglhonnmppclpaaDoor.Ow.jc_cons, Go.Proofs.YtglhonnmppclpaaDoor.Ow.jc_nil, ba_assoc]
  rw [show ∀ a : ByteArray, a ++ (⟨#[]⟩ : ByteArray) = a from fun a => ByteArray.append_empty]

set_option maxHeartbeats 4000000 in
set_option maxRecDepth 100000 in
theorem op54 (s : Sa) (hl : s.cases.length ≤ 40) : Ctr Tryd.prog 54 [.ag (eSa s)] (.d (.sl 12 (List.map eCs (opF s.cases s.cases.length)))) := by
  refine ctr (n := 21) (rs := #[.tmp 2]) (L := [(0, .d (.ag (eSa s)))]) Tryd.func54 rfl rfl rfl rfl rfl (fun w0 U0 => ?_)
  refine a_rseq ?_
  refine rg_nam (d := 1) (v := .pt 101 0) (m := 101) (nw := [(101, .bx 70 (eSa s))]) rfl (og rfl (of_eff (op_box 101 rfl rfl rfl rfl) rfl)) rfl ?_
  refine rg_put (d := 2) (v := .d (.fl (.slice none 0 0))) rfl (og rfl (op_assign rfl rfl rfl)) ?_
  refine rg_done rfl ?_
  refine a_rseq ?_
  refine rg_put (d := 3) (v := .d (.fl (.slice none 0 0))) rfl (og rfl (op_assign rfl rfl rfl)) ?_
  refine rg_done rfl ?_
  refine a_seq ?_
  refine a_rseq ?_
  refine rg_put (d := 6) (v := .pt 101 37) rfl (og rfl (of_eff (s_field_pt rfl Tryd.underlying70 rfl ti68 rfl rfl rfl) rfl)) ?_
  refine rg_put (d := 7) (v := .d (.sl 12 (List.map eCs s.cases))) rfl (og rfl (op_load_pt rfl Tryd.underlying68 rfl rfl rfl rfl rfl)) ?_
  refine rg_put (d := 8) (v := .d (.fl (.int .i64 (s.cases.length : Int)))) rfl (og rfl (s_len rfl Tryd.underlying68 rfl rfl)) ?_
  refine rg_put (d := 9) (v := .d (.fl (.int .i64 0))) rfl (og rfl (op_move rfl rfl rfl)) ?_
  refine rg_done rfl ?_
  refine a_block ?_
  refine a_loop (ι := Nat) (fun k => SS [(0, .d (.ag (eSa s))), (1, .pt 101 0), (2, .d (.fl (.slice none 0 0))), (7, .d (.sl 12 (List.map eCs s.cases))), (8, .d (.fl (.int .i64 (s.cases.length : Int)))), (9, .d (.fl (.int .i64 (k : Int)))), (3, .ow 201)] [(101, .bx 70 (eSa s)), (201, .tr 102 12 (tD eCs (opF s.cases k)))]) (fun k => k ≤ s.cases.length) (fun k => s.cases.length - k) 0 (by omega) (Imp.trans (imp_nilT 3 201 102 12 rfl rfl) (imp_forget rfl ⟨rfl, rfl, rfl, rfl, rfl, (by first | rfl | exact ci (by omega) | exact ci (by simp) | exact cd (by simp) | simp), (by first | rfl | exact ci (by omega) | exact ci (by simp) | exact cd (by simp) | simp), trivial⟩ ⟨rfl, rfl, trivial⟩)) (fun k hok => ?_)
  have hk := hok
  have hol := opF_len s.cases k hk
  refine a_rseq ?_
  refine rg_put (d := 10) (v := .d (.fl (.bool ((decide ((k : Int) < (s.cases.length : Int))))))) rfl (og rfl (op_bin rfl rfl rfl (b_lss _ _ _ _) rfl)) ?_
  refine rg_done rfl ?_
  refine a_seq ?_
  refine a_cond rfl (fun h1 => ?_) (fun h1 => ?_)
  · skip
    have h2 := t_dec h1
    refine a_skip ?_
    show A _ _ _ _ _ _ _
    refine a_seq ?_
    refine a_block ?_
    refine a_rseq ?_
    refine rg_put (d := 11) (v := .el ((eCs (ix s.cases k)))) rfl (og rfl (s_index rfl Tryd.underlying68 ti102 rfl rfl (by omega) (row_at (by omega)) rfl)) ?_
    refine rg_put (d := 12) (v := .d (.ag (eCs (ix s.cases k)))) rfl (og rfl (of_eff (s_load_els rfl Tryd.underlying102 rfl ti102 rfl rfl rfl) rfl)) ?_
    refine rg_nam (d := 5) (v := .pt 102 0) (m := 102) (nw := [(102, .bx 102 ([.fl (.string (⟨#[]⟩)), .fl (.string (⟨#[]⟩)), .fl (.string (⟨#[]⟩)), .fl (.int .i64 0), .fl (.int .i64 0), .fl (.int .i64 0), .fl (.int .i64 0), .fl (.int .i64 0), .fl (.int .i64 0), .fl (.int .i64 0), .fl (.int .i64 0), .fl (.int .i64 0)]))]) rfl (og rfl (of_eff (s_alloc 102 rfl ti102 (by kernel_rfl) rfl) rfl)) rfl ?_
    refine rg_sto (nw := [(102, .bx 102 ((eCs (ix s.cases k))))]) rfl (og rfl (of_eff (s_store rfl rfl ti102 rfl rfl rfl rfl rfl rfl) rfl)) ?_
    refine rg_done rfl ?_
    refine a_rseq ?_
    refine rg_put (d := 13) (v := .d (.ag (eCs (ix s.cases k)))) rfl (og rfl (of_eff (s_load_pts rfl Tryd.underlying102 rfl ti102 rfl rfl rfl rfl) rfl)) ?_
    refine rg_put (d := 14) (v := .d (.fl (.bool ((opn (ix s.cases k)))))) rfl (og rfl (op_call rfl Tryd.func80 nm80 rfl (.cons rfl (.d _) .nil) (opn21 (ix s.cases k)) rfl)) ?_
    refine rg_done rfl ?_
    refine a_cond rfl (fun h3 => ?_) (fun h3 => ?_)
    · skip
      refine a_region ?_
      refine rg_put (d := 15) (v := .ow 201) rfl (og rfl (op_move rfl rfl rfl)) ?_
      refine rg_put (d := 16) (v := .d (.ag (eCs (ix s.cases k)))) rfl (og rfl (of_eff (s_load_pts rfl Tryd.underlying102 rfl ti102 rfl rfl rfl rfl) rfl)) ?_
      refine rg_put (d := 17) (v := .d (.sl 12 (List.map eCs [(ix s.cases k)]))) rfl (og rfl (of_eff (op_slices rfl Tryd.underlying68 ti102 rfl rfl rfl (by kernel_rfl) (xs := [.ag (eCs (ix s.cases k))]) rfl rfl (.cons rfl rfl (.d _) rfl rfl rfl .nil) rfl) rfl)) ?_
      refine rg_nam (d := 18) (v := .ow 103) (m := 103) (nw := [(103, .tr 102 12 (tD eCs (((opF s.cases k) ++ [(ix s.cases k)])))), (201, .no)]) rfl (og rfl (of_eff (s_append_td 103 rfl Tryd.underlying68 ti102 rfl rfl rfl rfl rfl (.d _) (by simp only [List.length_append, List.length_cons, List.length_nil]; omega) rfl) rfl)) rfl ?_
      refine rg_put (d := 3) (v := .ow 103) rfl (og rfl (op_assign rfl rfl rfl)) ?_
      refine rg_done rfl ?_
      show A _ _ _ _ _ _ _
      refine a_region ?_
      refine rg_put (d := 19) (v := .d (.fl (.int .i64 (((k : Int) + 1))))) rfl (og rfl (op_bin rfl rfl rfl (fun x y w => b_add64 _ _ _ x y w (by omega)) rfl)) ?_
      refine rg_put (d := 9) (v := .d (.fl (.int .i64 (((k : Int) + 1))))) rfl (og rfl (op_move rfl rfl rfl)) ?_
      refine rg_done rfl ?_
      show ∃ i, _ ∧ _ ∧ Imp _ _ _ _ _
      refine ⟨k + 1, (by omega), by omega, imp_ren (fun m => bif Nat.beq m 201 then 103 else m) rfl ⟨rfl, rfl, rfl, rfl, rfl, (by first | rfl | exact ci (by omega) | exact ci (by simp) | exact cd (by simp) | simp), rfl, trivial⟩ ⟨rfl, (congrArg (fun z => Ob.tr 102 12 (tD eCs z)) (op_yes h3)), trivial⟩⟩
    · skip
      refine a_skip ?_
      show A _ _ _ _ _ _ _
      refine a_region ?_
      refine rg_put (d := 19) (v := .d (.fl (.int .i64 (((k : Int) + 1))))) rfl (og rfl (op_bin rfl rfl rfl (fun x y w => b_add64 _ _ _ x y w (by omega)) rfl)) ?_
      refine rg_put (d := 9) (v := .d (.fl (.int .i64 (((k : Int) + 1))))) rfl (og rfl (op_move rfl rfl rfl)) ?_
      refine rg_done rfl ?_
      show ∃ i, _ ∧ _ ∧ Imp _ _ _ _ _
      refine ⟨k + 1, (by omega), by omega, imp_forget rfl ⟨rfl, rfl, rfl, rfl, rfl, (by first | rfl | exact ci (by omega) | exact ci (by simp) | exact cd (by simp) | simp), rfl, trivial⟩ ⟨rfl, (congrArg (fun z => Ob.tr 102 12 (tD eCs z)) (op_no h3)), trivial⟩⟩
  · skip
    have h4 := f_dec h1
    refine a_exit ?_
    show A _ _ _ _ _ _ _
    refine a_rseq ?_
    refine rg_put (d := 20) (v := .ow 201) rfl (og rfl (op_move rfl rfl rfl)) ?_
    refine rg_put (d := 2) (v := .ow 201) rfl (og rfl (op_assign rfl rfl rfl)) ?_
    refine rg_done rfl ?_
    refine a_imp (imp_leakT 2 201 rfl rfl) ?_
    refine a_ret ?_
    show ∃ ds, ResL _ _ _ ds ∧ RV.of ds = _
    refine ⟨[.sl 12 (List.map eCs (opF s.cases k))], (.cons (.tmp rfl (.d _)) .nil), ?_⟩
    have hkl : k = s.cases.length := by omega
    subst hkl
    rfl
set_option maxHeartbeats 4000000 in
set_option maxRecDepth 100000 in
theorem cnt57 (w : ByteArray) (n : Int) (hw : w.size ≤ 12) (h : in64 n) : Ctr Tryd.prog 57 [.fl (.string w), .fl (.int .i64 n)] (.d (.fl (.string (ln [w, fm n])))) := by
  refine ctr (n := 10) (rs := #[.tmp 4]) (L := [(0, .d (.fl (.string w))), (1, .d (.fl (.int .i64 n)))]) Tryd.func57 rfl rfl rfl rfl rfl (fun w0 U0 => ?_)
  refine a_rseq ?_
  refine rg_put (d := 4) (v := .d (.fl (.string (⟨#[]⟩)))) rfl (og rfl (op_assign rfl rfl rfl)) ?_
  refine rg_done rfl ?_
  refine a_rseq ?_
  refine rg_put (d := 5) (v := .d (.fl (.string w))) rfl (og rfl (op_move rfl rfl rfl)) ?_
  refine rg_put (d := 6) (v := .d (.fl (.int .i64 n))) rfl (og rfl (op_move rfl rfl rfl)) ?_
  refine rg_put (d := 7) (v := .d (.fl (.string (fm n)))) rfl (og rfl (op_call rfl Tryd.func30 nm30 rfl (.cons rfl (.d _) .nil) (fm33 n h) rfl)) ?_
  refine rg_put (d := 8) (v := .d (.sl 1 (List.map rS [w, (fm n)]))) rfl (og rfl (of_eff (op_slices rfl Tryd.underlying98 ti9 rfl rfl rfl (by kernel_rfl) (xs := [.fl (.string w), .fl (.string (fm n))]) rfl rfl (.cons rfl rfl (.d _) rfl rfl rfl (.cons rfl rfl (.d _) rfl rfl rfl .nil)) rfl) rfl)) ?_
  refine rg_put (d := 9) (v := .d (.fl (.string ((ln [w, (fm n)]))))) rfl (og rfl (op_call rfl Tryd.func28 nm28 rfl (.cons rfl (.d _) .nil) (ln31 [w, (fm n)] (Nat.le_trans (l2_jn hw h) (by decide))) rfl)) ?_
  refine rg_put (d := 4) (v := .d (.fl (.string ((ln [w, (fm n)]))))) rfl (og rfl (op_assign rfl rfl rfl)) ?_
  refine rg_done rfl ?_
  refine a_ret ?_
  show ∃ ds, ResL _ _ _ ds ∧ RV.of ds = _
  refine ⟨[.fl (.string ((ln [w, (fm n)])))], (.cons (.tmp rfl (.d _)) .nil), ?_⟩
  rfl
set_option maxHeartbeats 4000000 in
set_option maxRecDepth 100000 in
theorem tot19 (s : Sa) (hT : OkT s) : CtrK Tryd.prog KK 19 [.ag (eSa s)] (.d (.fl (.string (tS s)))) := by
  have t1 := hT.chg.1
  have t2 := hT.en.len
  have t3 := hT.cs
  have t4 := hT.pass
  have t5 := hT.rej
  have t6 := hT.trips
  have t7 := hT.stays
  have t8 := hT.exc
  have t9 := hT.done
  have tc := hT.count
  have tb := tot_bd (okL_fit hT.chg) _ (Nat.le_refl _)
  have te := en_bd hT.en ⟨#[]⟩ _ (Nat.le_refl _)
  have tq := opF_len s.cases _ (Nat.le_refl _)
  unfold in64 at tc
  have z0 := l2_ln (w := ⟨#[101, 118, 101, 110, 116, 115]⟩) (n := s.count) (by decide) (by unfold in64; omega)
  have z1 := ld_ln (w := ⟨#[99, 108, 111, 115, 101, 100]⟩) s.closed (by decide)
  have z2 := l2_ln (w := ⟨#[112, 97, 115, 115, 97, 103, 101, 115]⟩) (n := (s.res.pass.length : Int)) (by decide) (by unfold in64; omega)
  have z3 := l2_ln (w := ⟨#[114, 101, 106, 101, 99, 116, 115]⟩) (n := (s.res.rej.length : Int)) (by decide) (by unfold in64; omega)
  have z4 := l2_ln (w := ⟨#[116, 114, 105, 112, 115]⟩) (n := (s.res.trips.length : Int)) (by decide) (by unfold in64; omega)
  have z5 := l2_ln (w := ⟨#[115, 116, 97, 121, 115]⟩) (n := (s.res.stays.length : Int)) (by decide) (by unfold in64; omega)
  have z6 := l3_ln (w := ⟨#[99, 104, 97, 114, 103, 101, 115]⟩) (n := (s.res.chg.length : Int)) (t := (tot s.res.chg s.res.chg.length)) (by decide) (by unfold in64; omega) (by unfold in64; omega)
  have z7 := l2_ln (w := ⟨#[101, 120, 99, 108, 117, 115, 105, 111, 110, 115]⟩) (n := (s.res.exc.length : Int)) (by decide) (by unfold in64; omega)
  have z8 := l2_ln (w := ⟨#[112, 111, 115, 116, 101, 100]⟩) (n := (s.books.done.length : Int)) (by decide) (by unfold in64; omega)
  have z9 := l3_ln (w := ⟨#[101, 110, 116, 114, 105, 101, 115]⟩) (n := (s.books.led.e.length : Int)) (t := (dbE s.books.led.e s.books.led.e.length)) (by decide) (by unfold in64; omega) (by unfold in64; omega)
  have z10 := l4_ln (w := ⟨#[99, 97, 115, 101, 115]⟩) (n := (s.cases.length : Int)) (t := ((opF s.cases s.cases.length).length : Int)) (by decide) (by unfold in64; omega) (by unfold in64; omega)
  refine ctrK (n := 98) (rs := #[.tmp 2]) (L := [(0, .d (.ag (eSa s)))]) Tryd.func19 rfl rfl rfl rfl rfl (fun w0 U0 hG => ?_)
  refine a_rseq ?_
  refine rg_nam (d := 1) (v := .pt 101 0) (m := 101) (nw := [(101, .bx 70 (eSa s))]) rfl (og rfl (of_eff (op_box 101 rfl rfl rfl rfl) rfl)) rfl ?_
  refine rg_put (d := 2) (v := .d (.fl (.string (⟨#[]⟩)))) rfl (og rfl (op_assign rfl rfl rfl)) ?_
  refine rg_done rfl ?_
  refine a_rseq ?_
  refine rg_put (d := 9) (v := .pt 101 29) rfl (og rfl (of_eff (s_field_pt rfl Tryd.underlying70 rfl ti62 rfl rfl rfl) rfl)) ?_
  refine rg_put (d := 10) (v := .d (.ag (eRs s.res))) rfl (og rfl (of_eff (s_load_pts rfl Tryd.underlying62 rfl ti62 rfl rfl rfl rfl) rfl)) ?_
  refine rg_nam (d := 3) (v := .pt 102 0) (m := 102) (nw := [(102, .bx 62 [.fl (.slice none 0 0), .fl (.slice none 0 0), .fl (.slice none 0 0), .fl (.slice none 0 0), .fl (.slice none 0 0), .fl (.slice none 0 0)])]) rfl (og rfl (of_eff (s_alloc 102 rfl ti62 (by kernel_rfl) rfl) rfl)) rfl ?_
  refine rg_sto (nw := [(102, .bx 62 (eRs s.res))]) rfl (og rfl (of_eff (s_store rfl rfl ti62 rfl rfl rfl rfl rfl rfl) rfl)) ?_
  refine rg_done rfl ?_
  refine a_rseq ?_
  refine rg_put (d := 12) (v := .pt 102 4) rfl (og rfl (of_eff (s_field_pt rfl Tryd.underlying62 rfl ti59 rfl rfl rfl) rfl)) ?_
  refine rg_put (d := 13) (v := .d (.sl 7 (List.map eCg s.res.chg))) rfl (og rfl (op_load_pt rfl Tryd.underlying59 rfl rfl rfl rfl rfl)) ?_
  refine rg_put (d := 14) (v := .tu [.fl (.string ((fm (s.res.chg.length : Int)))), .fl (.string ((sh (tot s.res.chg s.res.chg.length))))]) rfl (og rfl (op_callK kkst hG rfl Tryd.func35 nm35 rfl (.cons rfl (.d _) .nil) (tot38 s.res.chg hT.chg.1 (okL_fit hT.chg)) rfl)) ?_
  refine rg_put (d := 11) (v := .tu [.fl (.string ((fm (s.res.chg.length : Int)))), .fl (.string ((sh (tot s.res.chg s.res.chg.length))))]) rfl (og rfl (op_move rfl rfl rfl)) ?_
  refine rg_put (d := 15) (v := .d (.fl (.string ((fm (s.res.chg.length : Int)))))) rfl (og rfl (op_extract rfl rfl rfl rfl)) ?_
  refine rg_put (d := 16) (v := .d (.fl (.string ((sh (tot s.res.chg s.res.chg.length)))))) rfl (og rfl (op_extract rfl rfl rfl rfl)) ?_
  refine rg_put (d := 4) (v := .d (.fl (.string ((fm (s.res.chg.length : Int)))))) rfl (og rfl (op_assign rfl rfl rfl)) ?_
  refine rg_put (d := 5) (v := .d (.fl (.string ((sh (tot s.res.chg s.res.chg.length)))))) rfl (og rfl (op_assign rfl rfl rfl)) ?_
  refine rg_done rfl ?_
  refine a_rseq ?_
  refine rg_put (d := 18) (v := .pt 101 35) rfl (og rfl (of_eff (s_field_pt rfl Tryd.underlying70 rfl ti67 rfl rfl rfl) rfl)) ?_
  refine rg_put (d := 19) (v := .pt 101 35) rfl (og rfl (of_eff (s_field_pt rfl Tryd.underlying67 rfl ti65 rfl rfl rfl) rfl)) ?_
  refine rg_put (d := 20) (v := .d (.ag (eLg s.books.led))) rfl (og rfl (of_eff (s_load_pts rfl Tryd.underlying65 rfl ti65 rfl rfl rfl rfl) rfl)) ?_
  refine rg_put (d := 21) (v := .tu [.fl (.int .i64 (dbE s.books.led.e s.books.led.e.length)), .fl (.int .i64 (crE s.books.led.e s.books.led.e.length))]) rfl (og rfl (op_call rfl Tryd.func53 nm53 rfl (.cons rfl (.d _) .nil) (tr53 s.books.led ⟨#[]⟩ hT.en) rfl)) ?_
  refine rg_put (d := 17) (v := .tu [.fl (.int .i64 (dbE s.books.led.e s.books.led.e.length)), .fl (.int .i64 (crE s.books.led.e s.books.led.e.length))]) rfl (og rfl (op_move rfl rfl rfl)) ?_
  refine rg_put (d := 22) (v := .d (.fl (.int .i64 (dbE s.books.led.e s.books.led.e.length)))) rfl (og rfl (op_extract rfl rfl rfl rfl)) ?_
  refine rg_put (d := 23) (v := .d (.fl (.int .i64 (crE s.books.led.e s.books.led.e.length)))) rfl (og rfl (op_extract rfl rfl rfl rfl)) ?_
  refine rg_put (d := 6) (v := .d (.fl (.int .i64 (dbE s.books.led.e s.books.led.e.length)))) rfl (og rfl (op_assign rfl rfl rfl)) ?_
  refine rg_put (d := 7) (v := .d (.fl (.int .i64 (crE s.books.led.e s.books.led.e.length)))) rfl (og rfl (op_assign rfl rfl rfl)) ?_
  refine rg_done rfl ?_
  refine a_rseq ?_
  refine rg_put (d := 24) (v := .d (.ag (eSa s))) rfl (og rfl (of_eff (s_load_pts rfl Tryd.underlying70 rfl ti70 rfl rfl rfl rfl) rfl)) ?_
  refine rg_put (d := 25) (v := .d (.sl 12 (List.map eCs (opF s.cases s.cases.length)))) rfl (og rfl (op_call rfl Tryd.func54 nm54 rfl (.cons rfl (.d _) .nil) (op54 s hT.cs) rfl)) ?_
  refine rg_put (d := 26) (v := .d (.fl (.int .i64 (((opF s.cases s.cases.length).length : Int))))) rfl (og rfl (s_len rfl Tryd.underlying68 rfl rfl)) ?_
  refine rg_put (d := 8) (v := .d (.fl (.int .i64 (((opF s.cases s.cases.length).length : Int))))) rfl (og rfl (op_assign rfl rfl rfl)) ?_
  refine rg_done rfl ?_
  refine a_dseq (by kernel_rfl) ?_
  refine dr_put (d := 27) (v := .pt 101 38) rfl (og rfl (of_eff (s_field_pt rfl Tryd.underlying70 rfl ti3 rfl rfl rfl) rfl)) ?_
  refine dr_put (d := 28) (v := .d (.fl (.int .i64 s.count))) rfl (og rfl (op_load_pt rfl Tryd.underlying3 rfl rfl rfl rfl rfl)) ?_
  refine dr_put (d := 29) (v := .d (.fl (.string (fm s.count)))) rfl (og rfl (op_callK kkst hG rfl Tryd.func25 nm25 rfl (.cons rfl (.d _) .nil) (fm28 s.count (by unfold in64; omega)) rfl)) ?_
  refine dr_put (d := 30) (v := .d (.sl 1 (List.map rS ([⟨#[101, 118, 101, 110, 116, 115]⟩, (fm s.count)])))) rfl (og rfl (of_eff (op_slices rfl Tryd.underlying98 ti9 rfl rfl rfl (by kernel_rfl) (xs := [.fl (.string (⟨#[101, 118, 101, 110, 116, 115]⟩)), .fl (.string (fm s.count))]) rfl rfl (.cons rfl rfl (.d _) rfl rfl rfl (.cons rfl rfl (.d _) rfl rfl rfl .nil)) rfl) rfl)) ?_
  refine dr_put (d := 31) (v := .d (.fl (.string ((ln ([⟨#[101, 118, 101, 110, 116, 115]⟩, (fm s.count)])))))) rfl (og rfl (op_call rfl Tryd.func23 nm23 rfl (.cons rfl (.d _) .nil) (ln26 ([⟨#[101, 118, 101, 110, 116, 115]⟩, (fm s.count)]) (Nat.le_trans (l2_jn (by decide) (by unfold in64; omega)) (by decide))) rfl)) ?_
  refine dr_put (d := 32) (v := .pt 101 28) rfl (og rfl (of_eff (s_field_pt rfl Tryd.underlying70 rfl ti3 rfl rfl rfl) rfl)) ?_
  refine dr_put (d := 33) (v := .d (.fl (.int .i64 s.closed))) rfl (og rfl (op_load_pt rfl Tryd.underlying3 rfl rfl rfl rfl rfl)) ?_
  refine dr_put (d := 34) (v := .d (.fl (.string (dtS s.closed)))) rfl (og rfl (op_callK kkst hG rfl Tryd.func33 nm33 rfl (.cons rfl (.d _) .nil) (date36 s.closed) rfl)) ?_
  refine dr_put (d := 35) (v := .d (.sl 1 (List.map rS ([⟨#[99, 108, 111, 115, 101, 100]⟩, (dtS s.closed)])))) rfl (og rfl (of_eff (op_slices rfl Tryd.underlying98 ti9 rfl rfl rfl (by kernel_rfl) (xs := [.fl (.string (⟨#[99, 108, 111, 115, 101, 100]⟩)), .fl (.string (dtS s.closed))]) rfl rfl (.cons rfl rfl (.d _) rfl rfl rfl (.cons rfl rfl (.d _) rfl rfl rfl .nil)) rfl) rfl)) ?_
  refine dr_put (d := 36) (v := .d (.fl (.string ((ln ([⟨#[99, 108, 111, 115, 101, 100]⟩, (dtS s.closed)])))))) rfl (og rfl (op_call rfl Tryd.func23 nm23 rfl (.cons rfl (.d _) .nil) (ln26 ([⟨#[99, 108, 111, 115, 101, 100]⟩, (dtS s.closed)]) (Nat.le_trans (ld_jn _ (by decide)) (by decide))) rfl)) ?_
  refine dr_put (d := 37) (v := .pt 102 0) rfl (og rfl (of_eff (s_field_pt rfl Tryd.underlying62 rfl ti56 rfl rfl rfl) rfl)) ?_
  refine dr_put (d := 38) (v := .d (.sl 8 (List.map ePg s.res.pass))) rfl (og rfl (op_load_pt rfl Tryd.underlying56 rfl rfl rfl rfl rfl)) ?_
  refine dr_put (d := 39) (v := .d (.fl (.int .i64 (s.res.pass.length : Int)))) rfl (og rfl (s_len rfl Tryd.underlying56 rfl rfl)) ?_
  refine dr_put (d := 40) (v := .d (.fl (.string ((fm (s.res.pass.length : Int)))))) rfl (og rfl (op_callK kkst hG rfl Tryd.func25 nm25 rfl (.cons rfl (.d _) .nil) (fm28 (s.res.pass.length : Int) (by unfold in64; omega)) rfl)) ?_
  refine dr_put (d := 41) (v := .d (.sl 1 (List.map rS ([⟨#[112, 97, 115, 115, 97, 103, 101, 115]⟩, (fm (s.res.pass.length : Int))])))) rfl (og rfl (of_eff (op_slices rfl Tryd.underlying98 ti9 rfl rfl rfl (by kernel_rfl) (xs := [.fl (.string (⟨#[112, 97, 115, 115, 97, 103, 101, 115]⟩)), .fl (.string ((fm (s.res.pass.length : Int))))]) rfl rfl (.cons rfl rfl (.d _) rfl rfl rfl (.cons rfl rfl (.d _) rfl rfl rfl .nil)) rfl) rfl)) ?_
  refine dr_put (d := 42) (v := .d (.fl (.string ((ln ([⟨#[112, 97, 115, 115, 97, 103, 101, 115]⟩, (fm (s.res.pass.length : Int))])))))) rfl (og rfl (op_call rfl Tryd.func23 nm23 rfl (.cons rfl (.d _) .nil) (ln26 ([⟨#[112, 97, 115, 115, 97, 103, 101, 115]⟩, (fm (s.res.pass.length : Int))]) (Nat.le_trans (l2_jn (by decide) (by unfold in64; omega)) (by decide))) rfl)) ?_
  refine dr_put (d := 43) (v := .pt 102 1) rfl (og rfl (of_eff (s_field_pt rfl Tryd.underlying62 rfl ti54 rfl rfl rfl) rfl)) ?_
  refine dr_put (d := 44) (v := .d (.sl 8 (List.map eRj s.res.rej))) rfl (og rfl (op_load_pt rfl Tryd.underlying54 rfl rfl rfl rfl rfl)) ?_
  refine dr_put (d := 45) (v := .d (.fl (.int .i64 (s.res.rej.length : Int)))) rfl (og rfl (s_len rfl Tryd.underlying54 rfl rfl)) ?_
  refine dr_put (d := 46) (v := .d (.fl (.string ((fm (s.res.rej.length : Int)))))) rfl (og rfl (op_callK kkst hG rfl Tryd.func25 nm25 rfl (.cons rfl (.d _) .nil) (fm28 (s.res.rej.length : Int) (by unfold in64; omega)) rfl)) ?_
  refine dr_put (d := 47) (v := .d (.sl 1 (List.map rS ([⟨#[114, 101, 106, 101, 99, 116, 115]⟩, (fm (s.res.rej.length : Int))])))) rfl (og rfl (of_eff (op_slices rfl Tryd.underlying98 ti9 rfl rfl rfl (by kernel_rfl) (xs := [.fl (.string (⟨#[114, 101, 106, 101, 99, 116, 115]⟩)), .fl (.string ((fm (s.res.rej.length : Int))))]) rfl rfl (.cons rfl rfl (.d _) rfl rfl rfl (.cons rfl rfl (.d _) rfl rfl rfl .nil)) rfl) rfl)) ?_
  refine dr_put (d := 48) (v := .d (.fl (.string ((ln ([⟨#[114, 101, 106, 101, 99, 116, 115]⟩, (fm (s.res.rej.length : Int))])))))) rfl (og rfl (op_call rfl Tryd.func23 nm23 rfl (.cons rfl (.d _) .nil) (ln26 ([⟨#[114, 101, 106, 101, 99, 116, 115]⟩, (fm (s.res.rej.length : Int))]) (Nat.le_trans (l2_jn (by decide) (by unfold in64; omega)) (by decide))) rfl)) ?_
  refine dr_put (d := 49) (v := .pt 102 2) rfl (og rfl (of_eff (s_field_pt rfl Tryd.underlying62 rfl ti57 rfl rfl rfl) rfl)) ?_
  refine dr_put (d := 50) (v := .d (.sl 5 (List.map eTp s.res.trips))) rfl (og rfl (op_load_pt rfl Tryd.underlying57 rfl rfl rfl rfl rfl)) ?_
  refine dr_put (d := 51) (v := .d (.fl (.int .i64 (s.res.trips.length : Int)))) rfl (og rfl (s_len rfl Tryd.underlying57 rfl rfl)) ?_
  refine dr_put (d := 52) (v := .d (.fl (.string ((fm (s.res.trips.length : Int)))))) rfl (og rfl (op_callK kkst hG rfl Tryd.func25 nm25 rfl (.cons rfl (.d _) .nil) (fm28 (s.res.trips.length : Int) (by unfold in64; omega)) rfl)) ?_
  refine dr_put (d := 53) (v := .d (.sl 1 (List.map rS ([⟨#[116, 114, 105, 112, 115]⟩, (fm (s.res.trips.length : Int))])))) rfl (og rfl (of_eff (op_slices rfl Tryd.underlying98 ti9 rfl rfl rfl (by kernel_rfl) (xs := [.fl (.string (⟨#[116, 114, 105, 112, 115]⟩)), .fl (.string ((fm (s.res.trips.length : Int))))]) rfl rfl (.cons rfl rfl (.d _) rfl rfl rfl (.cons rfl rfl (.d _) rfl rfl rfl .nil)) rfl) rfl)) ?_
  refine dr_put (d := 54) (v := .d (.fl (.string ((ln ([⟨#[116, 114, 105, 112, 115]⟩, (fm (s.res.trips.length : Int))])))))) rfl (og rfl (op_call rfl Tryd.func23 nm23 rfl (.cons rfl (.d _) .nil) (ln26 ([⟨#[116, 114, 105, 112, 115]⟩, (fm (s.res.trips.length : Int))]) (Nat.le_trans (l2_jn (by decide) (by unfold in64; omega)) (by decide))) rfl)) ?_
  refine dr_put (d := 55) (v := .pt 102 3) rfl (og rfl (of_eff (s_field_pt rfl Tryd.underlying62 rfl ti58 rfl rfl rfl) rfl)) ?_
  refine dr_put (d := 56) (v := .d (.sl 5 (List.map eSy s.res.stays))) rfl (og rfl (op_load_pt rfl Tryd.underlying58 rfl rfl rfl rfl rfl)) ?_
  refine dr_put (d := 57) (v := .d (.fl (.int .i64 (s.res.stays.length : Int)))) rfl (og rfl (s_len rfl Tryd.underlying58 rfl rfl)) ?_
  refine dr_put (d := 58) (v := .d (.fl (.string ((fm (s.res.stays.length : Int)))))) rfl (og rfl (op_callK kkst hG rfl Tryd.func25 nm25 rfl (.cons rfl (.d _) .nil) (fm28 (s.res.stays.length : Int) (by unfold in64; omega)) rfl)) ?_
  refine dr_put (d := 59) (v := .d (.sl 1 (List.map rS ([⟨#[115, 116, 97, 121, 115]⟩, (fm (s.res.stays.length : Int))])))) rfl (og rfl (of_eff (op_slices rfl Tryd.underlying98 ti9 rfl rfl rfl (by kernel_rfl) (xs := [.fl (.string (⟨#[115, 116, 97, 121, 115]⟩)), .fl (.string ((fm (s.res.stays.length : Int))))]) rfl rfl (.cons rfl rfl (.d _) rfl rfl rfl (.cons rfl rfl (.d _) rfl rfl rfl .nil)) rfl) rfl)) ?_
  refine dr_put (d := 60) (v := .d (.fl (.string ((ln ([⟨#[115, 116, 97, 121, 115]⟩, (fm (s.res.stays.length : Int))])))))) rfl (og rfl (op_call rfl Tryd.func23 nm23 rfl (.cons rfl (.d _) .nil) (ln26 ([⟨#[115, 116, 97, 121, 115]⟩, (fm (s.res.stays.length : Int))]) (Nat.le_trans (l2_jn (by decide) (by unfold in64; omega)) (by decide))) rfl)) ?_
  refine dr_put (d := 61) (v := .d (.fl (.string ((fm (s.res.chg.length : Int)))))) rfl (og rfl (op_move rfl rfl rfl)) ?_
  refine dr_put (d := 62) (v := .d (.fl (.string ((sh (tot s.res.chg s.res.chg.length)))))) rfl (og rfl (op_move rfl rfl rfl)) ?_
  refine dr_put (d := 63) (v := .d (.sl 1 (List.map rS ([⟨#[99, 104, 97, 114, 103, 101, 115]⟩, (fm (s.res.chg.length : Int)), (sh (tot s.res.chg s.res.chg.length))])))) rfl (og rfl (of_eff (op_slices rfl Tryd.underlying98 ti9 rfl rfl rfl (by kernel_rfl) (xs := [.fl (.string (⟨#[99, 104, 97, 114, 103, 101, 115]⟩)), .fl (.string ((fm (s.res.chg.length : Int)))), .fl (.string ((sh (tot s.res.chg s.res.chg.length))))]) rfl rfl (.cons rfl rfl (.d _) rfl rfl rfl (.cons rfl rfl (.d _) rfl rfl rfl (.cons rfl rfl (.d _) rfl rfl rfl .nil))) rfl) rfl)) ?_
  refine dr_put (d := 64) (v := .d (.fl (.string ((ln ([⟨#[99, 104, 97, 114, 103, 101, 115]⟩, (fm (s.res.chg.length : Int)), (sh (tot s.res.chg s.res.chg.length))])))))) rfl (og rfl (op_call rfl Tryd.func23 nm23 rfl (.cons rfl (.d _) .nil) (ln26 ([⟨#[99, 104, 97, 114, 103, 101, 115]⟩, (fm (s.res.chg.length : Int)), (sh (tot s.res.chg s.res.chg.length))]) (Nat.le_trans (l3_jn (by decide) (by unfold in64; omega) (by unfold in64; omega)) (by decide))) rfl)) ?_
  refine dr_put (d := 65) (v := .pt 102 5) rfl (og rfl (of_eff (s_field_pt rfl Tryd.underlying62 rfl ti60 rfl rfl rfl) rfl)) ?_
  refine dr_put (d := 66) (v := .d (.sl 2 (List.map eEc s.res.exc))) rfl (og rfl (op_load_pt rfl Tryd.underlying60 rfl rfl rfl rfl rfl)) ?_
  refine dr_put (d := 67) (v := .d (.fl (.int .i64 (s.res.exc.length : Int)))) rfl (og rfl (s_len rfl Tryd.underlying60 rfl rfl)) ?_
  refine dr_put (d := 68) (v := .d (.fl (.string ((fm (s.res.exc.length : Int)))))) rfl (og rfl (op_callK kkst hG rfl Tryd.func25 nm25 rfl (.cons rfl (.d _) .nil) (fm28 (s.res.exc.length : Int) (by unfold in64; omega)) rfl)) ?_
  refine dr_put (d := 69) (v := .d (.sl 1 (List.map rS ([⟨#[101, 120, 99, 108, 117, 115, 105, 111, 110, 115]⟩, (fm (s.res.exc.length : Int))])))) rfl (og rfl (of_eff (op_slices rfl Tryd.underlying98 ti9 rfl rfl rfl (by kernel_rfl) (xs := [.fl (.string (⟨#[101, 120, 99, 108, 117, 115, 105, 111, 110, 115]⟩)), .fl (.string ((fm (s.res.exc.length : Int))))]) rfl rfl (.cons rfl rfl (.d _) rfl rfl rfl (.cons rfl rfl (.d _) rfl rfl rfl .nil)) rfl) rfl)) ?_
  refine dr_put (d := 70) (v := .d (.fl (.string ((ln ([⟨#[101, 120, 99, 108, 117, 115, 105, 111, 110, 115]⟩, (fm (s.res.exc.length : Int))])))))) rfl (og rfl (op_call rfl Tryd.func23 nm23 rfl (.cons rfl (.d _) .nil) (ln26 ([⟨#[101, 120, 99, 108, 117, 115, 105, 111, 110, 115]⟩, (fm (s.res.exc.length : Int))]) (Nat.le_trans (l2_jn (by decide) (by unfold in64; omega)) (by decide))) rfl)) ?_
  refine dr_put (d := 71) (v := .pt 101 35) rfl (og rfl (of_eff (s_field_pt rfl Tryd.underlying70 rfl ti67 rfl rfl rfl) rfl)) ?_
  refine dr_put (d := 72) (v := .pt 101 36) rfl (og rfl (of_eff (s_field_pt rfl Tryd.underlying67 rfl ti59 rfl rfl rfl) rfl)) ?_
  refine dr_put (d := 73) (v := .d (.sl 7 (List.map eCg s.books.done))) rfl (og rfl (op_load_pt rfl Tryd.underlying59 rfl rfl rfl rfl rfl)) ?_
  refine dr_put (d := 74) (v := .d (.fl (.int .i64 (s.books.done.length : Int)))) rfl (og rfl (s_len rfl Tryd.underlying59 rfl rfl)) ?_
  refine dr_put (d := 75) (v := .d (.fl (.string ((fm (s.books.done.length : Int)))))) rfl (og rfl (op_callK kkst hG rfl Tryd.func25 nm25 rfl (.cons rfl (.d _) .nil) (fm28 (s.books.done.length : Int) (by unfold in64; omega)) rfl)) ?_
  refine dr_put (d := 76) (v := .d (.sl 1 (List.map rS ([⟨#[112, 111, 115, 116, 101, 100]⟩, (fm (s.books.done.length : Int))])))) rfl (og rfl (of_eff (op_slices rfl Tryd.underlying98 ti9 rfl rfl rfl (by kernel_rfl) (xs := [.fl (.string (⟨#[112, 111, 115, 116, 101, 100]⟩)), .fl (.string ((fm (s.books.done.length : Int))))]) rfl rfl (.cons rfl rfl (.d _) rfl rfl rfl (.cons rfl rfl (.d _) rfl rfl rfl .nil)) rfl) rfl)) ?_
  refine dr_put (d := 77) (v := .d (.fl (.string ((ln ([⟨#[112, 111, 115, 116, 101, 100]⟩, (fm (s.books.done.length : Int))])))))) rfl (og rfl (op_call rfl Tryd.func23 nm23 rfl (.cons rfl (.d _) .nil) (ln26 ([⟨#[112, 111, 115, 116, 101, 100]⟩, (fm (s.books.done.length : Int))]) (Nat.le_trans (l2_jn (by decide) (by unfold in64; omega)) (by decide))) rfl)) ?_
  refine dr_put (d := 78) (v := .pt 101 35) rfl (og rfl (of_eff (s_field_pt rfl Tryd.underlying70 rfl ti67 rfl rfl rfl) rfl)) ?_
  refine dr_put (d := 79) (v := .pt 101 35) rfl (og rfl (of_eff (s_field_pt rfl Tryd.underlying67 rfl ti65 rfl rfl rfl) rfl)) ?_
  refine dr_put (d := 80) (v := .pt 101 35) rfl (og rfl (of_eff (s_field_pt rfl Tryd.underlying65 rfl ti63 rfl rfl rfl) rfl)) ?_
  refine dr_put (d := 81) (v := .d (.sl 3 (List.map eEn s.books.led.e))) rfl (og rfl (op_load_pt rfl Tryd.underlying63 rfl rfl rfl rfl rfl)) ?_
  refine dr_put (d := 82) (v := .d (.fl (.int .i64 (s.books.led.e.length : Int)))) rfl (og rfl (s_len rfl Tryd.underlying63 rfl rfl)) ?_
  refine dr_put (d := 83) (v := .d (.fl (.string ((fm (s.books.led.e.length : Int)))))) rfl (og rfl (op_callK kkst hG rfl Tryd.func25 nm25 rfl (.cons rfl (.d _) .nil) (fm28 (s.books.led.e.length : Int) (by unfold in64; omega)) rfl)) ?_
  refine dr_put (d := 84) (v := .d (.fl (.int .i64 (dbE s.books.led.e s.books.led.e.length)))) rfl (og rfl (op_move rfl rfl rfl)) ?_
  refine dr_put (d := 85) (v := .d (.fl (.string ((sh (dbE s.books.led.e s.books.led.e.length)))))) rfl (og rfl (op_callK kkst hG rfl Tryd.func26 nm26 rfl (.cons rfl (.d _) .nil) (sh29 (dbE s.books.led.e s.books.led.e.length) (by unfold in64; omega)) rfl)) ?_
  refine dr_put (d := 86) (v := .d (.sl 1 (List.map rS ([⟨#[101, 110, 116, 114, 105, 101, 115]⟩, (fm (s.books.led.e.length : Int)), (sh (dbE s.books.led.e s.books.led.e.length))])))) rfl (og rfl (of_eff (op_slices rfl Tryd.underlying98 ti9 rfl rfl rfl (by kernel_rfl) (xs := [.fl (.string (⟨#[101, 110, 116, 114, 105, 101, 115]⟩)), .fl (.string ((fm (s.books.led.e.length : Int)))), .fl (.string ((sh (dbE s.books.led.e s.books.led.e.length))))]) rfl rfl (.cons rfl rfl (.d _) rfl rfl rfl (.cons rfl rfl (.d _) rfl rfl rfl (.cons rfl rfl (.d _) rfl rfl rfl .nil))) rfl) rfl)) ?_
  refine dr_put (d := 87) (v := .d (.fl (.string ((ln ([⟨#[101, 110, 116, 114, 105, 101, 115]⟩, (fm (s.books.led.e.length : Int)), (sh (dbE s.books.led.e s.books.led.e.length))])))))) rfl (og rfl (op_call rfl Tryd.func23 nm23 rfl (.cons rfl (.d _) .nil) (ln26 ([⟨#[101, 110, 116, 114, 105, 101, 115]⟩, (fm (s.books.led.e.length : Int)), (sh (dbE s.books.led.e s.books.led.e.length))]) (Nat.le_trans (l3_jn (by decide) (by unfold in64; omega) (by unfold in64; omega)) (by decide))) rfl)) ?_
  refine dr_put (d := 88) (v := .pt 101 37) rfl (og rfl (of_eff (s_field_pt rfl Tryd.underlying70 rfl ti68 rfl rfl rfl) rfl)) ?_
  refine dr_put (d := 89) (v := .d (.sl 12 (List.map eCs s.cases))) rfl (og rfl (op_load_pt rfl Tryd.underlying68 rfl rfl rfl rfl rfl)) ?_
  refine dr_put (d := 90) (v := .d (.fl (.int .i64 (s.cases.length : Int)))) rfl (og rfl (s_len rfl Tryd.underlying68 rfl rfl)) ?_
  refine dr_put (d := 91) (v := .d (.fl (.string ((fm (s.cases.length : Int)))))) rfl (og rfl (op_callK kkst hG rfl Tryd.func25 nm25 rfl (.cons rfl (.d _) .nil) (fm28 (s.cases.length : Int) (by unfold in64; omega)) rfl)) ?_
  refine dr_put (d := 92) (v := .d (.fl (.int .i64 (((opF s.cases s.cases.length).length : Int))))) rfl (og rfl (op_move rfl rfl rfl)) ?_
  refine dr_put (d := 93) (v := .d (.fl (.string ((fm (((opF s.cases s.cases.length).length : Int))))))) rfl (og rfl (op_callK kkst hG rfl Tryd.func25 nm25 rfl (.cons rfl (.d _) .nil) (fm28 (((opF s.cases s.cases.length).length : Int)) (by unfold in64; omega)) rfl)) ?_
  refine dr_put (d := 94) (v := .d (.sl 1 (List.map rS ([⟨#[99, 97, 115, 101, 115]⟩, (fm (s.cases.length : Int)), (fm (((opF s.cases s.cases.length).length : Int)))])))) rfl (og rfl (of_eff (op_slices rfl Tryd.underlying98 ti9 rfl rfl rfl (by kernel_rfl) (xs := [.fl (.string (⟨#[99, 97, 115, 101, 115]⟩)), .fl (.string ((fm (s.cases.length : Int)))), .fl (.string ((fm (((opF s.cases s.cases.length).length : Int)))))]) rfl rfl (.cons rfl rfl (.d _) rfl rfl rfl (.cons rfl rfl (.d _) rfl rfl rfl (.cons rfl rfl (.d _) rfl rfl rfl .nil))) rfl) rfl)) ?_
  refine dr_put (d := 95) (v := .d (.fl (.string ((ln ([⟨#[99, 97, 115, 101, 115]⟩, (fm (s.cases.length : Int)), (fm (((opF s.cases s.cases.length).length : Int)))])))))) rfl (og rfl (op_call rfl Tryd.func23 nm23 rfl (.cons rfl (.d _) .nil) (ln26 ([⟨#[99, 97, 115, 101, 115]⟩, (fm (s.cases.length : Int)), (fm (((opF s.cases s.cases.length).length : Int)))]) (Nat.le_trans (l4_jn (by decide) (by unfold in64; omega) (by unfold in64; omega)) (by decide))) rfl)) ?_
  refine dr_put (d := 96) (v := .d (.sl 1 (List.map rS ([(ln ([⟨#[101, 118, 101, 110, 116, 115]⟩, (fm s.count)])), (ln ([⟨#[99, 108, 111, 115, 101, 100]⟩, (dtS s.closed)])), (ln ([⟨#[112, 97, 115, 115, 97, 103, 101, 115]⟩, (fm (s.res.pass.length : Int))])), (ln ([⟨#[114, 101, 106, 101, 99, 116, 115]⟩, (fm (s.res.rej.length : Int))])), (ln ([⟨#[116, 114, 105, 112, 115]⟩, (fm (s.res.trips.length : Int))])), (ln ([⟨#[115, 116, 97, 121, 115]⟩, (fm (s.res.stays.length : Int))])), (ln ([⟨#[99, 104, 97, 114, 103, 101, 115]⟩, (fm (s.res.chg.length : Int)), (sh (tot s.res.chg s.res.chg.length))])), (ln ([⟨#[101, 120, 99, 108, 117, 115, 105, 111, 110, 115]⟩, (fm (s.res.exc.length : Int))])), (ln ([⟨#[112, 111, 115, 116, 101, 100]⟩, (fm (s.books.done.length : Int))])), (ln ([⟨#[101, 110, 116, 114, 105, 101, 115]⟩, (fm (s.books.led.e.length : Int)), (sh (dbE s.books.led.e s.books.led.e.length))])), (ln ([⟨#[99, 97, 115, 101, 115]⟩, (fm (s.cases.length : Int)), (fm (((opF s.cases s.cases.length).length : Int)))]))])))) rfl (og rfl (of_eff (op_slices rfl Tryd.underlying98 ti9 rfl rfl rfl (by kernel_rfl) (xs := [.fl (.string ((ln ([⟨#[101, 118, 101, 110, 116, 115]⟩, (fm s.count)])))), .fl (.string ((ln ([⟨#[99, 108, 111, 115, 101, 100]⟩, (dtS s.closed)])))), .fl (.string ((ln ([⟨#[112, 97, 115, 115, 97, 103, 101, 115]⟩, (fm (s.res.pass.length : Int))])))), .fl (.string ((ln ([⟨#[114, 101, 106, 101, 99, 116, 115]⟩, (fm (s.res.rej.length : Int))])))), .fl (.string ((ln ([⟨#[116, 114, 105, 112, 115]⟩, (fm (s.res.trips.length : Int))])))), .fl (.string ((ln ([⟨#[115, 116, 97, 121, 115]⟩, (fm (s.res.stays.length : Int))])))), .fl (.string ((ln ([⟨#[99, 104, 97, 114, 103, 101, 115]⟩, (fm (s.res.chg.length : Int)), (sh (tot s.res.chg s.res.chg.length))])))), .fl (.string ((ln ([⟨#[101, 120, 99, 108, 117, 115, 105, 111, 110, 115]⟩, (fm (s.res.exc.length : Int))])))), .fl (.string ((ln ([⟨#[112, 111, 115, 116, 101, 100]⟩, (fm (s.books.done.length : Int))])))), .fl (.string ((ln ([⟨#[101, 110, 116, 114, 105, 101, 115]⟩, (fm (s.books.led.e.length : Int)), (sh (dbE s.books.led.e s.books.led.e.length))])))), .fl (.string ((ln ([⟨#[99, 97, 115, 101, 115]⟩, (fm (s.cases.length : Int)), (fm (((opF s.cases s.cases.length).length : Int)))]))))]) rfl rfl (.cons rfl rfl (.d _) rfl rfl rfl (.cons rfl rfl (.d _) rfl rfl rfl (.cons rfl rfl (.d _) rfl rfl rfl (.cons rfl rfl (.d _) rfl rfl rfl (.cons rfl rfl (.d _) rfl rfl rfl (.cons rfl rfl (.d _) rfl rfl rfl (.cons rfl rfl (.d _) rfl rfl rfl (.cons rfl rfl (.d _) rfl rfl rfl (.cons rfl rfl (.d _) rfl rfl rfl (.cons rfl rfl (.d _) rfl rfl rfl (.cons rfl rfl (.d _) rfl rfl rfl .nil))))))))))) rfl) rfl)) ?_
  refine dr_put (d := 97) (v := .d (.fl (.string ((Go.Proofs.YtglhonnmppclpaaDoor.Ow.jc ([(ln ([⟨#[101, 118, 101, 110, 116, 115]⟩, (fm s.count)])), (ln ([⟨#[99, 108, 111, 115, 101, 100]⟩, (dtS s.closed)])), (ln ([⟨#[112, 97, 115, 115, 97, 103, 101, 115]⟩, (fm (s.res.pass.length : Int))])), (ln ([⟨#[114, 101, 106, 101, 99, 116, 115]⟩, (fm (s.res.rej.length : Int))])), (ln ([⟨#[116, 114, 105, 112, 115]⟩, (fm (s.res.trips.length : Int))])), (ln ([⟨#[115, 116, 97, 121, 115]⟩, (fm (s.res.stays.length : Int))])), (ln ([⟨#[99, 104, 97, 114, 103, 101, 115]⟩, (fm (s.res.chg.length : Int)), (sh (tot s.res.chg s.res.chg.length))])), (ln ([⟨#[101, 120, 99, 108, 117, 115, 105, 111, 110, 115]⟩, (fm (s.res.exc.length : Int))])), (ln ([⟨#[112, 111, 115, 116, 101, 100]⟩, (fm (s.books.done.length : Int))])), (ln ([⟨#[101, 110, 116, 114, 105, 101, 115]⟩, (fm (s.books.led.e.length : Int)), (sh (dbE s.books.led.e s.books.led.e.length))])), (ln ([⟨#[99, 97, 115, 101, 115]⟩, (fm (s.cases.length : Int)), (fm (((opF s.cases s.cases.length).length : Int)))]))])))))) rfl (og rfl (op_call rfl Tryd.func48 nm48 rfl (.cons rfl (.d _) (.cons rfl (.d _) .nil)) (jc48 ([(ln ([⟨#[101, 118, 101, 110, 116, 115]⟩, (fm s.count)])), (ln ([⟨#[99, 108, 111, 115, 101, 100]⟩, (dtS s.closed)])), (ln ([⟨#[112, 97, 115, 115, 97, 103, 101, 115]⟩, (fm (s.res.pass.length : Int))])), (ln ([⟨#[114, 101, 106, 101, 99, 116, 115]⟩, (fm (s.res.rej.length : Int))])), (ln ([⟨#[116, 114, 105, 112, 115]⟩, (fm (s.res.trips.length : Int))])), (ln ([⟨#[115, 116, 97, 121, 115]⟩, (fm (s.res.stays.length : Int))])), (ln ([⟨#[99, 104, 97, 114, 103, 101, 115]⟩, (fm (s.res.chg.length : Int)), (sh (tot s.res.chg s.res.chg.length))])), (ln ([⟨#[101, 120, 99, 108, 117, 115, 105, 111, 110, 115]⟩, (fm (s.res.exc.length : Int))])), (ln ([⟨#[112, 111, 115, 116, 101, 100]⟩, (fm (s.books.done.length : Int))])), (ln ([⟨#[101, 110, 116, 114, 105, 101, 115]⟩, (fm (s.books.led.e.length : Int)), (sh (dbE s.books.led.e s.books.led.e.length))])), (ln ([⟨#[99, 97, 115, 101, 115]⟩, (fm (s.cases.length : Int)), (fm (((opF s.cases s.cases.length).length : Int)))]))]) (by simp only [List.length_cons, List.length_nil]; omega) (by rw [tS_jc s]; unfold tS; simp only [ByteArray.size_append]; omega)) rfl)) ?_
  refine dr_put (d := 2) (v := .d (.fl (.string ((Go.Proofs.YtglhonnmppclpaaDoor.Ow.jc ([(ln ([⟨#[101, 118, 101, 110, 116, 115]⟩, (fm s.count)])), (ln ([⟨#[99, 108, 111, 115, 101, 100]⟩, (dtS s.closed)])), (ln ([⟨#[112, 97, 115, 115, 97, 103, 101, 115]⟩, (fm (s.res.pass.length : Int))])), (ln ([⟨#[114, 101, 106, 101, 99, 116, 115]⟩, (fm (s.res.rej.length : Int))])), (ln ([⟨#[116, 114, 105, 112, 115]⟩, (fm (s.res.trips.length : Int))])), (ln ([⟨#[115, 116, 97, 121, 115]⟩, (fm (s.res.stays.length : Int))])), (ln ([⟨#[99, 104, 97, 114, 103, 101, 115]⟩, (fm (s.res.chg.length : Int)), (sh (tot s.res.chg s.res.chg.length))])), (ln ([⟨#[101, 120, 99, 108, 117, 115, 105, 111, 110, 115]⟩, (fm (s.res.exc.length : Int))])), (ln ([⟨#[112, 111, 115, 116, 101, 100]⟩, (fm (s.books.done.length : Int))])), (ln ([⟨#[101, 110, 116, 114, 105, 101, 115]⟩, (fm (s.books.led.e.length : Int)), (sh (dbE s.books.led.e s.books.led.e.length))])), (ln ([⟨#[99, 97, 115, 101, 115]⟩, (fm (s.cases.length : Int)), (fm (((opF s.cases s.cases.length).length : Int)))]))])))))) rfl (og rfl (op_assign rfl rfl rfl)) ?_
  refine dr_done rfl (sepB_of [0, 1, 3, 7, 15, 0, 32, 127, 255, 511, 0, 1024, 3072, 8191, 16383, 32767, 0, 65536, 196608, 524287, 1048575, 2097151, 0, 4194304, 12582912, 33554431, 67108863, 134217727, 0, 268435456, 805306368, 2147483647, 4294967295, 8589934591, 0, 0, 51539607552, 137438953471, 0, 274877906944, 824633720832, 2199023255551, 4398046511103, 8796093022207, 0, 17592186044416, 52776558133248, 123145302310912, 281474976710655, 562949953421311, 1125899906842623, 0, 2251799813685248, 6755399441055744, 15762598695796736, 33776997205278720, 72057594037927935, 0, 288230376151711743, 576460752303423487, 1152921504606846975, 0, 2305843009213693952, 6917529027641081856, 18446744073709551615, 0, 73786976294838206463, 147573952589676412927, 295147905179352825855, 590295810358705651711, 1180591620717411303423, 2361183241434822606847] (by kernel_rfl)) (by kernel_rfl) ?_
  refine a_ret ?_
  show ∃ ds, ResL _ _ _ ds ∧ RV.of ds = _
  refine ⟨[.fl (.string ((Go.Proofs.YtglhonnmppclpaaDoor.Ow.jc ([(ln ([⟨#[101, 118, 101, 110, 116, 115]⟩, (fm s.count)])), (ln ([⟨#[99, 108, 111, 115, 101, 100]⟩, (dtS s.closed)])), (ln ([⟨#[112, 97, 115, 115, 97, 103, 101, 115]⟩, (fm (s.res.pass.length : Int))])), (ln ([⟨#[114, 101, 106, 101, 99, 116, 115]⟩, (fm (s.res.rej.length : Int))])), (ln ([⟨#[116, 114, 105, 112, 115]⟩, (fm (s.res.trips.length : Int))])), (ln ([⟨#[115, 116, 97, 121, 115]⟩, (fm (s.res.stays.length : Int))])), (ln ([⟨#[99, 104, 97, 114, 103, 101, 115]⟩, (fm (s.res.chg.length : Int)), (sh (tot s.res.chg s.res.chg.length))])), (ln ([⟨#[101, 120, 99, 108, 117, 115, 105, 111, 110, 115]⟩, (fm (s.res.exc.length : Int))])), (ln ([⟨#[112, 111, 115, 116, 101, 100]⟩, (fm (s.books.done.length : Int))])), (ln ([⟨#[101, 110, 116, 114, 105, 101, 115]⟩, (fm (s.books.led.e.length : Int)), (sh (dbE s.books.led.e s.books.led.e.length))])), (ln ([⟨#[99, 97, 115, 101, 115]⟩, (fm (s.cases.length : Int)), (fm (((opF s.cases s.cases.length).length : Int)))]))]))))], (.cons (.tmp rfl (.d _)) .nil), ?_⟩
  rw [← tS_jc s]; rfl
set_option maxHeartbeats 4000000 in
set_option maxRecDepth 100000 in
theorem tot20 (s : Sa) (hT : OkT s) : Ctr Tryd.prog 20 [.ag (eSa s)] (.d (.fl (.string (tS s)))) := by
  have t1 := hT.chg.1
  have t2 := hT.en.len
  have t3 := hT.cs
  have t4 := hT.pass
  have t5 := hT.rej
  have t6 := hT.trips
  have t7 := hT.stays
  have t8 := hT.exc
  have t9 := hT.done
  have tc := hT.count
  have tb := tot_bd (okL_fit hT.chg) _ (Nat.le_refl _)
  have te := en_bd hT.en ⟨#[]⟩ _ (Nat.le_refl _)
  have tq := opF_len s.cases _ (Nat.le_refl _)
  unfold in64 at tc
  have z0 := l2_ln (w := ⟨#[101, 118, 101, 110, 116, 115]⟩) (n := s.count) (by decide) (by unfold in64; omega)
  have z1 := ld_ln (w := ⟨#[99, 108, 111, 115, 101, 100]⟩) s.closed (by decide)
  have z2 := l2_ln (w := ⟨#[112, 97, 115, 115, 97, 103, 101, 115]⟩) (n := (s.res.pass.length : Int)) (by decide) (by unfold in64; omega)
  have z3 := l2_ln (w := ⟨#[114, 101, 106, 101, 99, 116, 115]⟩) (n := (s.res.rej.length : Int)) (by decide) (by unfold in64; omega)
  have z4 := l2_ln (w := ⟨#[116, 114, 105, 112, 115]⟩) (n := (s.res.trips.length : Int)) (by decide) (by unfold in64; omega)
  have z5 := l2_ln (w := ⟨#[115, 116, 97, 121, 115]⟩) (n := (s.res.stays.length : Int)) (by decide) (by unfold in64; omega)
  have z6 := l3_ln (w := ⟨#[99, 104, 97, 114, 103, 101, 115]⟩) (n := (s.res.chg.length : Int)) (t := (tot s.res.chg s.res.chg.length)) (by decide) (by unfold in64; omega) (by unfold in64; omega)
  have z7 := l2_ln (w := ⟨#[101, 120, 99, 108, 117, 115, 105, 111, 110, 115]⟩) (n := (s.res.exc.length : Int)) (by decide) (by unfold in64; omega)
  have z8 := l2_ln (w := ⟨#[112, 111, 115, 116, 101, 100]⟩) (n := (s.books.done.length : Int)) (by decide) (by unfold in64; omega)
  have z9 := l3_ln (w := ⟨#[101, 110, 116, 114, 105, 101, 115]⟩) (n := (s.books.led.e.length : Int)) (t := (dbE s.books.led.e s.books.led.e.length)) (by decide) (by unfold in64; omega) (by unfold in64; omega)
  have z10 := l4_ln (w := ⟨#[99, 97, 115, 101, 115]⟩) (n := (s.cases.length : Int)) (t := ((opF s.cases s.cases.length).length : Int)) (by decide) (by unfold in64; omega) (by unfold in64; omega)
  refine ctr (n := 122) (rs := #[.tmp 2]) (L := [(0, .d (.ag (eSa s)))]) Tryd.func20 rfl rfl rfl rfl rfl (fun w0 U0 => ?_)
  refine a_rseq ?_
  refine rg_nam (d := 1) (v := .pt 101 0) (m := 101) (nw := [(101, .bx 70 (eSa s))]) rfl (og rfl (of_eff (op_box 101 rfl rfl rfl rfl) rfl)) rfl ?_
  refine rg_put (d := 2) (v := .d (.fl (.string (⟨#[]⟩)))) rfl (og rfl (op_assign rfl rfl rfl)) ?_
  refine rg_done rfl ?_
  refine a_rseq ?_
  refine rg_put (d := 11) (v := .pt 101 29) rfl (og rfl (of_eff (s_field_pt rfl Tryd.underlying70 rfl ti62 rfl rfl rfl) rfl)) ?_
  refine rg_put (d := 12) (v := .d (.ag (eRs s.res))) rfl (og rfl (of_eff (s_load_pts rfl Tryd.underlying62 rfl ti62 rfl rfl rfl rfl) rfl)) ?_
  refine rg_nam (d := 3) (v := .pt 102 0) (m := 102) (nw := [(102, .bx 62 [.fl (.slice none 0 0), .fl (.slice none 0 0), .fl (.slice none 0 0), .fl (.slice none 0 0), .fl (.slice none 0 0), .fl (.slice none 0 0)])]) rfl (og rfl (of_eff (s_alloc 102 rfl ti62 (by kernel_rfl) rfl) rfl)) rfl ?_
  refine rg_sto (nw := [(102, .bx 62 (eRs s.res))]) rfl (og rfl (of_eff (s_store rfl rfl ti62 rfl rfl rfl rfl rfl rfl) rfl)) ?_
  refine rg_done rfl ?_
  refine a_rseq ?_
  refine rg_put (d := 4) (v := .d (.fl (.int .i64 0))) rfl (og rfl (op_assign rfl rfl rfl)) ?_
  refine rg_put (d := 5) (v := .d (.fl (.int .i64 0))) rfl (og rfl (op_assign rfl rfl rfl)) ?_
  refine rg_done rfl ?_
  refine a_seq ?_
  refine a_rseq ?_
  refine rg_put (d := 6) (v := .d (.fl (.int .i64 0))) rfl (og rfl (op_assign rfl rfl rfl)) ?_
  refine rg_done rfl ?_
  refine a_block ?_
  refine a_loop (ι := Nat) (fun k => SS [(0, .d (.ag (eSa s))), (1, .pt 101 0), (2, .d (.fl (.string (⟨#[]⟩)))), (3, .pt 102 0), (5, .d (.fl (.int .i64 0))), (6, .d (.fl (.int .i64 (k : Int)))), (4, .d (.fl (.int .i64 (tot s.res.chg k))))] [(101, .bx 70 (eSa s)), (102, .bx 62 (eRs s.res))]) (fun k => k ≤ s.res.chg.length) (fun k => s.res.chg.length - k) 0 (by omega) (imp_forget rfl ⟨rfl, rfl, rfl, rfl, rfl, (by first | rfl | exact ci (by omega) | exact ci (by simp) | exact cd (by simp) | simp), rfl, trivial⟩ ⟨rfl, rfl, trivial⟩) (fun k hok => ?_)
  have hk := hok
  have htb := tot_bd (okL_fit hT.chg) k hk
  refine a_seq ?_
  refine a_rseq ?_
  refine rg_put (d := 13) (v := .d (.fl (.int .i64 (k : Int)))) rfl (og rfl (op_move rfl rfl rfl)) ?_
  refine rg_put (d := 14) (v := .pt 102 4) rfl (og rfl (of_eff (s_field_pt rfl Tryd.underlying62 rfl ti59 rfl rfl rfl) rfl)) ?_
  refine rg_put (d := 15) (v := .d (.sl 7 (List.map eCg s.res.chg))) rfl (og rfl (op_load_pt rfl Tryd.underlying59 rfl rfl rfl rfl rfl)) ?_
  refine rg_put (d := 16) (v := .d (.fl (.int .i64 (s.res.chg.length : Int)))) rfl (og rfl (s_len rfl Tryd.underlying59 rfl rfl)) ?_
  refine rg_put (d := 17) (v := .d (.fl (.bool ((decide ((k : Int) < (s.res.chg.length : Int))))))) rfl (og rfl (op_bin rfl rfl rfl (b_lss _ _ _ _) rfl)) ?_
  refine rg_done rfl ?_
  refine a_cond rfl (fun h1 => ?_) (fun h1 => ?_)
  · skip
    have h2 := t_dec h1
    refine a_skip ?_
    show A _ _ _ _ _ _ _
    refine a_seq ?_
    refine a_block ?_
    refine a_region ?_
    have hxf := okL_fit hT.chg _ (ix_mem (show k < s.res.chg.length by omega))
    refine rg_put (d := 20) (v := .d (.fl (.int .i64 (tot s.res.chg k)))) rfl (og rfl (op_move rfl rfl rfl)) ?_
    refine rg_put (d := 21) (v := .pt 102 4) rfl (og rfl (of_eff (s_field_pt rfl Tryd.underlying62 rfl ti59 rfl rfl rfl) rfl)) ?_
    refine rg_put (d := 22) (v := .d (.sl 7 (List.map eCg s.res.chg))) rfl (og rfl (op_load_pt rfl Tryd.underlying59 rfl rfl rfl rfl rfl)) ?_
    refine rg_put (d := 23) (v := .d (.fl (.int .i64 (k : Int)))) rfl (og rfl (op_move rfl rfl rfl)) ?_
    refine rg_put (d := 24) (v := .el ((eCg (ix s.res.chg k)))) rfl (og rfl (s_index rfl Tryd.underlying59 ti24 rfl rfl (by omega) (row_at (by omega)) rfl)) ?_
    refine rg_put (d := 25) (v := .el ((List.drop 6 ((eCg (ix s.res.chg k)))))) rfl (og rfl (of_eff (s_field_el rfl Tryd.underlying24 rfl ti3 rfl rfl rfl) rfl)) ?_
    refine rg_put (d := 26) (v := .d (.fl (.int .i64 ((ix s.res.chg k).cents)))) rfl (og rfl (op_load_el rfl Tryd.underlying3 rfl rfl rfl rfl)) ?_
    refine rg_put (d := 27) (v := .d (.fl (.int .i64 (((tot s.res.chg k) + (ix s.res.chg k).cents))))) rfl (og rfl (op_bin rfl rfl rfl (fun x y w => b_add64 _ _ _ x y w (by omega)) rfl)) ?_
    refine rg_put (d := 4) (v := .d (.fl (.int .i64 (((tot s.res.chg k) + (ix s.res.chg k).cents))))) rfl (og rfl (op_assign rfl rfl rfl)) ?_
    refine rg_done rfl ?_
    show A _ _ _ _ _ _ _
    refine a_region ?_
    refine rg_put (d := 18) (v := .d (.fl (.int .i64 (k : Int)))) rfl (og rfl (op_move rfl rfl rfl)) ?_
    refine rg_put (d := 19) (v := .d (.fl (.int .i64 (((k : Int) + 1))))) rfl (og rfl (op_bin rfl rfl rfl (fun x y w => b_add64 _ _ _ x y w (by omega)) rfl)) ?_
    refine rg_put (d := 6) (v := .d (.fl (.int .i64 (((k : Int) + 1))))) rfl (og rfl (op_assign rfl rfl rfl)) ?_
    refine rg_done rfl ?_
    show ∃ i, _ ∧ _ ∧ Imp _ _ _ _ _
    refine ⟨k + 1, (by omega), by omega, imp_forget rfl ⟨rfl, rfl, rfl, rfl, rfl, (by first | rfl | exact ci (by omega) | exact ci (by simp) | exact cd (by simp) | simp), rfl, trivial⟩ ⟨rfl, rfl, trivial⟩⟩
  · skip
    have h3 := f_dec h1
    refine a_exit ?_
    show A _ _ _ _ _ _ _
    refine a_seq ?_
    refine a_rseq ?_
    refine rg_put (d := 7) (v := .d (.fl (.int .i64 0))) rfl (og rfl (op_assign rfl rfl rfl)) ?_
    refine rg_done rfl ?_
    refine a_block ?_
    refine a_loop (ι := Nat) (fun j => SS [(0, .d (.ag (eSa s))), (1, .pt 101 0), (2, .d (.fl (.string (⟨#[]⟩)))), (3, .pt 102 0), (4, .d (.fl (.int .i64 (tot s.res.chg k)))), (6, .d (.fl (.int .i64 (k : Int)))), (17, .d (.fl (.bool ((decide ((k : Int) < (s.res.chg.length : Int))))))), (7, .d (.fl (.int .i64 (j : Int)))), (5, .d (.fl (.int .i64 (((opF s.cases j).length : Int)))))] [(101, .bx 70 (eSa s)), (102, .bx 62 (eRs s.res))]) (fun j => j ≤ s.cases.length) (fun j => s.cases.length - j) 0 (by omega) (imp_forget rfl ⟨rfl, rfl, rfl, rfl, rfl, rfl, rfl, (by first | rfl | exact ci (by omega) | exact ci (by simp) | exact cd (by simp) | simp), rfl, trivial⟩ ⟨rfl, rfl, trivial⟩) (fun j hok => ?_)
    have hj := hok
    have hol := opF_len s.cases j hj
    refine a_seq ?_
    refine a_rseq ?_
    refine rg_put (d := 28) (v := .d (.fl (.int .i64 (j : Int)))) rfl (og rfl (op_move rfl rfl rfl)) ?_
    refine rg_put (d := 29) (v := .pt 101 37) rfl (og rfl (of_eff (s_field_pt rfl Tryd.underlying70 rfl ti68 rfl rfl rfl) rfl)) ?_
    refine rg_put (d := 30) (v := .d (.sl 12 (List.map eCs s.cases))) rfl (og rfl (op_load_pt rfl Tryd.underlying68 rfl rfl rfl rfl rfl)) ?_
    refine rg_put (d := 31) (v := .d (.fl (.int .i64 (s.cases.length : Int)))) rfl (og rfl (s_len rfl Tryd.underlying68 rfl rfl)) ?_
    refine rg_put (d := 32) (v := .d (.fl (.bool ((decide ((j : Int) < (s.cases.length : Int))))))) rfl (og rfl (op_bin rfl rfl rfl (b_lss _ _ _ _) rfl)) ?_
    refine rg_done rfl ?_
    refine a_cond rfl (fun h4 => ?_) (fun h4 => ?_)
    · skip
      have h5 := t_dec h4
      refine a_skip ?_
      show A _ _ _ _ _ _ _
      refine a_seq ?_
      refine a_block ?_
      refine a_rseq ?_
      refine rg_put (d := 35) (v := .pt 101 37) rfl (og rfl (of_eff (s_field_pt rfl Tryd.underlying70 rfl ti68 rfl rfl rfl) rfl)) ?_
      refine rg_put (d := 36) (v := .d (.sl 12 (List.map eCs s.cases))) rfl (og rfl (op_load_pt rfl Tryd.underlying68 rfl rfl rfl rfl rfl)) ?_
      refine rg_put (d := 37) (v := .d (.fl (.int .i64 (j : Int)))) rfl (og rfl (op_move rfl rfl rfl)) ?_
      refine rg_put (d := 38) (v := .el ((eCs (ix s.cases j)))) rfl (og rfl (s_index rfl Tryd.underlying68 ti102 rfl rfl (by omega) (row_at (by omega)) rfl)) ?_
      refine rg_put (d := 39) (v := .d (.ag (eCs (ix s.cases j)))) rfl (og rfl (of_eff (s_load_els rfl Tryd.underlying102 rfl ti102 rfl rfl rfl) rfl)) ?_
      refine rg_put (d := 40) (v := .d (.fl (.bool ((opn (ix s.cases j)))))) rfl (og rfl (op_call rfl Tryd.func55 nm55 rfl (.cons rfl (.d _) .nil) (opn22 (ix s.cases j)) rfl)) ?_
      refine rg_done rfl ?_
      refine a_cond rfl (fun h6 => ?_) (fun h6 => ?_)
      · skip
        refine a_region ?_
        refine rg_put (d := 41) (v := .d (.fl (.int .i64 (((opF s.cases j).length : Int))))) rfl (og rfl (op_move rfl rfl rfl)) ?_
        refine rg_put (d := 42) (v := .d (.fl (.int .i64 ((((opF s.cases j).length : Int) + 1))))) rfl (og rfl (op_bin rfl rfl rfl (fun x y w => b_add64 _ _ _ x y w (by omega)) rfl)) ?_
        refine rg_put (d := 5) (v := .d (.fl (.int .i64 ((((opF s.cases j).length : Int) + 1))))) rfl (og rfl (op_assign rfl rfl rfl)) ?_
        refine rg_done rfl ?_
        show A _ _ _ _ _ _ _
        refine a_region ?_
        refine rg_put (d := 33) (v := .d (.fl (.int .i64 (j : Int)))) rfl (og rfl (op_move rfl rfl rfl)) ?_
        refine rg_put (d := 34) (v := .d (.fl (.int .i64 (((j : Int) + 1))))) rfl (og rfl (op_bin rfl rfl rfl (fun x y w => b_add64 _ _ _ x y w (by omega)) rfl)) ?_
        refine rg_put (d := 7) (v := .d (.fl (.int .i64 (((j : Int) + 1))))) rfl (og rfl (op_assign rfl rfl rfl)) ?_
        refine rg_done rfl ?_
        show ∃ i, _ ∧ _ ∧ Imp _ _ _ _ _
        refine ⟨j + 1, (by omega), by omega, imp_forget rfl ⟨rfl, rfl, rfl, rfl, rfl, rfl, rfl, (by first | rfl | exact ci (by omega) | exact ci (by simp) | exact cd (by simp) | simp), (congrArg (fun z => AV.d (.fl (.int .i64 z))) (opn_yes h6)), trivial⟩ ⟨rfl, rfl, trivial⟩⟩
      · skip
        refine a_skip ?_
        show A _ _ _ _ _ _ _
        refine a_region ?_
        refine rg_put (d := 33) (v := .d (.fl (.int .i64 (j : Int)))) rfl (og rfl (op_move rfl rfl rfl)) ?_
        refine rg_put (d := 34) (v := .d (.fl (.int .i64 (((j : Int) + 1))))) rfl (og rfl (op_bin rfl rfl rfl (fun x y w => b_add64 _ _ _ x y w (by omega)) rfl)) ?_
        refine rg_put (d := 7) (v := .d (.fl (.int .i64 (((j : Int) + 1))))) rfl (og rfl (op_assign rfl rfl rfl)) ?_
        refine rg_done rfl ?_
        show ∃ i, _ ∧ _ ∧ Imp _ _ _ _ _
        refine ⟨j + 1, (by omega), by omega, imp_forget rfl ⟨rfl, rfl, rfl, rfl, rfl, rfl, rfl, (by first | rfl | exact ci (by omega) | exact ci (by simp) | exact cd (by simp) | simp), (congrArg (fun z => AV.d (.fl (.int .i64 z))) (opn_no h6)), trivial⟩ ⟨rfl, rfl, trivial⟩⟩
    · skip
      have h7 := f_dec h4
      refine a_exit ?_
      show A _ _ _ _ _ _ _
      refine a_rseq ?_
      have hkl : k = s.res.chg.length := by omega
      have hjl : j = s.cases.length := by omega
      rw [show (tot s.res.chg k) = (tot s.res.chg s.res.chg.length) from by rw [hkl]]
      rw [show (opF s.cases j) = (opF s.cases s.cases.length) from by rw [hjl]]
      refine rg_put (d := 44) (v := .pt 101 35) rfl (og rfl (of_eff (s_field_pt rfl Tryd.underlying70 rfl ti67 rfl rfl rfl) rfl)) ?_
      refine rg_put (d := 45) (v := .pt 101 35) rfl (og rfl (of_eff (s_field_pt rfl Tryd.underlying67 rfl ti65 rfl rfl rfl) rfl)) ?_
      refine rg_put (d := 46) (v := .d (.ag (eLg s.books.led))) rfl (og rfl (of_eff (s_load_pts rfl Tryd.underlying65 rfl ti65 rfl rfl rfl rfl) rfl)) ?_
      refine rg_put (d := 47) (v := .tu [.fl (.int .i64 (dbE s.books.led.e s.books.led.e.length)), .fl (.int .i64 (crE s.books.led.e s.books.led.e.length))]) rfl (og rfl (op_call rfl Tryd.func56 nm56 rfl (.cons rfl (.d _) .nil) (tr56 s.books.led ⟨#[]⟩ hT.en) rfl)) ?_
      refine rg_put (d := 43) (v := .tu [.fl (.int .i64 (dbE s.books.led.e s.books.led.e.length)), .fl (.int .i64 (crE s.books.led.e s.books.led.e.length))]) rfl (og rfl (op_move rfl rfl rfl)) ?_
      refine rg_put (d := 48) (v := .d (.fl (.int .i64 (dbE s.books.led.e s.books.led.e.length)))) rfl (og rfl (op_extract rfl rfl rfl rfl)) ?_
      refine rg_put (d := 49) (v := .d (.fl (.int .i64 (crE s.books.led.e s.books.led.e.length)))) rfl (og rfl (op_extract rfl rfl rfl rfl)) ?_
      refine rg_put (d := 8) (v := .d (.fl (.int .i64 (dbE s.books.led.e s.books.led.e.length)))) rfl (og rfl (op_assign rfl rfl rfl)) ?_
      refine rg_put (d := 9) (v := .d (.fl (.int .i64 (crE s.books.led.e s.books.led.e.length)))) rfl (og rfl (op_assign rfl rfl rfl)) ?_
      refine rg_done rfl ?_
      refine a_dseq (by kernel_rfl) ?_
      refine dr_put (d := 50) (v := .pt 101 38) rfl (og rfl (of_eff (s_field_pt rfl Tryd.underlying70 rfl ti3 rfl rfl rfl) rfl)) ?_
      refine dr_put (d := 51) (v := .d (.fl (.int .i64 s.count))) rfl (og rfl (op_load_pt rfl Tryd.underlying3 rfl rfl rfl rfl rfl)) ?_
      refine dr_put (d := 52) (v := .d (.fl (.string (ln [⟨#[101, 118, 101, 110, 116, 115]⟩, fm s.count])))) rfl (og rfl (op_call rfl Tryd.func57 nm57 rfl (.cons rfl (.d _) (.cons rfl (.d _) .nil)) (cnt57 (⟨#[101, 118, 101, 110, 116, 115]⟩) s.count (by decide) (by unfold in64; omega)) rfl)) ?_
      refine dr_put (d := 53) (v := .pt 101 28) rfl (og rfl (of_eff (s_field_pt rfl Tryd.underlying70 rfl ti3 rfl rfl rfl) rfl)) ?_
      refine dr_put (d := 54) (v := .d (.fl (.int .i64 s.closed))) rfl (og rfl (op_load_pt rfl Tryd.underlying3 rfl rfl rfl rfl rfl)) ?_
      refine dr_put (d := 55) (v := .d (.fl (.string (dtS s.closed)))) rfl (og rfl (op_call rfl Tryd.func37 nm37 rfl (.cons rfl (.d _) .nil) (date40 s.closed) rfl)) ?_
      refine dr_put (d := 56) (v := .d (.sl 1 (List.map rS ([⟨#[99, 108, 111, 115, 101, 100]⟩, (dtS s.closed)])))) rfl (og rfl (of_eff (op_slices rfl Tryd.underlying98 ti9 rfl rfl rfl (by kernel_rfl) (xs := [.fl (.string (⟨#[99, 108, 111, 115, 101, 100]⟩)), .fl (.string (dtS s.closed))]) rfl rfl (.cons rfl rfl (.d _) rfl rfl rfl (.cons rfl rfl (.d _) rfl rfl rfl .nil)) rfl) rfl)) ?_
      refine dr_put (d := 57) (v := .d (.fl (.string ((ln ([⟨#[99, 108, 111, 115, 101, 100]⟩, (dtS s.closed)])))))) rfl (og rfl (op_call rfl Tryd.func28 nm28 rfl (.cons rfl (.d _) .nil) (ln31 ([⟨#[99, 108, 111, 115, 101, 100]⟩, (dtS s.closed)]) (Nat.le_trans (ld_jn _ (by decide)) (by decide))) rfl)) ?_
      refine dr_put (d := 58) (v := .d (.fl (.string (((ln [⟨#[101, 118, 101, 110, 116, 115]⟩, fm s.count]) ++ ((ln ([⟨#[99, 108, 111, 115, 101, 100]⟩, (dtS s.closed)])))))))) rfl (og rfl (op_bin rfl rfl rfl (fun ox oy ow => b_sadd _ _ _ ox oy ow (by first | omega | (simp only [ByteArray.size_append]; omega))) rfl)) ?_
      refine dr_put (d := 59) (v := .pt 102 0) rfl (og rfl (of_eff (s_field_pt rfl Tryd.underlying62 rfl ti56 rfl rfl rfl) rfl)) ?_
      refine dr_put (d := 60) (v := .d (.sl 8 (List.map ePg s.res.pass))) rfl (og rfl (op_load_pt rfl Tryd.underlying56 rfl rfl rfl rfl rfl)) ?_
      refine dr_put (d := 61) (v := .d (.fl (.int .i64 (s.res.pass.length : Int)))) rfl (og rfl (s_len rfl Tryd.underlying56 rfl rfl)) ?_
      refine dr_put (d := 62) (v := .d (.fl (.string ((ln [⟨#[112, 97, 115, 115, 97, 103, 101, 115]⟩, fm (s.res.pass.length : Int)]))))) rfl (og rfl (op_call rfl Tryd.func57 nm57 rfl (.cons rfl (.d _) (.cons rfl (.d _) .nil)) (cnt57 (⟨#[112, 97, 115, 115, 97, 103, 101, 115]⟩) (s.res.pass.length : Int) (by decide) (by unfold in64; omega)) rfl)) ?_
      refine dr_put (d := 63) (v := .d (.fl (.string (((((ln [⟨#[101, 118, 101, 110, 116, 115]⟩, fm s.count]) ++ ((ln ([⟨#[99, 108, 111, 115, 101, 100]⟩, (dtS s.closed)]))))) ++ ((ln [⟨#[112, 97, 115, 115, 97, 103, 101, 115]⟩, fm (s.res.pass.length : Int)]))))))) rfl (og rfl (op_bin rfl rfl rfl (fun ox oy ow => b_sadd _ _ _ ox oy ow (by first | omega | (simp only [ByteArray.size_append]; omega))) rfl)) ?_
      refine dr_put (d := 64) (v := .pt 102 1) rfl (og rfl (of_eff (s_field_pt rfl Tryd.underlying62 rfl ti54 rfl rfl rfl) rfl)) ?_
      refine dr_put (d := 65) (v := .d (.sl 8 (List.map eRj s.res.rej))) rfl (og rfl (op_load_pt rfl Tryd.underlying54 rfl rfl rfl rfl rfl)) ?_
      refine dr_put (d := 66) (v := .d (.fl (.int .i64 (s.res.rej.length : Int)))) rfl (og rfl (s_len rfl Tryd.underlying54 rfl rfl)) ?_
      refine dr_put (d := 67) (v := .d (.fl (.string ((ln [⟨#[114, 101, 106, 101, 99, 116, 115]⟩, fm (s.res.rej.length : Int)]))))) rfl (og rfl (op_call rfl Tryd.func57 nm57 rfl (.cons rfl (.d _) (.cons rfl (.d _) .nil)) (cnt57 (⟨#[114, 101, 106, 101, 99, 116, 115]⟩) (s.res.rej.length : Int) (by decide) (by unfold in64; omega)) rfl)) ?_
      refine dr_put (d := 68) (v := .d (.fl (.string (((((((ln [⟨#[101, 118, 101, 110, 116, 115]⟩, fm s.count]) ++ ((ln ([⟨#[99, 108, 111, 115, 101, 100]⟩, (dtS s.closed)]))))) ++ ((ln [⟨#[112, 97, 115, 115, 97, 103, 101, 115]⟩, fm (s.res.pass.length : Int)])))) ++ ((ln [⟨#[114, 101, 106, 101, 99, 116, 115]⟩, fm (s.res.rej.length : Int)]))))))) rfl (og rfl (op_bin rfl rfl rfl (fun ox oy ow => b_sadd _ _ _ ox oy ow (by first | omega | (simp only [ByteArray.size_append]; omega))) rfl)) ?_
      refine dr_put (d := 69) (v := .pt 102 2) rfl (og rfl (of_eff (s_field_pt rfl Tryd.underlying62 rfl ti57 rfl rfl rfl) rfl)) ?_
      refine dr_put (d := 70) (v := .d (.sl 5 (List.map eTp s.res.trips))) rfl (og rfl (op_load_pt rfl Tryd.underlying57 rfl rfl rfl rfl rfl)) ?_
      refine dr_put (d := 71) (v := .d (.fl (.int .i64 (s.res.trips.length : Int)))) rfl (og rfl (s_len rfl Tryd.underlying57 rfl rfl)) ?_
      refine dr_put (d := 72) (v := .d (.fl (.string ((ln [⟨#[116, 114, 105, 112, 115]⟩, fm (s.res.trips.length : Int)]))))) rfl (og rfl (op_call rfl Tryd.func57 nm57 rfl (.cons rfl (.d _) (.cons rfl (.d _) .nil)) (cnt57 (⟨#[116, 114, 105, 112, 115]⟩) (s.res.trips.length : Int) (by decide) (by unfold in64; omega)) rfl)) ?_
      refine dr_put (d := 73) (v := .d (.fl (.string (((((((((ln [⟨#[101, 118, 101, 110, 116, 115]⟩, fm s.count]) ++ ((ln ([⟨#[99, 108, 111, 115, 101, 100]⟩, (dtS s.closed)]))))) ++ ((ln [⟨#[112, 97, 115, 115, 97, 103, 101, 115]⟩, fm (s.res.pass.length : Int)])))) ++ ((ln [⟨#[114, 101, 106, 101, 99, 116, 115]⟩, fm (s.res.rej.length : Int)])))) ++ ((ln [⟨#[116, 114, 105, 112, 115]⟩, fm (s.res.trips.length : Int)]))))))) rfl (og rfl (op_bin rfl rfl rfl (fun ox oy ow => b_sadd _ _ _ ox oy ow (by first | omega | (simp only [ByteArray.size_append]; omega))) rfl)) ?_
      refine dr_put (d := 74) (v := .pt 102 3) rfl (og rfl (of_eff (s_field_pt rfl Tryd.underlying62 rfl ti58 rfl rfl rfl) rfl)) ?_
      refine dr_put (d := 75) (v := .d (.sl 5 (List.map eSy s.res.stays))) rfl (og rfl (op_load_pt rfl Tryd.underlying58 rfl rfl rfl rfl rfl)) ?_
      refine dr_put (d := 76) (v := .d (.fl (.int .i64 (s.res.stays.length : Int)))) rfl (og rfl (s_len rfl Tryd.underlying58 rfl rfl)) ?_
      refine dr_put (d := 77) (v := .d (.fl (.string ((ln [⟨#[115, 116, 97, 121, 115]⟩, fm (s.res.stays.length : Int)]))))) rfl (og rfl (op_call rfl Tryd.func57 nm57 rfl (.cons rfl (.d _) (.cons rfl (.d _) .nil)) (cnt57 (⟨#[115, 116, 97, 121, 115]⟩) (s.res.stays.length : Int) (by decide) (by unfold in64; omega)) rfl)) ?_
      refine dr_put (d := 78) (v := .d (.fl (.string (((((((((((ln [⟨#[101, 118, 101, 110, 116, 115]⟩, fm s.count]) ++ ((ln ([⟨#[99, 108, 111, 115, 101, 100]⟩, (dtS s.closed)]))))) ++ ((ln [⟨#[112, 97, 115, 115, 97, 103, 101, 115]⟩, fm (s.res.pass.length : Int)])))) ++ ((ln [⟨#[114, 101, 106, 101, 99, 116, 115]⟩, fm (s.res.rej.length : Int)])))) ++ ((ln [⟨#[116, 114, 105, 112, 115]⟩, fm (s.res.trips.length : Int)])))) ++ ((ln [⟨#[115, 116, 97, 121, 115]⟩, fm (s.res.stays.length : Int)]))))))) rfl (og rfl (op_bin rfl rfl rfl (fun ox oy ow => b_sadd _ _ _ ox oy ow (by first | omega | (simp only [ByteArray.size_append]; omega))) rfl)) ?_
      refine dr_put (d := 10) (v := .d (.fl (.string (((((((((((ln [⟨#[101, 118, 101, 110, 116, 115]⟩, fm s.count]) ++ ((ln ([⟨#[99, 108, 111, 115, 101, 100]⟩, (dtS s.closed)]))))) ++ ((ln [⟨#[112, 97, 115, 115, 97, 103, 101, 115]⟩, fm (s.res.pass.length : Int)])))) ++ ((ln [⟨#[114, 101, 106, 101, 99, 116, 115]⟩, fm (s.res.rej.length : Int)])))) ++ ((ln [⟨#[116, 114, 105, 112, 115]⟩, fm (s.res.trips.length : Int)])))) ++ ((ln [⟨#[115, 116, 97, 121, 115]⟩, fm (s.res.stays.length : Int)]))))))) rfl (og rfl (op_assign rfl rfl rfl)) ?_
      refine dr_done rfl (sepB_of [0, 1, 3, 0, 8, 31, 63, 127, 255, 0, 512, 1536, 3839, 8191, 0, 16384, 49152, 122623, 262143, 0, 524288, 1572864, 3923711, 8388607, 0, 16777216, 50331648, 125558527, 268435455, 536870911] (by kernel_rfl)) (by kernel_rfl) ?_
      refine a_dseq (by kernel_rfl) ?_
      refine dr_put (d := 79) (v := .d (.fl (.string (((((((((((ln [⟨#[101, 118, 101, 110, 116, 115]⟩, fm s.count]) ++ ((ln ([⟨#[99, 108, 111, 115, 101, 100]⟩, (dtS s.closed)]))))) ++ ((ln [⟨#[112, 97, 115, 115, 97, 103, 101, 115]⟩, fm (s.res.pass.length : Int)])))) ++ ((ln [⟨#[114, 101, 106, 101, 99, 116, 115]⟩, fm (s.res.rej.length : Int)])))) ++ ((ln [⟨#[116, 114, 105, 112, 115]⟩, fm (s.res.trips.length : Int)])))) ++ ((ln [⟨#[115, 116, 97, 121, 115]⟩, fm (s.res.stays.length : Int)]))))))) rfl (og rfl (op_move rfl rfl rfl)) ?_
      refine dr_put (d := 80) (v := .pt 102 4) rfl (og rfl (of_eff (s_field_pt rfl Tryd.underlying62 rfl ti59 rfl rfl rfl) rfl)) ?_
      refine dr_put (d := 81) (v := .d (.sl 7 (List.map eCg s.res.chg))) rfl (og rfl (op_load_pt rfl Tryd.underlying59 rfl rfl rfl rfl rfl)) ?_
      refine dr_put (d := 82) (v := .d (.fl (.int .i64 (s.res.chg.length : Int)))) rfl (og rfl (s_len rfl Tryd.underlying59 rfl rfl)) ?_
      refine dr_put (d := 83) (v := .d (.fl (.string ((fm (s.res.chg.length : Int)))))) rfl (og rfl (op_call rfl Tryd.func30 nm30 rfl (.cons rfl (.d _) .nil) (fm33 (s.res.chg.length : Int) (by unfold in64; omega)) rfl)) ?_
      refine dr_put (d := 84) (v := .d (.fl (.int .i64 (tot s.res.chg s.res.chg.length)))) rfl (og rfl (op_move rfl rfl rfl)) ?_
      refine dr_put (d := 85) (v := .d (.fl (.string ((sh (tot s.res.chg s.res.chg.length)))))) rfl (og rfl (op_call rfl Tryd.func31 nm31 rfl (.cons rfl (.d _) .nil) (sh34 (tot s.res.chg s.res.chg.length) (by unfold in64; omega)) rfl)) ?_
      refine dr_put (d := 86) (v := .d (.sl 1 (List.map rS ([⟨#[99, 104, 97, 114, 103, 101, 115]⟩, (fm (s.res.chg.length : Int)), (sh (tot s.res.chg s.res.chg.length))])))) rfl (og rfl (of_eff (op_slices rfl Tryd.underlying98 ti9 rfl rfl rfl (by kernel_rfl) (xs := [.fl (.string (⟨#[99, 104, 97, 114, 103, 101, 115]⟩)), .fl (.string ((fm (s.res.chg.length : Int)))), .fl (.string ((sh (tot s.res.chg s.res.chg.length))))]) rfl rfl (.cons rfl rfl (.d _) rfl rfl rfl (.cons rfl rfl (.d _) rfl rfl rfl (.cons rfl rfl (.d _) rfl rfl rfl .nil))) rfl) rfl)) ?_
      refine dr_put (d := 87) (v := .d (.fl (.string ((ln ([⟨#[99, 104, 97, 114, 103, 101, 115]⟩, (fm (s.res.chg.length : Int)), (sh (tot s.res.chg s.res.chg.length))])))))) rfl (og rfl (op_call rfl Tryd.func28 nm28 rfl (.cons rfl (.d _) .nil) (ln31 ([⟨#[99, 104, 97, 114, 103, 101, 115]⟩, (fm (s.res.chg.length : Int)), (sh (tot s.res.chg s.res.chg.length))]) (Nat.le_trans (l3_jn (by decide) (by unfold in64; omega) (by unfold in64; omega)) (by decide))) rfl)) ?_
      refine dr_put (d := 88) (v := .d (.fl (.string (((((((((((((ln [⟨#[101, 118, 101, 110, 116, 115]⟩, fm s.count]) ++ ((ln ([⟨#[99, 108, 111, 115, 101, 100]⟩, (dtS s.closed)]))))) ++ ((ln [⟨#[112, 97, 115, 115, 97, 103, 101, 115]⟩, fm (s.res.pass.length : Int)])))) ++ ((ln [⟨#[114, 101, 106, 101, 99, 116, 115]⟩, fm (s.res.rej.length : Int)])))) ++ ((ln [⟨#[116, 114, 105, 112, 115]⟩, fm (s.res.trips.length : Int)])))) ++ ((ln [⟨#[115, 116, 97, 121, 115]⟩, fm (s.res.stays.length : Int)])))) ++ ((ln ([⟨#[99, 104, 97, 114, 103, 101, 115]⟩, (fm (s.res.chg.length : Int)), (sh (tot s.res.chg s.res.chg.length))])))))))) rfl (og rfl (op_bin rfl rfl rfl (fun ox oy ow => b_sadd _ _ _ ox oy ow (by first | omega | (simp only [ByteArray.size_append]; omega))) rfl)) ?_
      refine dr_put (d := 89) (v := .pt 102 5) rfl (og rfl (of_eff (s_field_pt rfl Tryd.underlying62 rfl ti60 rfl rfl rfl) rfl)) ?_
      refine dr_put (d := 90) (v := .d (.sl 2 (List.map eEc s.res.exc))) rfl (og rfl (op_load_pt rfl Tryd.underlying60 rfl rfl rfl rfl rfl)) ?_
      refine dr_put (d := 91) (v := .d (.fl (.int .i64 (s.res.exc.length : Int)))) rfl (og rfl (s_len rfl Tryd.underlying60 rfl rfl)) ?_
      refine dr_put (d := 92) (v := .d (.fl (.string ((ln [⟨#[101, 120, 99, 108, 117, 115, 105, 111, 110, 115]⟩, fm (s.res.exc.length : Int)]))))) rfl (og rfl (op_call rfl Tryd.func57 nm57 rfl (.cons rfl (.d _) (.cons rfl (.d _) .nil)) (cnt57 (⟨#[101, 120, 99, 108, 117, 115, 105, 111, 110, 115]⟩) (s.res.exc.length : Int) (by decide) (by unfold in64; omega)) rfl)) ?_
      refine dr_put (d := 93) (v := .d (.fl (.string (((((((((((((((ln [⟨#[101, 118, 101, 110, 116, 115]⟩, fm s.count]) ++ ((ln ([⟨#[99, 108, 111, 115, 101, 100]⟩, (dtS s.closed)]))))) ++ ((ln [⟨#[112, 97, 115, 115, 97, 103, 101, 115]⟩, fm (s.res.pass.length : Int)])))) ++ ((ln [⟨#[114, 101, 106, 101, 99, 116, 115]⟩, fm (s.res.rej.length : Int)])))) ++ ((ln [⟨#[116, 114, 105, 112, 115]⟩, fm (s.res.trips.length : Int)])))) ++ ((ln [⟨#[115, 116, 97, 121, 115]⟩, fm (s.res.stays.length : Int)])))) ++ ((ln ([⟨#[99, 104, 97, 114, 103, 101, 115]⟩, (fm (s.res.chg.length : Int)), (sh (tot s.res.chg s.res.chg.length))]))))) ++ ((ln [⟨#[101, 120, 99, 108, 117, 115, 105, 111, 110, 115]⟩, fm (s.res.exc.length : Int)]))))))) rfl (og rfl (op_bin rfl rfl rfl (fun ox oy ow => b_sadd _ _ _ ox oy ow (by first | omega | (simp only [ByteArray.size_append]; omega))) rfl)) ?_
      refine dr_put (d := 94) (v := .pt 101 35) rfl (og rfl (of_eff (s_field_pt rfl Tryd.underlying70 rfl ti67 rfl rfl rfl) rfl)) ?_
      refine dr_put (d := 95) (v := .pt 101 36) rfl (og rfl (of_eff (s_field_pt rfl Tryd.underlying67 rfl ti59 rfl rfl rfl) rfl)) ?_
      refine dr_put (d := 96) (v := .d (.sl 7 (List.map eCg s.books.done))) rfl (og rfl (op_load_pt rfl Tryd.underlying59 rfl rfl rfl rfl rfl)) ?_
      refine dr_put (d := 97) (v := .d (.fl (.int .i64 (s.books.done.length : Int)))) rfl (og rfl (s_len rfl Tryd.underlying59 rfl rfl)) ?_
      refine dr_put (d := 98) (v := .d (.fl (.string ((ln [⟨#[112, 111, 115, 116, 101, 100]⟩, fm (s.books.done.length : Int)]))))) rfl (og rfl (op_call rfl Tryd.func57 nm57 rfl (.cons rfl (.d _) (.cons rfl (.d _) .nil)) (cnt57 (⟨#[112, 111, 115, 116, 101, 100]⟩) (s.books.done.length : Int) (by decide) (by unfold in64; omega)) rfl)) ?_
      refine dr_put (d := 99) (v := .d (.fl (.string (((((((((((((((((ln [⟨#[101, 118, 101, 110, 116, 115]⟩, fm s.count]) ++ ((ln ([⟨#[99, 108, 111, 115, 101, 100]⟩, (dtS s.closed)]))))) ++ ((ln [⟨#[112, 97, 115, 115, 97, 103, 101, 115]⟩, fm (s.res.pass.length : Int)])))) ++ ((ln [⟨#[114, 101, 106, 101, 99, 116, 115]⟩, fm (s.res.rej.length : Int)])))) ++ ((ln [⟨#[116, 114, 105, 112, 115]⟩, fm (s.res.trips.length : Int)])))) ++ ((ln [⟨#[115, 116, 97, 121, 115]⟩, fm (s.res.stays.length : Int)])))) ++ ((ln ([⟨#[99, 104, 97, 114, 103, 101, 115]⟩, (fm (s.res.chg.length : Int)), (sh (tot s.res.chg s.res.chg.length))]))))) ++ ((ln [⟨#[101, 120, 99, 108, 117, 115, 105, 111, 110, 115]⟩, fm (s.res.exc.length : Int)])))) ++ ((ln [⟨#[112, 111, 115, 116, 101, 100]⟩, fm (s.books.done.length : Int)]))))))) rfl (og rfl (op_bin rfl rfl rfl (fun ox oy ow => b_sadd _ _ _ ox oy ow (by first | omega | (simp only [ByteArray.size_append]; omega))) rfl)) ?_
      refine dr_put (d := 10) (v := .d (.fl (.string (((((((((((((((((ln [⟨#[101, 118, 101, 110, 116, 115]⟩, fm s.count]) ++ ((ln ([⟨#[99, 108, 111, 115, 101, 100]⟩, (dtS s.closed)]))))) ++ ((ln [⟨#[112, 97, 115, 115, 97, 103, 101, 115]⟩, fm (s.res.pass.length : Int)])))) ++ ((ln [⟨#[114, 101, 106, 101, 99, 116, 115]⟩, fm (s.res.rej.length : Int)])))) ++ ((ln [⟨#[116, 114, 105, 112, 115]⟩, fm (s.res.trips.length : Int)])))) ++ ((ln [⟨#[115, 116, 97, 121, 115]⟩, fm (s.res.stays.length : Int)])))) ++ ((ln ([⟨#[99, 104, 97, 114, 103, 101, 115]⟩, (fm (s.res.chg.length : Int)), (sh (tot s.res.chg s.res.chg.length))]))))) ++ ((ln [⟨#[101, 120, 99, 108, 117, 115, 105, 111, 110, 115]⟩, fm (s.res.exc.length : Int)])))) ++ ((ln [⟨#[112, 111, 115, 116, 101, 100]⟩, fm (s.books.done.length : Int)]))))))) rfl (og rfl (op_assign rfl rfl rfl)) ?_
      refine dr_done rfl (sepB_of [0, 0, 2, 6, 14, 0, 62, 126, 254, 511, 0, 1024, 3072, 7678, 16383, 0, 32768, 98304, 229376, 507390, 1048575, 2097151] (by kernel_rfl)) (by kernel_rfl) ?_
      refine a_rseq ?_
      refine rg_put (d := 100) (v := .d (.fl (.string (((((((((((((((((ln [⟨#[101, 118, 101, 110, 116, 115]⟩, fm s.count]) ++ ((ln ([⟨#[99, 108, 111, 115, 101, 100]⟩, (dtS s.closed)]))))) ++ ((ln [⟨#[112, 97, 115, 115, 97, 103, 101, 115]⟩, fm (s.res.pass.length : Int)])))) ++ ((ln [⟨#[114, 101, 106, 101, 99, 116, 115]⟩, fm (s.res.rej.length : Int)])))) ++ ((ln [⟨#[116, 114, 105, 112, 115]⟩, fm (s.res.trips.length : Int)])))) ++ ((ln [⟨#[115, 116, 97, 121, 115]⟩, fm (s.res.stays.length : Int)])))) ++ ((ln ([⟨#[99, 104, 97, 114, 103, 101, 115]⟩, (fm (s.res.chg.length : Int)), (sh (tot s.res.chg s.res.chg.length))]))))) ++ ((ln [⟨#[101, 120, 99, 108, 117, 115, 105, 111, 110, 115]⟩, fm (s.res.exc.length : Int)])))) ++ ((ln [⟨#[112, 111, 115, 116, 101, 100]⟩, fm (s.books.done.length : Int)]))))))) rfl (og rfl (op_move rfl rfl rfl)) ?_
      refine rg_put (d := 101) (v := .pt 101 35) rfl (og rfl (of_eff (s_field_pt rfl Tryd.underlying70 rfl ti67 rfl rfl rfl) rfl)) ?_
      refine rg_put (d := 102) (v := .pt 101 35) rfl (og rfl (of_eff (s_field_pt rfl Tryd.underlying67 rfl ti65 rfl rfl rfl) rfl)) ?_
      refine rg_put (d := 103) (v := .pt 101 35) rfl (og rfl (of_eff (s_field_pt rfl Tryd.underlying65 rfl ti63 rfl rfl rfl) rfl)) ?_
      refine rg_put (d := 104) (v := .d (.sl 3 (List.map eEn s.books.led.e))) rfl (og rfl (op_load_pt rfl Tryd.underlying63 rfl rfl rfl rfl rfl)) ?_
      refine rg_put (d := 105) (v := .d (.fl (.int .i64 (s.books.led.e.length : Int)))) rfl (og rfl (s_len rfl Tryd.underlying63 rfl rfl)) ?_
      refine rg_put (d := 106) (v := .d (.fl (.string ((fm (s.books.led.e.length : Int)))))) rfl (og rfl (op_call rfl Tryd.func30 nm30 rfl (.cons rfl (.d _) .nil) (fm33 (s.books.led.e.length : Int) (by unfold in64; omega)) rfl)) ?_
      refine rg_put (d := 107) (v := .d (.fl (.int .i64 (dbE s.books.led.e s.books.led.e.length)))) rfl (og rfl (op_move rfl rfl rfl)) ?_
      refine rg_put (d := 108) (v := .d (.fl (.string ((sh (dbE s.books.led.e s.books.led.e.length)))))) rfl (og rfl (op_call rfl Tryd.func31 nm31 rfl (.cons rfl (.d _) .nil) (sh34 (dbE s.books.led.e s.books.led.e.length) (by unfold in64; omega)) rfl)) ?_
      refine rg_put (d := 109) (v := .d (.sl 1 (List.map rS ([⟨#[101, 110, 116, 114, 105, 101, 115]⟩, (fm (s.books.led.e.length : Int)), (sh (dbE s.books.led.e s.books.led.e.length))])))) rfl (og rfl (of_eff (op_slices rfl Tryd.underlying98 ti9 rfl rfl rfl (by kernel_rfl) (xs := [.fl (.string (⟨#[101, 110, 116, 114, 105, 101, 115]⟩)), .fl (.string ((fm (s.books.led.e.length : Int)))), .fl (.string ((sh (dbE s.books.led.e s.books.led.e.length))))]) rfl rfl (.cons rfl rfl (.d _) rfl rfl rfl (.cons rfl rfl (.d _) rfl rfl rfl (.cons rfl rfl (.d _) rfl rfl rfl .nil))) rfl) rfl)) ?_
      refine rg_put (d := 110) (v := .d (.fl (.string ((ln ([⟨#[101, 110, 116, 114, 105, 101, 115]⟩, (fm (s.books.led.e.length : Int)), (sh (dbE s.books.led.e s.books.led.e.length))])))))) rfl (og rfl (op_call rfl Tryd.func28 nm28 rfl (.cons rfl (.d _) .nil) (ln31 ([⟨#[101, 110, 116, 114, 105, 101, 115]⟩, (fm (s.books.led.e.length : Int)), (sh (dbE s.books.led.e s.books.led.e.length))]) (Nat.le_trans (l3_jn (by decide) (by unfold in64; omega) (by unfold in64; omega)) (by decide))) rfl)) ?_
      refine rg_put (d := 111) (v := .d (.fl (.string (((((((((((((((((((ln [⟨#[101, 118, 101, 110, 116, 115]⟩, fm s.count]) ++ ((ln ([⟨#[99, 108, 111, 115, 101, 100]⟩, (dtS s.closed)]))))) ++ ((ln [⟨#[112, 97, 115, 115, 97, 103, 101, 115]⟩, fm (s.res.pass.length : Int)])))) ++ ((ln [⟨#[114, 101, 106, 101, 99, 116, 115]⟩, fm (s.res.rej.length : Int)])))) ++ ((ln [⟨#[116, 114, 105, 112, 115]⟩, fm (s.res.trips.length : Int)])))) ++ ((ln [⟨#[115, 116, 97, 121, 115]⟩, fm (s.res.stays.length : Int)])))) ++ ((ln ([⟨#[99, 104, 97, 114, 103, 101, 115]⟩, (fm (s.res.chg.length : Int)), (sh (tot s.res.chg s.res.chg.length))]))))) ++ ((ln [⟨#[101, 120, 99, 108, 117, 115, 105, 111, 110, 115]⟩, fm (s.res.exc.length : Int)])))) ++ ((ln [⟨#[112, 111, 115, 116, 101, 100]⟩, fm (s.books.done.length : Int)])))) ++ ((ln ([⟨#[101, 110, 116, 114, 105, 101, 115]⟩, (fm (s.books.led.e.length : Int)), (sh (dbE s.books.led.e s.books.led.e.length))])))))))) rfl (og rfl (op_bin rfl rfl rfl (fun ox oy ow => b_sadd _ _ _ ox oy ow (by first | omega | (simp only [ByteArray.size_append]; omega))) rfl)) ?_
      refine rg_put (d := 10) (v := .d (.fl (.string (((((((((((((((((((ln [⟨#[101, 118, 101, 110, 116, 115]⟩, fm s.count]) ++ ((ln ([⟨#[99, 108, 111, 115, 101, 100]⟩, (dtS s.closed)]))))) ++ ((ln [⟨#[112, 97, 115, 115, 97, 103, 101, 115]⟩, fm (s.res.pass.length : Int)])))) ++ ((ln [⟨#[114, 101, 106, 101, 99, 116, 115]⟩, fm (s.res.rej.length : Int)])))) ++ ((ln [⟨#[116, 114, 105, 112, 115]⟩, fm (s.res.trips.length : Int)])))) ++ ((ln [⟨#[115, 116, 97, 121, 115]⟩, fm (s.res.stays.length : Int)])))) ++ ((ln ([⟨#[99, 104, 97, 114, 103, 101, 115]⟩, (fm (s.res.chg.length : Int)), (sh (tot s.res.chg s.res.chg.length))]))))) ++ ((ln [⟨#[101, 120, 99, 108, 117, 115, 105, 111, 110, 115]⟩, fm (s.res.exc.length : Int)])))) ++ ((ln [⟨#[112, 111, 115, 116, 101, 100]⟩, fm (s.books.done.length : Int)])))) ++ ((ln ([⟨#[101, 110, 116, 114, 105, 101, 115]⟩, (fm (s.books.led.e.length : Int)), (sh (dbE s.books.led.e s.books.led.e.length))])))))))) rfl (og rfl (op_assign rfl rfl rfl)) ?_
      refine rg_done rfl ?_
      refine a_rseq ?_
      refine rg_put (d := 112) (v := .d (.fl (.string (((((((((((((((((((ln [⟨#[101, 118, 101, 110, 116, 115]⟩, fm s.count]) ++ ((ln ([⟨#[99, 108, 111, 115, 101, 100]⟩, (dtS s.closed)]))))) ++ ((ln [⟨#[112, 97, 115, 115, 97, 103, 101, 115]⟩, fm (s.res.pass.length : Int)])))) ++ ((ln [⟨#[114, 101, 106, 101, 99, 116, 115]⟩, fm (s.res.rej.length : Int)])))) ++ ((ln [⟨#[116, 114, 105, 112, 115]⟩, fm (s.res.trips.length : Int)])))) ++ ((ln [⟨#[115, 116, 97, 121, 115]⟩, fm (s.res.stays.length : Int)])))) ++ ((ln ([⟨#[99, 104, 97, 114, 103, 101, 115]⟩, (fm (s.res.chg.length : Int)), (sh (tot s.res.chg s.res.chg.length))]))))) ++ ((ln [⟨#[101, 120, 99, 108, 117, 115, 105, 111, 110, 115]⟩, fm (s.res.exc.length : Int)])))) ++ ((ln [⟨#[112, 111, 115, 116, 101, 100]⟩, fm (s.books.done.length : Int)])))) ++ ((ln ([⟨#[101, 110, 116, 114, 105, 101, 115]⟩, (fm (s.books.led.e.length : Int)), (sh (dbE s.books.led.e s.books.led.e.length))])))))))) rfl (og rfl (op_move rfl rfl rfl)) ?_
      refine rg_put (d := 113) (v := .pt 101 37) rfl (og rfl (of_eff (s_field_pt rfl Tryd.underlying70 rfl ti68 rfl rfl rfl) rfl)) ?_
      refine rg_put (d := 114) (v := .d (.sl 12 (List.map eCs s.cases))) rfl (og rfl (op_load_pt rfl Tryd.underlying68 rfl rfl rfl rfl rfl)) ?_
      refine rg_put (d := 115) (v := .d (.fl (.int .i64 (s.cases.length : Int)))) rfl (og rfl (s_len rfl Tryd.underlying68 rfl rfl)) ?_
      refine rg_put (d := 116) (v := .d (.fl (.string ((fm (s.cases.length : Int)))))) rfl (og rfl (op_call rfl Tryd.func30 nm30 rfl (.cons rfl (.d _) .nil) (fm33 (s.cases.length : Int) (by unfold in64; omega)) rfl)) ?_
      refine rg_put (d := 117) (v := .d (.fl (.int .i64 (((opF s.cases s.cases.length).length : Int))))) rfl (og rfl (op_move rfl rfl rfl)) ?_
      refine rg_put (d := 118) (v := .d (.fl (.string ((fm (((opF s.cases s.cases.length).length : Int))))))) rfl (og rfl (op_call rfl Tryd.func30 nm30 rfl (.cons rfl (.d _) .nil) (fm33 (((opF s.cases s.cases.length).length : Int)) (by unfold in64; omega)) rfl)) ?_
      refine rg_put (d := 119) (v := .d (.sl 1 (List.map rS ([⟨#[99, 97, 115, 101, 115]⟩, (fm (s.cases.length : Int)), (fm (((opF s.cases s.cases.length).length : Int)))])))) rfl (og rfl (of_eff (op_slices rfl Tryd.underlying98 ti9 rfl rfl rfl (by kernel_rfl) (xs := [.fl (.string (⟨#[99, 97, 115, 101, 115]⟩)), .fl (.string ((fm (s.cases.length : Int)))), .fl (.string ((fm (((opF s.cases s.cases.length).length : Int)))))]) rfl rfl (.cons rfl rfl (.d _) rfl rfl rfl (.cons rfl rfl (.d _) rfl rfl rfl (.cons rfl rfl (.d _) rfl rfl rfl .nil))) rfl) rfl)) ?_
      refine rg_put (d := 120) (v := .d (.fl (.string ((ln ([⟨#[99, 97, 115, 101, 115]⟩, (fm (s.cases.length : Int)), (fm (((opF s.cases s.cases.length).length : Int)))])))))) rfl (og rfl (op_call rfl Tryd.func28 nm28 rfl (.cons rfl (.d _) .nil) (ln31 ([⟨#[99, 97, 115, 101, 115]⟩, (fm (s.cases.length : Int)), (fm (((opF s.cases s.cases.length).length : Int)))]) (Nat.le_trans (l4_jn (by decide) (by unfold in64; omega) (by unfold in64; omega)) (by decide))) rfl)) ?_
      refine rg_put (d := 121) (v := .d (.fl (.string (((((((((((((((((((((ln [⟨#[101, 118, 101, 110, 116, 115]⟩, fm s.count]) ++ ((ln ([⟨#[99, 108, 111, 115, 101, 100]⟩, (dtS s.closed)]))))) ++ ((ln [⟨#[112, 97, 115, 115, 97, 103, 101, 115]⟩, fm (s.res.pass.length : Int)])))) ++ ((ln [⟨#[114, 101, 106, 101, 99, 116, 115]⟩, fm (s.res.rej.length : Int)])))) ++ ((ln [⟨#[116, 114, 105, 112, 115]⟩, fm (s.res.trips.length : Int)])))) ++ ((ln [⟨#[115, 116, 97, 121, 115]⟩, fm (s.res.stays.length : Int)])))) ++ ((ln ([⟨#[99, 104, 97, 114, 103, 101, 115]⟩, (fm (s.res.chg.length : Int)), (sh (tot s.res.chg s.res.chg.length))]))))) ++ ((ln [⟨#[101, 120, 99, 108, 117, 115, 105, 111, 110, 115]⟩, fm (s.res.exc.length : Int)])))) ++ ((ln [⟨#[112, 111, 115, 116, 101, 100]⟩, fm (s.books.done.length : Int)])))) ++ ((ln ([⟨#[101, 110, 116, 114, 105, 101, 115]⟩, (fm (s.books.led.e.length : Int)), (sh (dbE s.books.led.e s.books.led.e.length))]))))) ++ ((ln ([⟨#[99, 97, 115, 101, 115]⟩, (fm (s.cases.length : Int)), (fm (((opF s.cases s.cases.length).length : Int)))])))))))) rfl (og rfl (op_bin rfl rfl rfl (fun ox oy ow => b_sadd _ _ _ ox oy ow (by first | omega | (simp only [ByteArray.size_append]; omega))) rfl)) ?_
      refine rg_put (d := 2) (v := .d (.fl (.string (((((((((((((((((((((ln [⟨#[101, 118, 101, 110, 116, 115]⟩, fm s.count]) ++ ((ln ([⟨#[99, 108, 111, 115, 101, 100]⟩, (dtS s.closed)]))))) ++ ((ln [⟨#[112, 97, 115, 115, 97, 103, 101, 115]⟩, fm (s.res.pass.length : Int)])))) ++ ((ln [⟨#[114, 101, 106, 101, 99, 116, 115]⟩, fm (s.res.rej.length : Int)])))) ++ ((ln [⟨#[116, 114, 105, 112, 115]⟩, fm (s.res.trips.length : Int)])))) ++ ((ln [⟨#[115, 116, 97, 121, 115]⟩, fm (s.res.stays.length : Int)])))) ++ ((ln ([⟨#[99, 104, 97, 114, 103, 101, 115]⟩, (fm (s.res.chg.length : Int)), (sh (tot s.res.chg s.res.chg.length))]))))) ++ ((ln [⟨#[101, 120, 99, 108, 117, 115, 105, 111, 110, 115]⟩, fm (s.res.exc.length : Int)])))) ++ ((ln [⟨#[112, 111, 115, 116, 101, 100]⟩, fm (s.books.done.length : Int)])))) ++ ((ln ([⟨#[101, 110, 116, 114, 105, 101, 115]⟩, (fm (s.books.led.e.length : Int)), (sh (dbE s.books.led.e s.books.led.e.length))]))))) ++ ((ln ([⟨#[99, 97, 115, 101, 115]⟩, (fm (s.cases.length : Int)), (fm (((opF s.cases s.cases.length).length : Int)))])))))))) rfl (og rfl (op_assign rfl rfl rfl)) ?_
      refine rg_done rfl ?_
      refine a_ret ?_
      show ∃ ds, ResL _ _ _ ds ∧ RV.of ds = _
      refine ⟨[.fl (.string (((((((((((((((((((((ln [⟨#[101, 118, 101, 110, 116, 115]⟩, fm s.count]) ++ ((ln ([⟨#[99, 108, 111, 115, 101, 100]⟩, (dtS s.closed)]))))) ++ ((ln [⟨#[112, 97, 115, 115, 97, 103, 101, 115]⟩, fm (s.res.pass.length : Int)])))) ++ ((ln [⟨#[114, 101, 106, 101, 99, 116, 115]⟩, fm (s.res.rej.length : Int)])))) ++ ((ln [⟨#[116, 114, 105, 112, 115]⟩, fm (s.res.trips.length : Int)])))) ++ ((ln [⟨#[115, 116, 97, 121, 115]⟩, fm (s.res.stays.length : Int)])))) ++ ((ln ([⟨#[99, 104, 97, 114, 103, 101, 115]⟩, (fm (s.res.chg.length : Int)), (sh (tot s.res.chg s.res.chg.length))]))))) ++ ((ln [⟨#[101, 120, 99, 108, 117, 115, 105, 111, 110, 115]⟩, fm (s.res.exc.length : Int)])))) ++ ((ln [⟨#[112, 111, 115, 116, 101, 100]⟩, fm (s.books.done.length : Int)])))) ++ ((ln ([⟨#[101, 110, 116, 114, 105, 101, 115]⟩, (fm (s.books.led.e.length : Int)), (sh (dbE s.books.led.e s.books.led.e.length))]))))) ++ ((ln ([⟨#[99, 97, 115, 101, 115]⟩, (fm (s.cases.length : Int)), (fm (((opF s.cases s.cases.length).length : Int)))]))))))], (.cons (.tmp rfl (.d _)) .nil), ?_⟩
      rfl
end Go.Proofs.YtglhonnmppclpaaDoor.Wk
