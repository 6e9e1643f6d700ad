/- Stays: identifiers, checks, both sides, and the law. Conditions: as each theorem names them. -/
import Derived.Lib.ItoaLen
import Derived.Test.YtaoopadfijkbcaaGreatDoorOw
import Derived.Test.YtaoopadfijkbcaaGreatDoorAl
import Derived.Test.YtaoopadfijkbcaaGreatDoorB1
set_option linter.unusedSimpArgs false
set_option linter.unusedVariables false
namespace Go.Proofs.YtaoopadfijkbcaaGreatDoor.Wk
open Go Go.RowKit Go.Shelf Go.Lib Go.Proofs.YtaoopadfijkbcaaGreatDoor Go.Proofs.YtaoopadfijkbcaaGreatDoor.Pm Go.Proofs.YtaoopadfijkbcaaGreatDoor.Av
def K2 (w : World) (U : Nat → Nat) : Prop := (KK w U ∧ Ow.Tb w) ∧ KP w U
theorem k2st : KSt K2 := kst_and (K := fun w U => KK w U ∧ Ow.Tb w) (kst_and kkst (kst_w (T := Ow.Tb) (fun w w' h hb => Ow.Tb.next h hb))) kpst
theorem alive2 : CtrK Tryz.prog K2 14 [] (.d (.fl (.bool true))) := fun vals U w hK hR => aliveT vals U w hK.2 hR
theorem k2_of {f : FuncId} {args : List DV} {r : RV} (h : CtrK Tryz.prog KK f args r) : CtrK Tryz.prog K2 f args r := fun vals U w hK hR => h vals U w hK.1.1 hR
theorem fmtC (n : Int) (hn : -9223372036854775808 ≤ n ∧ n ≤ 9223372036854775807) : CtrK Tryz.prog K2 34 [.fl (.int .i64 n)] (.d (.fl (.string (Om.fmt n)))) := ctrK_flat [.int .i64 n] (fun w U hK => Ow.format21 n w hn hK.1.2)
theorem fmtR (n : Int) (hn : -9223372036854775808 ≤ n ∧ n ≤ 9223372036854775807) : Ctr Tryz.prog 35 [.fl (.int .i64 n)] (.d (.fl (.string (Om.fmt n)))) := ctr_flat [.int .i64 n] (fun w => Ow.format22 n w hn)
theorem fmt_sz {n : Int} (h : -9223372036854775808 ≤ n ∧ n ≤ 9223372036854775807) : (Om.fmt n).size ≤ 21 := by
  have := Lib.itoa_length_le n h.1 h.2
  show ((Lib.itoa n).toArray).size ≤ 21
  simpa using this
theorem joinX : Builder.Extra Tryz.prog Tryz.laysJoin_ren where
  sizeBuilder := by kernel_rfl
  liesBuilder := by kernel_rfl
  t5 := Tryz.laysMap.t5
  a5 := Tryz.laysMap.a5
  z5 := Tryz.laysMap.z5
  v5 := Tryz.laysMap.v5
  infoByte := by kernel_rfl
  cellsByte := by kernel_rfl
  sizeByte := by kernel_rfl
  neB5 := by decide
def dot : ByteArray := ⟨#[46]⟩
def jnS (l : List ByteArray) : ByteArray := ⟨(Lib.join (l.map (·.data.toList)) [46]).toArray⟩
def kyS (k : Int) (z p : ByteArray) (t u : Int) : ByteArray := ((((((((Om.fmt k) ++ (⟨#[46]⟩ : ByteArray)) ++ z) ++ (⟨#[46]⟩ : ByteArray)) ++ p) ++ (⟨#[46]⟩ : ByteArray)) ++ (Om.fmt t)) ++ (⟨#[46]⟩ : ByteArray)) ++ (Om.fmt u)
theorem jn_ky (k : Int) (z p : ByteArray) (t u : Int) : jnS [Om.fmt k, z, p, Om.fmt t, Om.fmt u] = kyS k z p t u := by
  apply ByteArray.ext
  unfold jnS kyS
  simp only [ByteArray.data_append, List.map_cons, List.map_nil, Lib.join_cons, Lib.joinTail]
  apply Array.ext'
  simp
theorem ky_sz {k t u : Int} {z p : ByteArray} (hk : -9223372036854775808 ≤ k ∧ k ≤ 9223372036854775807) (ht : -9223372036854775808 ≤ t ∧ t ≤ 9223372036854775807) (hu : -9223372036854775808 ≤ u ∧ u ≤ 9223372036854775807) (hz : z.size ≤ 40) (hp : p.size ≤ 40) : (kyS k z p t u).size ≤ 200 := by
  have h1 := fmt_sz hk
  have h2 := fmt_sz ht
  have h3 := fmt_sz hu
  have h46 : (⟨#[46]⟩ : ByteArray).size = 1 := rfl
  unfold kyS
  simp only [ByteArray.size_append, h46]
  omega
theorem jnC (l : List ByteArray) (hn0 : l.length ≤ 1000000) (hs : (jnS l).size ≤ 1000000) : Ctr Tryz.prog 33 [.sl 1 (List.map rS l), .fl (.string ⟨#[46]⟩)] (.d (.fl (.string (jnS l)))) := by
  intro vals U w hR
  obtain ⟨v, z0, rfl⟩ : ∃ v z0, vals = [v, z0] := by
    have h9 : vals.length = 2 := by simpa using hR.1
    match vals, h9 with
    | [a, b], _ => exact ⟨a, b, rfl⟩
  have hz0 := rd_fl (hR.2 1 z0 _ rfl rfl)
  subst hz0
  have hv : Rd w U v (.sl 1 (List.map rS l)) := hR.2 0 v _ rfl rfl
  generalize hd : DV.sl 1 (List.map rS l) = d at hv
  cases hv with
  | sn A c z =>
    injection hd with _ hd
    have hl : l = [] := List.map_eq_nil_iff.1 hd
    subst hl
    refine Calls.mono (Any.strings_Join_none Tryz.laysJoin joinX A c ⟨#[46]⟩ w) ?_
    rintro e w' ⟨rfl, hw⟩
    exact ⟨_, U, rfl, hw ▸ Below.refl _ _, fun _ _ => rfl, .fl _⟩
  | sl b off n c z rows u hn hz hm hcell hr =>
    injection hd with hz1 hd
    subst hz1 hd
    have hn' : l.length = n := by simpa using hn
    have hc : ∀ i, i < n → w.cell? ⟨b, off + i, none⟩ = some (.string (ix l i)) := by
      intro i hi
      have hca : cellAt (List.map rS l) i 0 = some (.fl (.string (ix l i))) := by
        unfold cellAt
        rw [List.getElem?_map, ix_get (by omega)]; rfl
      obtain ⟨h1, _, _⟩ := hcell i 0 _ hca
      have h2 := rd_fl (hr i 0 _ hca)
      rw [h2] at h1
      rw [Nat.mul_one, Nat.add_zero] at h1
      exact h1
    subst hn'
    rcases Nat.eq_zero_or_pos l.length with h0 | h0
    · have hl : l = [] := List.length_eq_zero_iff.1 h0
      subst hl
      refine Calls.mono (Any.strings_Join_none Tryz.laysJoin joinX (some ⟨b, off, none⟩) c ⟨#[46]⟩ w) ?_
      rintro e w' ⟨rfl, hw⟩
      exact ⟨_, U, rfl, hw ▸ Below.refl _ _, fun _ _ => rfl, .fl _⟩
    · have hsz : (Lib.join (l.map (·.data.toList)) [46]).length = (jnS l).size := by unfold jnS; simp [ByteArray.size]
      refine Calls.mono (Any.strings_Join Tryz.laysJoin joinX b off c l ⟨#[46]⟩ w (fun j x hx => ?_) (World.block_lt_of_cell? w _ (hc 0 h0)) (by omega) hm.2 ?_) ?_
      · have hjl := (List.getElem?_eq_some_iff.1 hx).1
        rw [hc j hjl, show ix l j = x from by unfold ix; rw [List.getD_eq_getElem?_getD, hx]; rfl]
      · show (Lib.join (l.map (·.data.toList)) [46]).length ≤ _
        rw [hsz]; omega
      · rintro e w' ⟨rfl, hb⟩
        exact ⟨_, U, rfl, hb, fun _ _ => rfl, .fl _⟩
  | _ => cases hd

def vl (i : Itv) : Bool := (decide (0 ≤ i.fr) && decide (i.fr < i.to)) && decide (i.to ≤ 68719476736)
def idS (s : Sty) : ByteArray := kyS 5 s.zone s.plate s.time.fr 0
noncomputable def sck (s : Sty) (l : List Zn) : Int := bif (!(fz l s.zone).2 || (zck (fz l s.zone).1 != 0)) then 23 else bif ((nmI s.plate != 0) || !(sEq (nmS s.plate) s.plate)) then 19 else bif !(vl s.time) then 12 else bif !(sEq s.id (idS s)) then 6 else 0
def shB (s : Sty) : Bool := (decide ((s.id.size : Int) ≤ 200) && decide ((s.zone.size : Int) ≤ 40)) && decide ((s.plate.size : Int) ≤ 40)
theorem shB_t {s : Sty} (h : shB s = true) : s.zone.size ≤ 40 ∧ s.plate.size ≤ 40 := by
  unfold shB at h
  simp only [Bool.and_eq_true, decide_eq_true_eq] at h
  omega
def zb (z : Zn) : Bool := (decide (40 < (z.name.size : Int)) || decide (8 < (z.hours.length : Int))) || decide (8 < (z.steps.length : Int))
theorem zb_g {z : Zn} (h : zb z = false) : grt z = false := by
  unfold zb at h
  unfold grt
  simp only [Bool.or_eq_false_iff, decide_eq_false_iff_not] at h ⊢
  omega
def smB (l : List Zn) : Bool := (l.all fun z => !(zb z)) && decide ((l.length : Int) ≤ 8)
theorem smB_t {l : List Zn} (h : smB l = true) : l.length ≤ 8 ∧ ∀ q, q < l.length → grt (ix l q) = false := by
  unfold smB at h
  simp only [Bool.and_eq_true, List.all_eq_true, decide_eq_true_eq, Bool.not_eq_true'] at h
  refine ⟨by omega, fun q hq => zb_g (h.1 _ ?_)⟩
  unfold ix
  rw [List.getD_eq_getElem?_getD, List.getElem?_eq_getElem hq]
  exact List.getElem_mem hq

set_option maxHeartbeats 4000000 in
set_option maxRecDepth 100000 in
theorem keyC (p : Prk) (hk : -9223372036854775808 ≤ p.kind ∧ p.kind ≤ 9223372036854775807) (ht : -9223372036854775808 ≤ p.time ∧ p.time ≤ 9223372036854775807) (hu : -9223372036854775808 ≤ p.un ∧ p.un ≤ 9223372036854775807) (hz : p.zone.size ≤ 40) (hp : p.plate.size ≤ 40) : CtrK Tryz.prog K2 10 [.ag (ePrk p)] (.d (.fl (.string (kyS p.kind p.zone p.plate p.time p.un)))) := by
  refine ctrK (n := 18) (rs := #[.tmp 2]) (L := [(0, .d (.ag (ePrk p)))]) Tryz.func10 rfl rfl rfl rfl rfl (fun w0 U0 hG => ?_)
  refine a_rseq ?_
  refine rg_nam (d := 1) (v := .pt 101 0) (m := 101) (nw := [(101, .bx 23 (ePrk p))]) rfl (og rfl (of_eff (op_box 101 rfl rfl rfl rfl) rfl)) rfl ?_
  refine rg_put (d := 2) (v := .d (.fl (.string (⟨#[]⟩)))) rfl (og rfl (op_assign rfl rfl rfl)) ?_
  refine rg_done rfl ?_
  refine a_dseq (by kernel_rfl) ?_
  refine dr_put (d := 3) (v := .pt 101 0) rfl (og rfl (of_eff (s_field_pt rfl Tryz.underlying23 rfl ti3 rfl rfl rfl) rfl)) ?_
  refine dr_put (d := 4) (v := .d (.fl (.int .i64 p.kind))) rfl (og rfl (op_load_pt rfl Tryz.underlying3 rfl rfl rfl rfl rfl)) ?_
  refine dr_put (d := 5) (v := .d (.fl (.string (Om.fmt p.kind)))) rfl (og rfl (op_callK k2st hG rfl Tryz.func34 nm34 rfl (.cons rfl (.d _) .nil) (fmtC p.kind hk) rfl)) ?_
  refine dr_put (d := 6) (v := .pt 101 1) rfl (og rfl (of_eff (s_field_pt rfl Tryz.underlying23 rfl ti9 rfl rfl rfl) rfl)) ?_
  refine dr_put (d := 7) (v := .d (.fl (.string p.zone))) rfl (og rfl (op_load_pt rfl Tryz.underlying9 rfl rfl rfl rfl rfl)) ?_
  refine dr_put (d := 8) (v := .pt 101 2) rfl (og rfl (of_eff (s_field_pt rfl Tryz.underlying23 rfl ti9 rfl rfl rfl) rfl)) ?_
  refine dr_put (d := 9) (v := .d (.fl (.string p.plate))) rfl (og rfl (op_load_pt rfl Tryz.underlying9 rfl rfl rfl rfl rfl)) ?_
  refine dr_put (d := 10) (v := .pt 101 3) rfl (og rfl (of_eff (s_field_pt rfl Tryz.underlying23 rfl ti3 rfl rfl rfl) rfl)) ?_
  refine dr_put (d := 11) (v := .d (.fl (.int .i64 p.time))) rfl (og rfl (op_load_pt rfl Tryz.underlying3 rfl rfl rfl rfl rfl)) ?_
  refine dr_put (d := 12) (v := .d (.fl (.string (Om.fmt p.time)))) rfl (og rfl (op_callK k2st hG rfl Tryz.func34 nm34 rfl (.cons rfl (.d _) .nil) (fmtC p.time ht) rfl)) ?_
  refine dr_put (d := 13) (v := .pt 101 4) rfl (og rfl (of_eff (s_field_pt rfl Tryz.underlying23 rfl ti3 rfl rfl rfl) rfl)) ?_
  refine dr_put (d := 14) (v := .d (.fl (.int .i64 p.un))) rfl (og rfl (op_load_pt rfl Tryz.underlying3 rfl rfl rfl rfl rfl)) ?_
  refine dr_put (d := 15) (v := .d (.fl (.string (Om.fmt p.un)))) rfl (og rfl (op_callK k2st hG rfl Tryz.func34 nm34 rfl (.cons rfl (.d _) .nil) (fmtC p.un hu) rfl)) ?_
  refine dr_put (d := 16) (v := .d (.sl 1 (List.map rS [(Om.fmt p.kind), p.zone, p.plate, (Om.fmt p.time), (Om.fmt p.un)]))) rfl (og rfl (of_eff (op_slices rfl Tryz.underlying85 ti9 rfl rfl rfl (by kernel_rfl) (xs := [.fl (.string (Om.fmt p.kind)), .fl (.string p.zone), .fl (.string p.plate), .fl (.string (Om.fmt p.time)), .fl (.string (Om.fmt p.un))]) rfl rfl (.cons rfl rfl (.d _) rfl rfl rfl (.cons rfl rfl (.d _) rfl rfl rfl (.cons rfl rfl (.d _) rfl rfl rfl (.cons rfl rfl (.d _) rfl rfl rfl (.cons rfl rfl (.d _) rfl rfl rfl .nil))))) rfl) rfl)) ?_
  refine dr_put (d := 17) (v := .d (.fl (.string ((jnS [(Om.fmt p.kind), p.zone, p.plate, (Om.fmt p.time), (Om.fmt p.un)]))))) rfl (og rfl (op_call rfl Tryz.func33 nm33 rfl (.cons rfl (.d _) (.cons rfl (.d _) .nil)) (jnC [(Om.fmt p.kind), p.zone, p.plate, (Om.fmt p.time), (Om.fmt p.un)] (by simp) (by rw [jn_ky]; have := ky_sz hk ht hu hz hp; omega)) rfl)) ?_
  refine dr_put (d := 2) (v := .d (.fl (.string ((jnS [(Om.fmt p.kind), p.zone, p.plate, (Om.fmt p.time), (Om.fmt p.un)]))))) rfl (og rfl (op_assign rfl rfl rfl)) ?_
  refine dr_done rfl (sepB_of [0, 1, 3, 0, 8, 0, 32, 0, 128, 391, 0, 1024, 3975, 8191, 16383, 32767] (by kernel_rfl)) (by kernel_rfl) ?_
  refine a_ret ?_
  show ∃ ds, ResL _ _ _ ds ∧ RV.of ds = _
  refine ⟨[.fl (.string ((jnS [(Om.fmt p.kind), p.zone, p.plate, (Om.fmt p.time), (Om.fmt p.un)])))], (.cons (.tmp rfl (.d _)) .nil), ?_⟩
  rw [jn_ky]; rfl
set_option maxHeartbeats 4000000 in
set_option maxRecDepth 100000 in
theorem keyR (p : Prk) (hk : -9223372036854775808 ≤ p.kind ∧ p.kind ≤ 9223372036854775807) (ht : -9223372036854775808 ≤ p.time ∧ p.time ≤ 9223372036854775807) (hu : -9223372036854775808 ≤ p.un ∧ p.un ≤ 9223372036854775807) (hz : p.zone.size ≤ 40) (hp : p.plate.size ≤ 40) : Ctr Tryz.prog 11 [.ag (ePrk p)] (.d (.fl (.string (kyS p.kind p.zone p.plate p.time p.un)))) := by
  refine ctr (n := 24) (rs := #[.tmp 2]) (L := [(0, .d (.ag (ePrk p)))]) Tryz.func11 rfl rfl rfl rfl rfl (fun w0 U0 => ?_)
  refine a_rseq ?_
  refine rg_nam (d := 1) (v := .pt 101 0) (m := 101) (nw := [(101, .bx 23 (ePrk p))]) rfl (og rfl (of_eff (op_box 101 rfl rfl rfl rfl) rfl)) rfl ?_
  refine rg_put (d := 2) (v := .d (.fl (.string (⟨#[]⟩)))) rfl (og rfl (op_assign rfl rfl rfl)) ?_
  refine rg_done rfl ?_
  refine a_dseq (by kernel_rfl) ?_
  refine dr_put (d := 3) (v := .pt 101 0) rfl (og rfl (of_eff (s_field_pt rfl Tryz.underlying23 rfl ti3 rfl rfl rfl) rfl)) ?_
  refine dr_put (d := 4) (v := .d (.fl (.int .i64 p.kind))) rfl (og rfl (op_load_pt rfl Tryz.underlying3 rfl rfl rfl rfl rfl)) ?_
  refine dr_put (d := 5) (v := .d (.fl (.string (Om.fmt p.kind)))) rfl (og rfl (op_call rfl Tryz.func35 nm35 rfl (.cons rfl (.d _) .nil) (fmtR p.kind hk) rfl)) ?_
  refine dr_put (d := 6) (v := .d (.fl (.string (((Om.fmt p.kind) ++ (⟨#[46]⟩ : ByteArray)))))) rfl (og rfl (op_bin rfl rfl rfl (fun ox oy ow => b_sadd _ _ _ ox oy ow (by have h1 := fmt_sz hk; have h2 := fmt_sz ht; have h3 := fmt_sz hu; have h46 : (⟨#[46]⟩ : ByteArray).size = 1 := rfl; simp only [ByteArray.size_append, h46]; omega)) rfl)) ?_
  refine dr_put (d := 7) (v := .pt 101 1) rfl (og rfl (of_eff (s_field_pt rfl Tryz.underlying23 rfl ti9 rfl rfl rfl) rfl)) ?_
  refine dr_put (d := 8) (v := .d (.fl (.string p.zone))) rfl (og rfl (op_load_pt rfl Tryz.underlying9 rfl rfl rfl rfl rfl)) ?_
  refine dr_put (d := 9) (v := .d (.fl (.string (((((Om.fmt p.kind) ++ (⟨#[46]⟩ : ByteArray))) ++ p.zone))))) rfl (og rfl (op_bin rfl rfl rfl (fun ox oy ow => b_sadd _ _ _ ox oy ow (by have h1 := fmt_sz hk; have h2 := fmt_sz ht; have h3 := fmt_sz hu; have h46 : (⟨#[46]⟩ : ByteArray).size = 1 := rfl; simp only [ByteArray.size_append, h46]; omega)) rfl)) ?_
  refine dr_put (d := 10) (v := .d (.fl (.string (((((((Om.fmt p.kind) ++ (⟨#[46]⟩ : ByteArray))) ++ p.zone)) ++ (⟨#[46]⟩ : ByteArray)))))) rfl (og rfl (op_bin rfl rfl rfl (fun ox oy ow => b_sadd _ _ _ ox oy ow (by have h1 := fmt_sz hk; have h2 := fmt_sz ht; have h3 := fmt_sz hu; have h46 : (⟨#[46]⟩ : ByteArray).size = 1 := rfl; simp only [ByteArray.size_append, h46]; omega)) rfl)) ?_
  refine dr_put (d := 11) (v := .pt 101 2) rfl (og rfl (of_eff (s_field_pt rfl Tryz.underlying23 rfl ti9 rfl rfl rfl) rfl)) ?_
  refine dr_put (d := 12) (v := .d (.fl (.string p.plate))) rfl (og rfl (op_load_pt rfl Tryz.underlying9 rfl rfl rfl rfl rfl)) ?_
  refine dr_put (d := 13) (v := .d (.fl (.string (((((((((Om.fmt p.kind) ++ (⟨#[46]⟩ : ByteArray))) ++ p.zone)) ++ (⟨#[46]⟩ : ByteArray))) ++ p.plate))))) rfl (og rfl (op_bin rfl rfl rfl (fun ox oy ow => b_sadd _ _ _ ox oy ow (by have h1 := fmt_sz hk; have h2 := fmt_sz ht; have h3 := fmt_sz hu; have h46 : (⟨#[46]⟩ : ByteArray).size = 1 := rfl; simp only [ByteArray.size_append, h46]; omega)) rfl)) ?_
  refine dr_put (d := 14) (v := .d (.fl (.string (((((((((((Om.fmt p.kind) ++ (⟨#[46]⟩ : ByteArray))) ++ p.zone)) ++ (⟨#[46]⟩ : ByteArray))) ++ p.plate)) ++ (⟨#[46]⟩ : ByteArray)))))) rfl (og rfl (op_bin rfl rfl rfl (fun ox oy ow => b_sadd _ _ _ ox oy ow (by have h1 := fmt_sz hk; have h2 := fmt_sz ht; have h3 := fmt_sz hu; have h46 : (⟨#[46]⟩ : ByteArray).size = 1 := rfl; simp only [ByteArray.size_append, h46]; omega)) rfl)) ?_
  refine dr_put (d := 15) (v := .pt 101 3) rfl (og rfl (of_eff (s_field_pt rfl Tryz.underlying23 rfl ti3 rfl rfl rfl) rfl)) ?_
  refine dr_put (d := 16) (v := .d (.fl (.int .i64 p.time))) rfl (og rfl (op_load_pt rfl Tryz.underlying3 rfl rfl rfl rfl rfl)) ?_
  refine dr_put (d := 17) (v := .d (.fl (.string (Om.fmt p.time)))) rfl (og rfl (op_call rfl Tryz.func35 nm35 rfl (.cons rfl (.d _) .nil) (fmtR p.time ht) rfl)) ?_
  refine dr_put (d := 18) (v := .d (.fl (.string (((((((((((((Om.fmt p.kind) ++ (⟨#[46]⟩ : ByteArray))) ++ p.zone)) ++ (⟨#[46]⟩ : ByteArray))) ++ p.plate)) ++ (⟨#[46]⟩ : ByteArray))) ++ (Om.fmt p.time)))))) rfl (og rfl (op_bin rfl rfl rfl (fun ox oy ow => b_sadd _ _ _ ox oy ow (by have h1 := fmt_sz hk; have h2 := fmt_sz ht; have h3 := fmt_sz hu; have h46 : (⟨#[46]⟩ : ByteArray).size = 1 := rfl; simp only [ByteArray.size_append, h46]; omega)) rfl)) ?_
  refine dr_put (d := 19) (v := .d (.fl (.string (((((((((((((((Om.fmt p.kind) ++ (⟨#[46]⟩ : ByteArray))) ++ p.zone)) ++ (⟨#[46]⟩ : ByteArray))) ++ p.plate)) ++ (⟨#[46]⟩ : ByteArray))) ++ (Om.fmt p.time))) ++ (⟨#[46]⟩ : ByteArray)))))) rfl (og rfl (op_bin rfl rfl rfl (fun ox oy ow => b_sadd _ _ _ ox oy ow (by have h1 := fmt_sz hk; have h2 := fmt_sz ht; have h3 := fmt_sz hu; have h46 : (⟨#[46]⟩ : ByteArray).size = 1 := rfl; simp only [ByteArray.size_append, h46]; omega)) rfl)) ?_
  refine dr_put (d := 20) (v := .pt 101 4) rfl (og rfl (of_eff (s_field_pt rfl Tryz.underlying23 rfl ti3 rfl rfl rfl) rfl)) ?_
  refine dr_put (d := 21) (v := .d (.fl (.int .i64 p.un))) rfl (og rfl (op_load_pt rfl Tryz.underlying3 rfl rfl rfl rfl rfl)) ?_
  refine dr_put (d := 22) (v := .d (.fl (.string (Om.fmt p.un)))) rfl (og rfl (op_call rfl Tryz.func35 nm35 rfl (.cons rfl (.d _) .nil) (fmtR p.un hu) rfl)) ?_
  refine dr_put (d := 23) (v := .d (.fl (.string (((((((((((((((((Om.fmt p.kind) ++ (⟨#[46]⟩ : ByteArray))) ++ p.zone)) ++ (⟨#[46]⟩ : ByteArray))) ++ p.plate)) ++ (⟨#[46]⟩ : ByteArray))) ++ (Om.fmt p.time))) ++ (⟨#[46]⟩ : ByteArray))) ++ (Om.fmt p.un)))))) rfl (og rfl (op_bin rfl rfl rfl (fun ox oy ow => b_sadd _ _ _ ox oy ow (by have h1 := fmt_sz hk; have h2 := fmt_sz ht; have h3 := fmt_sz hu; have h46 : (⟨#[46]⟩ : ByteArray).size = 1 := rfl; simp only [ByteArray.size_append, h46]; omega)) rfl)) ?_
  refine dr_put (d := 2) (v := .d (.fl (.string (((((((((((((((((Om.fmt p.kind) ++ (⟨#[46]⟩ : ByteArray))) ++ p.zone)) ++ (⟨#[46]⟩ : ByteArray))) ++ p.plate)) ++ (⟨#[46]⟩ : ByteArray))) ++ (Om.fmt p.time))) ++ (⟨#[46]⟩ : ByteArray))) ++ (Om.fmt p.un)))))) rfl (og rfl (op_assign rfl rfl rfl)) ?_
  refine dr_done rfl (sepB_of [0, 1, 3, 7, 0, 16, 63, 127, 0, 256, 1023, 2047, 0, 4096, 12295, 32767, 65535, 0, 131072, 421895, 1048575, 2097151] (by kernel_rfl)) (by kernel_rfl) ?_
  refine a_ret ?_
  show ∃ ds, ResL _ _ _ ds ∧ RV.of ds = _
  refine ⟨[.fl (.string (((((((((((((((((Om.fmt p.kind) ++ (⟨#[46]⟩ : ByteArray))) ++ p.zone)) ++ (⟨#[46]⟩ : ByteArray))) ++ p.plate)) ++ (⟨#[46]⟩ : ByteArray))) ++ (Om.fmt p.time))) ++ (⟨#[46]⟩ : ByteArray))) ++ (Om.fmt p.un))))], (.cons (.tmp rfl (.d _)) .nil), ?_⟩
  rfl
set_option maxHeartbeats 4000000 in
set_option maxRecDepth 100000 in
theorem idC (s : Sty) (hf : -9223372036854775808 ≤ s.time.fr ∧ s.time.fr ≤ 9223372036854775807) (hz : s.zone.size ≤ 40) (hp : s.plate.size ≤ 40) : CtrK Tryz.prog K2 17 [.ag (eSty s)] (.d (.fl (.string (idS s)))) := by
  refine ctrK (n := 12) (rs := #[.tmp 2]) (L := [(0, .d (.ag (eSty s)))]) Tryz.func17 rfl rfl rfl rfl rfl (fun w0 U0 hG => ?_)
  refine a_rseq ?_
  refine rg_nam (d := 1) (v := .pt 101 0) (m := 101) (nw := [(101, .bx 36 (eSty s))]) rfl (og rfl (of_eff (op_box 101 rfl rfl rfl rfl) rfl)) rfl ?_
  refine rg_put (d := 2) (v := .d (.fl (.string (⟨#[]⟩)))) rfl (og rfl (op_assign rfl rfl rfl)) ?_
  refine rg_done rfl ?_
  refine a_rseq ?_
  refine rg_put (d := 3) (v := .pt 101 1) rfl (og rfl (of_eff (s_field_pt rfl Tryz.underlying36 rfl ti9 rfl rfl rfl) rfl)) ?_
  refine rg_put (d := 4) (v := .d (.fl (.string s.zone))) rfl (og rfl (op_load_pt rfl Tryz.underlying9 rfl rfl rfl rfl rfl)) ?_
  refine rg_put (d := 5) (v := .pt 101 2) rfl (og rfl (of_eff (s_field_pt rfl Tryz.underlying36 rfl ti9 rfl rfl rfl) rfl)) ?_
  refine rg_put (d := 6) (v := .d (.fl (.string s.plate))) rfl (og rfl (op_load_pt rfl Tryz.underlying9 rfl rfl rfl rfl rfl)) ?_
  refine rg_put (d := 7) (v := .pt 101 3) rfl (og rfl (of_eff (s_field_pt rfl Tryz.underlying36 rfl ti34 rfl rfl rfl) rfl)) ?_
  refine rg_put (d := 8) (v := .pt 101 3) rfl (og rfl (of_eff (s_field_pt rfl Tryz.underlying34 rfl ti3 rfl rfl rfl) rfl)) ?_
  refine rg_put (d := 9) (v := .d (.fl (.int .i64 s.time.fr))) rfl (og rfl (op_load_pt rfl Tryz.underlying3 rfl rfl rfl rfl rfl)) ?_
  refine rg_put (d := 10) (v := .d (.ag (ePrk (Prk.mk 5 s.zone s.plate s.time.fr 0)))) rfl (og rfl (of_eff (op_build rfl Tryz.underlying23 ti23 rfl (by kernel_rfl) (by kernel_rfl) (pl := #[(0, 1), (1, 1), (2, 1), (3, 1), (4, 1)]) (by kernel_rfl) (.cons rfl rfl (.d _) rfl rfl rfl (.cons rfl rfl (.d _) rfl rfl rfl (.cons rfl rfl (.d _) rfl rfl rfl (.cons rfl rfl (.d _) rfl rfl rfl .nil)))) rfl) rfl)) ?_
  refine rg_put (d := 11) (v := .d (.fl (.string (idS s)))) rfl (og rfl (op_callK k2st hG rfl Tryz.func10 nm10 rfl (.cons rfl (.d _) .nil) ((keyC (Prk.mk 5 s.zone s.plate s.time.fr 0) (show (-9223372036854775808 : Int) ≤ 5 ∧ (5 : Int) ≤ 9223372036854775807 by decide) hf (show (-9223372036854775808 : Int) ≤ 0 ∧ (0 : Int) ≤ 9223372036854775807 by decide) hz hp)) rfl)) ?_
  refine rg_put (d := 2) (v := .d (.fl (.string (idS s)))) rfl (og rfl (op_assign rfl rfl rfl)) ?_
  refine rg_done rfl ?_
  refine a_ret ?_
  show ∃ ds, ResL _ _ _ ds ∧ RV.of ds = _
  refine ⟨[.fl (.string (idS s))], (.cons (.tmp rfl (.d _)) .nil), ?_⟩
  rfl
set_option maxHeartbeats 4000000 in
set_option maxRecDepth 100000 in
theorem idR (s : Sty) (hf : -9223372036854775808 ≤ s.time.fr ∧ s.time.fr ≤ 9223372036854775807) (hz : s.zone.size ≤ 40) (hp : s.plate.size ≤ 40) : Ctr Tryz.prog 18 [.ag (eSty s)] (.d (.fl (.string (idS s)))) := by
  refine ctr (n := 12) (rs := #[.tmp 2]) (L := [(0, .d (.ag (eSty s)))]) Tryz.func18 rfl rfl rfl rfl rfl (fun w0 U0 => ?_)
  refine a_rseq ?_
  refine rg_nam (d := 1) (v := .pt 101 0) (m := 101) (nw := [(101, .bx 36 (eSty s))]) rfl (og rfl (of_eff (op_box 101 rfl rfl rfl rfl) rfl)) rfl ?_
  refine rg_put (d := 2) (v := .d (.fl (.string (⟨#[]⟩)))) rfl (og rfl (op_assign rfl rfl rfl)) ?_
  refine rg_done rfl ?_
  refine a_rseq ?_
  refine rg_put (d := 3) (v := .pt 101 1) rfl (og rfl (of_eff (s_field_pt rfl Tryz.underlying36 rfl ti9 rfl rfl rfl) rfl)) ?_
  refine rg_put (d := 4) (v := .d (.fl (.string s.zone))) rfl (og rfl (op_load_pt rfl Tryz.underlying9 rfl rfl rfl rfl rfl)) ?_
  refine rg_put (d := 5) (v := .pt 101 2) rfl (og rfl (of_eff (s_field_pt rfl Tryz.underlying36 rfl ti9 rfl rfl rfl) rfl)) ?_
  refine rg_put (d := 6) (v := .d (.fl (.string s.plate))) rfl (og rfl (op_load_pt rfl Tryz.underlying9 rfl rfl rfl rfl rfl)) ?_
  refine rg_put (d := 7) (v := .pt 101 3) rfl (og rfl (of_eff (s_field_pt rfl Tryz.underlying36 rfl ti34 rfl rfl rfl) rfl)) ?_
  refine rg_put (d := 8) (v := .pt 101 3) rfl (og rfl (of_eff (s_field_pt rfl Tryz.underlying34 rfl ti3 rfl rfl rfl) rfl)) ?_
  refine rg_put (d := 9) (v := .d (.fl (.int .i64 s.time.fr))) rfl (og rfl (op_load_pt rfl Tryz.underlying3 rfl rfl rfl rfl rfl)) ?_
  refine rg_put (d := 10) (v := .d (.ag (ePrk (Prk.mk 5 s.zone s.plate s.time.fr 0)))) rfl (og rfl (of_eff (op_build rfl Tryz.underlying23 ti23 rfl (by kernel_rfl) (by kernel_rfl) (pl := #[(0, 1), (1, 1), (2, 1), (3, 1), (4, 1)]) (by kernel_rfl) (.cons rfl rfl (.d _) rfl rfl rfl (.cons rfl rfl (.d _) rfl rfl rfl (.cons rfl rfl (.d _) rfl rfl rfl (.cons rfl rfl (.d _) rfl rfl rfl .nil)))) rfl) rfl)) ?_
  refine rg_put (d := 11) (v := .d (.fl (.string (idS s)))) rfl (og rfl (op_call rfl Tryz.func11 nm11 rfl (.cons rfl (.d _) .nil) (keyR (Prk.mk 5 s.zone s.plate s.time.fr 0) (show (-9223372036854775808 : Int) ≤ 5 ∧ (5 : Int) ≤ 9223372036854775807 by decide) hf (show (-9223372036854775808 : Int) ≤ 0 ∧ (0 : Int) ≤ 9223372036854775807 by decide) hz hp) rfl)) ?_
  refine rg_put (d := 2) (v := .d (.fl (.string (idS s)))) rfl (og rfl (op_assign rfl rfl rfl)) ?_
  refine rg_done rfl ?_
  refine a_ret ?_
  show ∃ ds, ResL _ _ _ ds ∧ RV.of ds = _
  refine ⟨[.fl (.string (idS s))], (.cons (.tmp rfl (.d _)) .nil), ?_⟩
  rfl
set_option maxHeartbeats 4000000 in
set_option maxRecDepth 100000 in
theorem vlP (i : Itv) : Ctr Tryz.prog 45 [.ag (eItv i)] (.d (.fl (.bool (vl i)))) := by
  refine ctr (n := 18) (rs := #[.tmp 2]) (L := [(0, .d (.ag (eItv i)))]) Tryz.func45 rfl rfl rfl rfl rfl (fun w0 U0 => ?_)
  refine a_rseq ?_
  refine rg_nam (d := 1) (v := .pt 101 0) (m := 101) (nw := [(101, .bx 34 (eItv i))]) rfl (og rfl (of_eff (op_box 101 rfl rfl rfl rfl) rfl)) rfl ?_
  refine rg_put (d := 2) (v := .d (.fl (.bool false))) rfl (og rfl (op_assign rfl rfl rfl)) ?_
  refine rg_done rfl ?_
  refine a_rseq ?_
  refine rg_put (d := 3) (v := .pt 101 0) rfl (og rfl (of_eff (s_field_pt rfl Tryz.underlying34 rfl ti3 rfl rfl rfl) rfl)) ?_
  refine rg_put (d := 4) (v := .d (.fl (.int .i64 i.fr))) rfl (og rfl (op_load_pt rfl Tryz.underlying3 rfl rfl rfl rfl rfl)) ?_
  refine rg_put (d := 5) (v := .d (.fl (.bool ((decide (0 ≤ i.fr)))))) rfl (og rfl (op_bin rfl rfl rfl (b_leq _ _ _ _) rfl)) ?_
  refine rg_put (d := 6) (v := .d (.fl (.bool ((decide (0 ≤ i.fr)))))) rfl (og rfl (op_move rfl rfl rfl)) ?_
  rcases fot ((decide (0 ≤ i.fr))) with h1 | h1
  · skip
    have h2 := f_dec h1
    refine rg_put (d := 7) (v := .d (.fl undef)) rfl (on rfl rfl rfl h1) ?_
    refine rg_put (d := 8) (v := .d (.fl undef)) rfl (on rfl rfl rfl h1) ?_
    refine rg_put (d := 9) (v := .d (.fl undef)) rfl (on rfl rfl rfl h1) ?_
    refine rg_put (d := 10) (v := .d (.fl undef)) rfl (on rfl rfl rfl h1) ?_
    refine rg_put (d := 11) (v := .d (.fl undef)) rfl (on rfl rfl rfl h1) ?_
    refine rg_put (d := 12) (v := .d (.fl (.bool false))) rfl (og rfl (op_pick rfl rfl (by rw [h1]; rfl) rfl)) ?_
    refine rg_put (d := 13) (v := .d (.fl (.bool false))) rfl (og rfl (op_move rfl rfl rfl)) ?_
    refine rg_put (d := 14) (v := .d (.fl undef)) rfl (on rfl rfl rfl rfl) ?_
    refine rg_put (d := 15) (v := .d (.fl undef)) rfl (on rfl rfl rfl rfl) ?_
    refine rg_put (d := 16) (v := .d (.fl undef)) rfl (on rfl rfl rfl rfl) ?_
    refine rg_put (d := 17) (v := .d (.fl (.bool false))) rfl (og rfl (op_pick rfl rfl rfl rfl)) ?_
    refine rg_put (d := 2) (v := .d (.fl (.bool false))) rfl (og rfl (op_assign rfl rfl rfl)) ?_
    refine rg_done rfl ?_
    refine a_ret ?_
    show ∃ ds, ResL _ _ _ ds ∧ RV.of ds = _
    refine ⟨[.fl (.bool false)], (.cons (.tmp rfl (.d _)) .nil), ?_⟩
    first
      | (have hu : vl i = false := by
          unfold vl; simp only [h1, Bool.true_or, Bool.false_or, Bool.or_true, Bool.or_false, Bool.not_true, Bool.not_false, cond_true, cond_false, Bool.true_and, Bool.false_and, Bool.and_true, Bool.and_false] <;> rfl
         rw [hu]; rfl)
      | (exfalso; omega)
  · skip
    have h3 := t_dec h1
    refine rg_put (d := 7) (v := .pt 101 0) rfl (oy rfl rfl rfl h1 (of_eff (s_field_pt rfl Tryz.underlying34 rfl ti3 rfl rfl rfl) rfl)) ?_
    refine rg_put (d := 8) (v := .d (.fl (.int .i64 i.fr))) rfl (oy rfl rfl rfl h1 (op_load_pt rfl Tryz.underlying3 rfl rfl rfl rfl rfl)) ?_
    refine rg_put (d := 9) (v := .pt 101 1) rfl (oy rfl rfl rfl h1 (of_eff (s_field_pt rfl Tryz.underlying34 rfl ti3 rfl rfl rfl) rfl)) ?_
    refine rg_put (d := 10) (v := .d (.fl (.int .i64 i.to))) rfl (oy rfl rfl rfl h1 (op_load_pt rfl Tryz.underlying3 rfl rfl rfl rfl rfl)) ?_
    refine rg_put (d := 11) (v := .d (.fl (.bool ((decide (i.fr < i.to)))))) rfl (oy rfl rfl rfl h1 (op_bin rfl rfl rfl (b_lss _ _ _ _) rfl)) ?_
    refine rg_put (d := 12) (v := .d (.fl (.bool ((decide (i.fr < i.to)))))) rfl (og rfl (op_pick rfl rfl (by rw [h1]; rfl) rfl)) ?_
    refine rg_put (d := 13) (v := .d (.fl (.bool ((decide (i.fr < i.to)))))) rfl (og rfl (op_move rfl rfl rfl)) ?_
    rcases fot ((decide (i.fr < i.to))) with h4 | h4
    · skip
      have h5 := f_dec h4
      refine rg_put (d := 14) (v := .d (.fl undef)) rfl (on rfl rfl rfl h4) ?_
      refine rg_put (d := 15) (v := .d (.fl undef)) rfl (on rfl rfl rfl h4) ?_
      refine rg_put (d := 16) (v := .d (.fl undef)) rfl (on rfl rfl rfl h4) ?_
      refine rg_put (d := 17) (v := .d (.fl (.bool false))) rfl (og rfl (op_pick rfl rfl (by rw [h4]; rfl) rfl)) ?_
      refine rg_put (d := 2) (v := .d (.fl (.bool false))) rfl (og rfl (op_assign rfl rfl rfl)) ?_
      refine rg_done rfl ?_
      refine a_ret ?_
      show ∃ ds, ResL _ _ _ ds ∧ RV.of ds = _
      refine ⟨[.fl (.bool false)], (.cons (.tmp rfl (.d _)) .nil), ?_⟩
      first
        | (have hu : vl i = false := by
            unfold vl; simp only [h1, h4, Bool.true_or, Bool.false_or, Bool.or_true, Bool.or_false, Bool.not_true, Bool.not_false, cond_true, cond_false, Bool.true_and, Bool.false_and, Bool.and_true, Bool.and_false] <;> rfl
           rw [hu]; rfl)
        | (exfalso; omega)
    · skip
      have h6 := t_dec h4
      refine rg_put (d := 14) (v := .pt 101 1) rfl (oy rfl rfl rfl h4 (of_eff (s_field_pt rfl Tryz.underlying34 rfl ti3 rfl rfl rfl) rfl)) ?_
      refine rg_put (d := 15) (v := .d (.fl (.int .i64 i.to))) rfl (oy rfl rfl rfl h4 (op_load_pt rfl Tryz.underlying3 rfl rfl rfl rfl rfl)) ?_
      refine rg_put (d := 16) (v := .d (.fl (.bool ((decide (i.to ≤ 68719476736)))))) rfl (oy rfl rfl rfl h4 (op_bin rfl rfl rfl (b_leq _ _ _ _) rfl)) ?_
      refine rg_put (d := 17) (v := .d (.fl (.bool ((decide (i.to ≤ 68719476736)))))) rfl (og rfl (op_pick rfl rfl (by rw [h4]; rfl) rfl)) ?_
      refine rg_put (d := 2) (v := .d (.fl (.bool ((decide (i.to ≤ 68719476736)))))) rfl (og rfl (op_assign rfl rfl rfl)) ?_
      refine rg_done rfl ?_
      refine a_ret ?_
      show ∃ ds, ResL _ _ _ ds ∧ RV.of ds = _
      refine ⟨[.fl (.bool ((decide (i.to ≤ 68719476736))))], (.cons (.tmp rfl (.d _)) .nil), ?_⟩
      first
        | (have hu : vl i = (decide (i.to ≤ 68719476736)) := by
            unfold vl; simp only [h1, h4, Bool.true_or, Bool.false_or, Bool.or_true, Bool.or_false, Bool.not_true, Bool.not_false, cond_true, cond_false, Bool.true_and, Bool.false_and, Bool.and_true, Bool.and_false] <;> rfl
           rw [hu]; rfl)
        | (exfalso; omega)
set_option maxHeartbeats 4000000 in
set_option maxRecDepth 100000 in
theorem vlR (i : Itv) : Ctr Tryz.prog 48 [.ag (eItv i)] (.d (.fl (.bool (vl i)))) := by
  refine ctr (n := 18) (rs := #[.tmp 2]) (L := [(0, .d (.ag (eItv i)))]) Tryz.func48 rfl rfl rfl rfl rfl (fun w0 U0 => ?_)
  refine a_rseq ?_
  refine rg_nam (d := 1) (v := .pt 101 0) (m := 101) (nw := [(101, .bx 34 (eItv i))]) rfl (og rfl (of_eff (op_box 101 rfl rfl rfl rfl) rfl)) rfl ?_
  refine rg_put (d := 2) (v := .d (.fl (.bool false))) rfl (og rfl (op_assign rfl rfl rfl)) ?_
  refine rg_done rfl ?_
  refine a_rseq ?_
  refine rg_put (d := 3) (v := .pt 101 0) rfl (og rfl (of_eff (s_field_pt rfl Tryz.underlying34 rfl ti3 rfl rfl rfl) rfl)) ?_
  refine rg_put (d := 4) (v := .d (.fl (.int .i64 i.fr))) rfl (og rfl (op_load_pt rfl Tryz.underlying3 rfl rfl rfl rfl rfl)) ?_
  refine rg_put (d := 5) (v := .d (.fl (.bool ((decide (0 ≤ i.fr)))))) rfl (og rfl (op_bin rfl rfl rfl (b_geq _ _ _ _) rfl)) ?_
  refine rg_put (d := 6) (v := .d (.fl (.bool ((decide (0 ≤ i.fr)))))) rfl (og rfl (op_move rfl rfl rfl)) ?_
  rcases fot ((decide (0 ≤ i.fr))) with h1 | h1
  · skip
    have h2 := f_dec h1
    refine rg_put (d := 7) (v := .d (.fl undef)) rfl (on rfl rfl rfl h1) ?_
    refine rg_put (d := 8) (v := .d (.fl undef)) rfl (on rfl rfl rfl h1) ?_
    refine rg_put (d := 9) (v := .d (.fl undef)) rfl (on rfl rfl rfl h1) ?_
    refine rg_put (d := 10) (v := .d (.fl undef)) rfl (on rfl rfl rfl h1) ?_
    refine rg_put (d := 11) (v := .d (.fl undef)) rfl (on rfl rfl rfl h1) ?_
    refine rg_put (d := 12) (v := .d (.fl (.bool false))) rfl (og rfl (op_pick rfl rfl (by rw [h1]; rfl) rfl)) ?_
    refine rg_put (d := 13) (v := .d (.fl (.bool false))) rfl (og rfl (op_move rfl rfl rfl)) ?_
    refine rg_put (d := 14) (v := .d (.fl undef)) rfl (on rfl rfl rfl rfl) ?_
    refine rg_put (d := 15) (v := .d (.fl undef)) rfl (on rfl rfl rfl rfl) ?_
    refine rg_put (d := 16) (v := .d (.fl undef)) rfl (on rfl rfl rfl rfl) ?_
    refine rg_put (d := 17) (v := .d (.fl (.bool false))) rfl (og rfl (op_pick rfl rfl rfl rfl)) ?_
    refine rg_put (d := 2) (v := .d (.fl (.bool false))) rfl (og rfl (op_assign rfl rfl rfl)) ?_
    refine rg_done rfl ?_
    refine a_ret ?_
    show ∃ ds, ResL _ _ _ ds ∧ RV.of ds = _
    refine ⟨[.fl (.bool false)], (.cons (.tmp rfl (.d _)) .nil), ?_⟩
    first
      | (have hu : vl i = false := by
          unfold vl; simp only [h1, Bool.true_or, Bool.false_or, Bool.or_true, Bool.or_false, Bool.not_true, Bool.not_false, cond_true, cond_false, Bool.true_and, Bool.false_and, Bool.and_true, Bool.and_false] <;> rfl
         rw [hu]; rfl)
      | (exfalso; omega)
  · skip
    have h3 := t_dec h1
    refine rg_put (d := 7) (v := .pt 101 0) rfl (oy rfl rfl rfl h1 (of_eff (s_field_pt rfl Tryz.underlying34 rfl ti3 rfl rfl rfl) rfl)) ?_
    refine rg_put (d := 8) (v := .d (.fl (.int .i64 i.fr))) rfl (oy rfl rfl rfl h1 (op_load_pt rfl Tryz.underlying3 rfl rfl rfl rfl rfl)) ?_
    refine rg_put (d := 9) (v := .pt 101 1) rfl (oy rfl rfl rfl h1 (of_eff (s_field_pt rfl Tryz.underlying34 rfl ti3 rfl rfl rfl) rfl)) ?_
    refine rg_put (d := 10) (v := .d (.fl (.int .i64 i.to))) rfl (oy rfl rfl rfl h1 (op_load_pt rfl Tryz.underlying3 rfl rfl rfl rfl rfl)) ?_
    refine rg_put (d := 11) (v := .d (.fl (.bool ((decide (i.fr < i.to)))))) rfl (oy rfl rfl rfl h1 (op_bin rfl rfl rfl (b_lss _ _ _ _) rfl)) ?_
    refine rg_put (d := 12) (v := .d (.fl (.bool ((decide (i.fr < i.to)))))) rfl (og rfl (op_pick rfl rfl (by rw [h1]; rfl) rfl)) ?_
    refine rg_put (d := 13) (v := .d (.fl (.bool ((decide (i.fr < i.to)))))) rfl (og rfl (op_move rfl rfl rfl)) ?_
    rcases fot ((decide (i.fr < i.to))) with h4 | h4
    · skip
      have h5 := f_dec h4
      refine rg_put (d := 14) (v := .d (.fl undef)) rfl (on rfl rfl rfl h4) ?_
      refine rg_put (d := 15) (v := .d (.fl undef)) rfl (on rfl rfl rfl h4) ?_
      refine rg_put (d := 16) (v := .d (.fl undef)) rfl (on rfl rfl rfl h4) ?_
      refine rg_put (d := 17) (v := .d (.fl (.bool false))) rfl (og rfl (op_pick rfl rfl (by rw [h4]; rfl) rfl)) ?_
      refine rg_put (d := 2) (v := .d (.fl (.bool false))) rfl (og rfl (op_assign rfl rfl rfl)) ?_
      refine rg_done rfl ?_
      refine a_ret ?_
      show ∃ ds, ResL _ _ _ ds ∧ RV.of ds = _
      refine ⟨[.fl (.bool false)], (.cons (.tmp rfl (.d _)) .nil), ?_⟩
      first
        | (have hu : vl i = false := by
            unfold vl; simp only [h1, h4, Bool.true_or, Bool.false_or, Bool.or_true, Bool.or_false, Bool.not_true, Bool.not_false, cond_true, cond_false, Bool.true_and, Bool.false_and, Bool.and_true, Bool.and_false] <;> rfl
           rw [hu]; rfl)
        | (exfalso; omega)
    · skip
      have h6 := t_dec h4
      refine rg_put (d := 14) (v := .pt 101 1) rfl (oy rfl rfl rfl h4 (of_eff (s_field_pt rfl Tryz.underlying34 rfl ti3 rfl rfl rfl) rfl)) ?_
      refine rg_put (d := 15) (v := .d (.fl (.int .i64 i.to))) rfl (oy rfl rfl rfl h4 (op_load_pt rfl Tryz.underlying3 rfl rfl rfl rfl rfl)) ?_
      refine rg_put (d := 16) (v := .d (.fl (.bool ((decide (i.to ≤ 68719476736)))))) rfl (oy rfl rfl rfl h4 (op_bin rfl rfl rfl (b_leq _ _ _ _) rfl)) ?_
      refine rg_put (d := 17) (v := .d (.fl (.bool ((decide (i.to ≤ 68719476736)))))) rfl (og rfl (op_pick rfl rfl (by rw [h4]; rfl) rfl)) ?_
      refine rg_put (d := 2) (v := .d (.fl (.bool ((decide (i.to ≤ 68719476736)))))) rfl (og rfl (op_assign rfl rfl rfl)) ?_
      refine rg_done rfl ?_
      refine a_ret ?_
      show ∃ ds, ResL _ _ _ ds ∧ RV.of ds = _
      refine ⟨[.fl (.bool ((decide (i.to ≤ 68719476736))))], (.cons (.tmp rfl (.d _)) .nil), ?_⟩
      first
        | (have hu : vl i = (decide (i.to ≤ 68719476736)) := by
            unfold vl; simp only [h1, h4, Bool.true_or, Bool.false_or, Bool.or_true, Bool.or_false, Bool.not_true, Bool.not_false, cond_true, cond_false, Bool.true_and, Bool.false_and, Bool.and_true, Bool.and_false] <;> rfl
           rw [hu]; rfl)
        | (exfalso; omega)
set_option maxHeartbeats 4000000 in
set_option maxRecDepth 100000 in
theorem sckC (s : Sty) (l : List Zn) (hf : -9223372036854775808 ≤ s.time.fr ∧ s.time.fr ≤ 9223372036854775807) (hz : s.zone.size ≤ 40) (hp : s.plate.size ≤ 40) (hl : l.length ≤ 8) (hg : ∀ q, q < l.length → grt (ix l q) = false) : CtrK Tryz.prog K2 15 [.ag (eSty s), .sl 7 (List.map eZn l)] (.d (.fl (.int .i64 (sck s l)))) := by
  refine ctrK (n := 46) (rs := #[.tmp 4]) (L := [(0, .d (.ag (eSty s))), (1, .d (.sl 7 (List.map eZn l)))]) Tryz.func15 rfl rfl rfl rfl rfl (fun w0 U0 hG => ?_)
  refine a_rseq ?_
  refine rg_nam (d := 2) (v := .pt 101 0) (m := 101) (nw := [(101, .bx 36 (eSty s))]) rfl (og rfl (of_eff (op_box 101 rfl rfl rfl rfl) rfl)) rfl ?_
  refine rg_put (d := 4) (v := .d (.fl (.int .i64 0))) rfl (og rfl (op_assign rfl rfl rfl)) ?_
  refine rg_done rfl ?_
  refine a_seq ?_
  refine a_rseq ?_
  refine rg_put (d := 10) (v := .d (.sl 7 (List.map eZn l))) rfl (og rfl (op_move rfl rfl rfl)) ?_
  refine rg_put (d := 11) (v := .pt 101 1) rfl (og rfl (of_eff (s_field_pt rfl Tryz.underlying36 rfl ti9 rfl rfl rfl) rfl)) ?_
  refine rg_put (d := 12) (v := .d (.fl (.string s.zone))) rfl (og rfl (op_load_pt rfl Tryz.underlying9 rfl rfl rfl rfl rfl)) ?_
  refine rg_put (d := 13) (v := .tu [.ag (eZn ((fz l s.zone).1)), .fl (.bool ((fz l s.zone).2))]) rfl (og rfl (op_call rfl Tryz.func42 nm42 rfl (.cons rfl (.d _) (.cons rfl (.d _) .nil)) (fndV l s.zone (by omega) hg) rfl)) ?_
  refine rg_put (d := 9) (v := .tu [.ag (eZn ((fz l s.zone).1)), .fl (.bool ((fz l s.zone).2))]) rfl (og rfl (op_move rfl rfl rfl)) ?_
  refine rg_put (d := 14) (v := .d (.ag (eZn ((fz l s.zone).1)))) rfl (og rfl (op_extract rfl rfl rfl rfl)) ?_
  refine rg_put (d := 15) (v := .d (.fl (.bool ((fz l s.zone).2)))) rfl (og rfl (op_extract rfl rfl rfl rfl)) ?_
  refine rg_nam (d := 5) (v := .pt 102 0) (m := 102) (nw := [(102, .bx 50 ([.fl (.string (⟨#[]⟩)), .fl (.slice none 0 0), .fl (.slice none 0 0), .fl (.int .i64 0), .fl (.int .i64 0), .fl (.int .i64 0), .fl (.int .i64 0)]))]) rfl (og rfl (of_eff (s_alloc 102 rfl ti50 (by kernel_rfl) rfl) rfl)) rfl ?_
  refine rg_sto (nw := [(102, .bx 50 ((eZn ((fz l s.zone).1))))]) rfl (og rfl (of_eff (s_store rfl rfl ti50 rfl rfl rfl rfl rfl rfl) rfl)) ?_
  refine rg_put (d := 6) (v := .d (.fl (.bool ((fz l s.zone).2)))) rfl (og rfl (op_assign rfl rfl rfl)) ?_
  refine rg_done rfl ?_
  refine a_rseq ?_
  refine rg_put (d := 16) (v := .d (.fl (.bool ((fz l s.zone).2)))) rfl (og rfl (op_move rfl rfl rfl)) ?_
  refine rg_put (d := 17) (v := .d (.fl (.bool ((!((fz l s.zone).2)))))) rfl (og rfl (op_un rfl rfl (u_not _) rfl)) ?_
  refine rg_put (d := 18) (v := .d (.fl (.bool ((!((fz l s.zone).2)))))) rfl (og rfl (op_move rfl rfl rfl)) ?_
  rcases fot ((!((fz l s.zone).2))) with h1 | h1
  · skip
    have h2 := f_not h1
    refine rg_put (d := 19) (v := .d (.ag (eZn ((fz l s.zone).1)))) rfl (oy rfl rfl rfl h1 (of_eff (s_load_pts rfl Tryz.underlying50 rfl ti50 rfl rfl rfl rfl) rfl)) ?_
    refine rg_put (d := 20) (v := .d (.fl (.int .i64 ((zck ((fz l s.zone).1)))))) rfl (oy rfl rfl rfl h1 (op_call rfl Tryz.func43 nm43 rfl (.cons rfl (.d _) .nil) (zck8 ((fz l s.zone).1) (fz_in hg).1 (fz_in hg).2) rfl)) ?_
    refine rg_put (d := 21) (v := .d (.fl (.bool (((zck ((fz l s.zone).1)) != 0))))) rfl (oy rfl rfl rfl h1 (op_bin rfl rfl rfl (b_neq _ _ _ _) rfl)) ?_
    refine rg_put (d := 22) (v := .d (.fl (.bool (((zck ((fz l s.zone).1)) != 0))))) rfl (og rfl (op_pick rfl rfl (by rw [h1]; rfl) rfl)) ?_
    refine rg_done rfl ?_
    refine a_cond rfl (fun h3 => ?_) (fun h3 => ?_)
    · skip
      have h4 := t_bne h3
      refine a_rseq ?_
      refine rg_put (d := 4) (v := .d (.fl (.int .i64 23))) rfl (og rfl (op_assign rfl rfl rfl)) ?_
      refine rg_done rfl ?_
      refine a_ret ?_
      show ∃ ds, ResL _ _ _ ds ∧ RV.of ds = _
      refine ⟨[.fl (.int .i64 23)], (.cons (.tmp rfl (.d _)) .nil), ?_⟩
      rw [show sck s l = 23 from by unfold sck; simp only [h1, h2, h3, Bool.true_or, Bool.false_or, Bool.or_true, Bool.or_false, Bool.not_true, Bool.not_false, cond_true, cond_false, Bool.true_and, Bool.false_and, Bool.and_true, Bool.and_false] <;> rfl]; rfl
    · skip
      have h5 := f_bne h3
      refine a_skip ?_
      show A _ _ _ _ _ _ _
      refine a_seq ?_
      refine a_rseq ?_
      refine rg_put (d := 24) (v := .pt 101 2) rfl (og rfl (of_eff (s_field_pt rfl Tryz.underlying36 rfl ti9 rfl rfl rfl) rfl)) ?_
      refine rg_put (d := 25) (v := .d (.fl (.string s.plate))) rfl (og rfl (op_load_pt rfl Tryz.underlying9 rfl rfl rfl rfl rfl)) ?_
      refine rg_put (d := 26) (v := .tu [.fl (.string (nmS s.plate)), .fl (.int .i64 (nmI s.plate))]) rfl (og rfl (op_callK k2st hG rfl Tryz.func44 nm44 rfl (.cons rfl (.d _) .nil) ((k2_of (norC s.plate (by omega)))) rfl)) ?_
      refine rg_put (d := 23) (v := .tu [.fl (.string (nmS s.plate)), .fl (.int .i64 (nmI s.plate))]) rfl (og rfl (op_move rfl rfl rfl)) ?_
      refine rg_put (d := 27) (v := .d (.fl (.string (nmS s.plate)))) rfl (og rfl (op_extract rfl rfl rfl rfl)) ?_
      refine rg_put (d := 28) (v := .d (.fl (.int .i64 (nmI s.plate)))) rfl (og rfl (op_extract rfl rfl rfl rfl)) ?_
      refine rg_put (d := 7) (v := .d (.fl (.string (nmS s.plate)))) rfl (og rfl (op_assign rfl rfl rfl)) ?_
      refine rg_put (d := 8) (v := .d (.fl (.int .i64 (nmI s.plate)))) rfl (og rfl (op_assign rfl rfl rfl)) ?_
      refine rg_done rfl ?_
      refine a_rseq ?_
      refine rg_put (d := 29) (v := .d (.fl (.int .i64 (nmI s.plate)))) rfl (og rfl (op_move rfl rfl rfl)) ?_
      refine rg_put (d := 30) (v := .d (.fl (.bool (((nmI s.plate) != 0))))) rfl (og rfl (op_bin rfl rfl rfl (b_neq _ _ _ _) rfl)) ?_
      refine rg_put (d := 31) (v := .d (.fl (.bool (((nmI s.plate) != 0))))) rfl (og rfl (op_move rfl rfl rfl)) ?_
      rcases fot (((nmI s.plate) != 0)) with h6 | h6
      · skip
        have h7 := f_bne h6
        refine rg_put (d := 32) (v := .d (.fl (.string (nmS s.plate)))) rfl (oy rfl rfl rfl h6 (op_move rfl rfl rfl)) ?_
        refine rg_put (d := 33) (v := .pt 101 2) rfl (oy rfl rfl rfl h6 (of_eff (s_field_pt rfl Tryz.underlying36 rfl ti9 rfl rfl rfl) rfl)) ?_
        refine rg_put (d := 34) (v := .d (.fl (.string s.plate))) rfl (oy rfl rfl rfl h6 (op_load_pt rfl Tryz.underlying9 rfl rfl rfl rfl rfl)) ?_
        refine rg_put (d := 35) (v := .d (.fl (.bool ((!(sEq (nmS s.plate) s.plate)))))) rfl (oy rfl rfl rfl h6 (op_bin rfl rfl rfl (b_sne _ _ _) rfl)) ?_
        refine rg_put (d := 36) (v := .d (.fl (.bool ((!(sEq (nmS s.plate) s.plate)))))) rfl (og rfl (op_pick rfl rfl (by rw [h6]; rfl) rfl)) ?_
        refine rg_done rfl ?_
        refine a_cond rfl (fun h8 => ?_) (fun h8 => ?_)
        · skip
          have h9 := t_not h8
          refine a_rseq ?_
          refine rg_put (d := 4) (v := .d (.fl (.int .i64 19))) rfl (og rfl (op_assign rfl rfl rfl)) ?_
          refine rg_done rfl ?_
          refine a_ret ?_
          show ∃ ds, ResL _ _ _ ds ∧ RV.of ds = _
          refine ⟨[.fl (.int .i64 19)], (.cons (.tmp rfl (.d _)) .nil), ?_⟩
          rw [show sck s l = 19 from by unfold sck; simp only [h1, h2, h3, h6, h8, h9, Bool.true_or, Bool.false_or, Bool.or_true, Bool.or_false, Bool.not_true, Bool.not_false, cond_true, cond_false, Bool.true_and, Bool.false_and, Bool.and_true, Bool.and_false] <;> rfl]; rfl
        · skip
          have h10 := f_not h8
          refine a_skip ?_
          show A _ _ _ _ _ _ _
          refine a_seq ?_
          refine a_rseq ?_
          refine rg_put (d := 37) (v := .pt 101 3) rfl (og rfl (of_eff (s_field_pt rfl Tryz.underlying36 rfl ti34 rfl rfl rfl) rfl)) ?_
          refine rg_put (d := 38) (v := .d (.ag (eItv s.time))) rfl (og rfl (of_eff (s_load_pts rfl Tryz.underlying34 rfl ti34 rfl rfl rfl rfl) rfl)) ?_
          refine rg_put (d := 39) (v := .d (.fl (.bool (vl s.time)))) rfl (og rfl (op_call rfl Tryz.func45 nm45 rfl (.cons rfl (.d _) .nil) (vlP s.time) rfl)) ?_
          refine rg_put (d := 40) (v := .d (.fl (.bool ((!(vl s.time)))))) rfl (og rfl (op_un rfl rfl (u_not _) rfl)) ?_
          refine rg_done rfl ?_
          refine a_cond rfl (fun h11 => ?_) (fun h11 => ?_)
          · skip
            have h12 := t_not h11
            refine a_rseq ?_
            refine rg_put (d := 4) (v := .d (.fl (.int .i64 12))) rfl (og rfl (op_assign rfl rfl rfl)) ?_
            refine rg_done rfl ?_
            refine a_ret ?_
            show ∃ ds, ResL _ _ _ ds ∧ RV.of ds = _
            refine ⟨[.fl (.int .i64 12)], (.cons (.tmp rfl (.d _)) .nil), ?_⟩
            rw [show sck s l = 12 from by unfold sck; simp only [h1, h2, h3, h6, h8, h10, h11, h12, Bool.true_or, Bool.false_or, Bool.or_true, Bool.or_false, Bool.not_true, Bool.not_false, cond_true, cond_false, Bool.true_and, Bool.false_and, Bool.and_true, Bool.and_false] <;> rfl]; rfl
          · skip
            have h13 := f_not h11
            refine a_skip ?_
            show A _ _ _ _ _ _ _
            refine a_seq ?_
            refine a_dseq (by kernel_rfl) ?_
            refine dr_put (d := 41) (v := .pt 101 0) rfl (og rfl (of_eff (s_field_pt rfl Tryz.underlying36 rfl ti9 rfl rfl rfl) rfl)) ?_
            refine dr_put (d := 42) (v := .d (.fl (.string s.id))) rfl (og rfl (op_load_pt rfl Tryz.underlying9 rfl rfl rfl rfl rfl)) ?_
            refine dr_put (d := 43) (v := .d (.ag (eSty s))) rfl (og rfl (of_eff (s_load_pts rfl Tryz.underlying36 rfl ti36 rfl rfl rfl rfl) rfl)) ?_
            refine dr_put (d := 44) (v := .d (.fl (.string (idS s)))) rfl (og rfl (op_callK k2st hG rfl Tryz.func17 nm17 rfl (.cons rfl (.d _) .nil) (idC s hf hz hp) rfl)) ?_
            refine dr_put (d := 45) (v := .d (.fl (.bool ((!(sEq s.id (idS s))))))) rfl (og rfl (op_bin rfl rfl rfl (b_sne _ _ _) rfl)) ?_
            refine dr_done rfl (by kernel_rfl) (by kernel_rfl) ?_
            refine a_cond rfl (fun h14 => ?_) (fun h14 => ?_)
            · skip
              have h15 := t_not h14
              refine a_rseq ?_
              refine rg_put (d := 4) (v := .d (.fl (.int .i64 6))) rfl (og rfl (op_assign rfl rfl rfl)) ?_
              refine rg_done rfl ?_
              refine a_ret ?_
              show ∃ ds, ResL _ _ _ ds ∧ RV.of ds = _
              refine ⟨[.fl (.int .i64 6)], (.cons (.tmp rfl (.d _)) .nil), ?_⟩
              rw [show sck s l = 6 from by unfold sck; simp only [h1, h2, h3, h6, h8, h10, h11, h13, h14, h15, Bool.true_or, Bool.false_or, Bool.or_true, Bool.or_false, Bool.not_true, Bool.not_false, cond_true, cond_false, Bool.true_and, Bool.false_and, Bool.and_true, Bool.and_false] <;> rfl]; rfl
            · skip
              have h16 := f_not h14
              refine a_skip ?_
              show A _ _ _ _ _ _ _
              refine a_rseq ?_
              refine rg_put (d := 4) (v := .d (.fl (.int .i64 0))) rfl (og rfl (op_assign rfl rfl rfl)) ?_
              refine rg_done rfl ?_
              refine a_ret ?_
              show ∃ ds, ResL _ _ _ ds ∧ RV.of ds = _
              refine ⟨[.fl (.int .i64 0)], (.cons (.tmp rfl (.d _)) .nil), ?_⟩
              rw [show sck s l = 0 from by unfold sck; simp only [h1, h2, h3, h6, h8, h10, h11, h13, h14, h16, Bool.true_or, Bool.false_or, Bool.or_true, Bool.or_false, Bool.not_true, Bool.not_false, cond_true, cond_false, Bool.true_and, Bool.false_and, Bool.and_true, Bool.and_false] <;> rfl]; rfl
      · skip
        have h17 := t_bne h6
        refine rg_put (d := 32) (v := .d (.fl undef)) rfl (on rfl rfl rfl h6) ?_
        refine rg_put (d := 33) (v := .d (.fl undef)) rfl (on rfl rfl rfl h6) ?_
        refine rg_put (d := 34) (v := .d (.fl undef)) rfl (on rfl rfl rfl h6) ?_
        refine rg_put (d := 35) (v := .d (.fl undef)) rfl (on rfl rfl rfl h6) ?_
        refine rg_put (d := 36) (v := .d (.fl (.bool true))) rfl (og rfl (op_pick rfl rfl (by rw [h6]; rfl) rfl)) ?_
        refine rg_done rfl ?_
        refine a_condK rfl rfl ?_
        refine a_rseq ?_
        refine rg_put (d := 4) (v := .d (.fl (.int .i64 19))) rfl (og rfl (op_assign rfl rfl rfl)) ?_
        refine rg_done rfl ?_
        refine a_ret ?_
        show ∃ ds, ResL _ _ _ ds ∧ RV.of ds = _
        refine ⟨[.fl (.int .i64 19)], (.cons (.tmp rfl (.d _)) .nil), ?_⟩
        rw [show sck s l = 19 from by unfold sck; simp only [h1, h2, h3, h6, Bool.true_or, Bool.false_or, Bool.or_true, Bool.or_false, Bool.not_true, Bool.not_false, cond_true, cond_false, Bool.true_and, Bool.false_and, Bool.and_true, Bool.and_false] <;> rfl]; rfl
  · skip
    have h18 := t_not h1
    refine rg_put (d := 19) (v := .d (.fl undef)) rfl (on rfl rfl rfl h1) ?_
    refine rg_put (d := 20) (v := .d (.fl undef)) rfl (on rfl rfl rfl h1) ?_
    refine rg_put (d := 21) (v := .d (.fl undef)) rfl (on rfl rfl rfl h1) ?_
    refine rg_put (d := 22) (v := .d (.fl (.bool true))) rfl (og rfl (op_pick rfl rfl (by rw [h1]; rfl) rfl)) ?_
    refine rg_done rfl ?_
    refine a_condK rfl rfl ?_
    refine a_rseq ?_
    refine rg_put (d := 4) (v := .d (.fl (.int .i64 23))) rfl (og rfl (op_assign rfl rfl rfl)) ?_
    refine rg_done rfl ?_
    refine a_ret ?_
    show ∃ ds, ResL _ _ _ ds ∧ RV.of ds = _
    refine ⟨[.fl (.int .i64 23)], (.cons (.tmp rfl (.d _)) .nil), ?_⟩
    rw [show sck s l = 23 from by unfold sck; simp only [h1, h18, Bool.true_or, Bool.false_or, Bool.or_true, Bool.or_false, Bool.not_true, Bool.not_false, cond_true, cond_false, Bool.true_and, Bool.false_and, Bool.and_true, Bool.and_false] <;> rfl]; rfl
set_option maxHeartbeats 4000000 in
set_option maxRecDepth 100000 in
theorem sckR (s : Sty) (l : List Zn) (hf : -9223372036854775808 ≤ s.time.fr ∧ s.time.fr ≤ 9223372036854775807) (hz : s.zone.size ≤ 40) (hp : s.plate.size ≤ 40) (hl : l.length ≤ 8) (hg : ∀ q, q < l.length → grt (ix l q) = false) : Ctr Tryz.prog 16 [.ag (eSty s), .sl 7 (List.map eZn l)] (.d (.fl (.int .i64 (sck s l)))) := by
  refine ctr (n := 46) (rs := #[.tmp 4]) (L := [(0, .d (.ag (eSty s))), (1, .d (.sl 7 (List.map eZn l)))]) Tryz.func16 rfl rfl rfl rfl rfl (fun w0 U0 => ?_)
  refine a_rseq ?_
  refine rg_nam (d := 2) (v := .pt 101 0) (m := 101) (nw := [(101, .bx 36 (eSty s))]) rfl (og rfl (of_eff (op_box 101 rfl rfl rfl rfl) rfl)) rfl ?_
  refine rg_put (d := 4) (v := .d (.fl (.int .i64 0))) rfl (og rfl (op_assign rfl rfl rfl)) ?_
  refine rg_done rfl ?_
  refine a_rseq ?_
  refine rg_put (d := 10) (v := .d (.sl 7 (List.map eZn l))) rfl (og rfl (op_move rfl rfl rfl)) ?_
  refine rg_put (d := 11) (v := .pt 101 1) rfl (og rfl (of_eff (s_field_pt rfl Tryz.underlying36 rfl ti9 rfl rfl rfl) rfl)) ?_
  refine rg_put (d := 12) (v := .d (.fl (.string s.zone))) rfl (og rfl (op_load_pt rfl Tryz.underlying9 rfl rfl rfl rfl rfl)) ?_
  refine rg_put (d := 13) (v := .tu [.ag (eZn ((fz l s.zone).1)), .fl (.bool ((fz l s.zone).2))]) rfl (og rfl (op_call rfl Tryz.func46 nm46 rfl (.cons rfl (.d _) (.cons rfl (.d _) .nil)) (fndR l s.zone (by omega) hg) rfl)) ?_
  refine rg_put (d := 9) (v := .tu [.ag (eZn ((fz l s.zone).1)), .fl (.bool ((fz l s.zone).2))]) rfl (og rfl (op_move rfl rfl rfl)) ?_
  refine rg_put (d := 14) (v := .d (.ag (eZn ((fz l s.zone).1)))) rfl (og rfl (op_extract rfl rfl rfl rfl)) ?_
  refine rg_put (d := 15) (v := .d (.fl (.bool ((fz l s.zone).2)))) rfl (og rfl (op_extract rfl rfl rfl rfl)) ?_
  refine rg_nam (d := 5) (v := .pt 102 0) (m := 102) (nw := [(102, .bx 50 ([.fl (.string (⟨#[]⟩)), .fl (.slice none 0 0), .fl (.slice none 0 0), .fl (.int .i64 0), .fl (.int .i64 0), .fl (.int .i64 0), .fl (.int .i64 0)]))]) rfl (og rfl (of_eff (s_alloc 102 rfl ti50 (by kernel_rfl) rfl) rfl)) rfl ?_
  refine rg_sto (nw := [(102, .bx 50 ((eZn ((fz l s.zone).1))))]) rfl (og rfl (of_eff (s_store rfl rfl ti50 rfl rfl rfl rfl rfl rfl) rfl)) ?_
  refine rg_put (d := 6) (v := .d (.fl (.bool ((fz l s.zone).2)))) rfl (og rfl (op_assign rfl rfl rfl)) ?_
  refine rg_done rfl ?_
  refine a_seq ?_
  refine a_rseq ?_
  refine rg_put (d := 16) (v := .d (.fl (.bool ((fz l s.zone).2)))) rfl (og rfl (op_move rfl rfl rfl)) ?_
  refine rg_put (d := 17) (v := .d (.fl (.bool ((!((fz l s.zone).2)))))) rfl (og rfl (op_un rfl rfl (u_not _) rfl)) ?_
  refine rg_put (d := 18) (v := .d (.fl (.bool ((!((fz l s.zone).2)))))) rfl (og rfl (op_move rfl rfl rfl)) ?_
  rcases fot ((!((fz l s.zone).2))) with h1 | h1
  · skip
    have h2 := f_not h1
    refine rg_put (d := 19) (v := .d (.ag (eZn ((fz l s.zone).1)))) rfl (oy rfl rfl rfl h1 (of_eff (s_load_pts rfl Tryz.underlying50 rfl ti50 rfl rfl rfl rfl) rfl)) ?_
    refine rg_put (d := 20) (v := .d (.fl (.int .i64 ((zck ((fz l s.zone).1)))))) rfl (oy rfl rfl rfl h1 (op_call rfl Tryz.func47 nm47 rfl (.cons rfl (.d _) .nil) (zck9 ((fz l s.zone).1) (fz_in hg).1 (fz_in hg).2) rfl)) ?_
    refine rg_put (d := 21) (v := .d (.fl (.bool (((zck ((fz l s.zone).1)) != 0))))) rfl (oy rfl rfl rfl h1 (op_bin rfl rfl rfl (b_neq _ _ _ _) rfl)) ?_
    refine rg_put (d := 22) (v := .d (.fl (.bool (((zck ((fz l s.zone).1)) != 0))))) rfl (og rfl (op_pick rfl rfl (by rw [h1]; rfl) rfl)) ?_
    refine rg_done rfl ?_
    refine a_cond rfl (fun h3 => ?_) (fun h3 => ?_)
    · skip
      have h4 := t_bne h3
      refine a_rseq ?_
      refine rg_put (d := 4) (v := .d (.fl (.int .i64 23))) rfl (og rfl (op_assign rfl rfl rfl)) ?_
      refine rg_done rfl ?_
      refine a_ret ?_
      show ∃ ds, ResL _ _ _ ds ∧ RV.of ds = _
      refine ⟨[.fl (.int .i64 23)], (.cons (.tmp rfl (.d _)) .nil), ?_⟩
      rw [show sck s l = 23 from by unfold sck; simp only [h1, h2, h3, Bool.true_or, Bool.false_or, Bool.or_true, Bool.or_false, Bool.not_true, Bool.not_false, cond_true, cond_false, Bool.true_and, Bool.false_and, Bool.and_true, Bool.and_false] <;> rfl]; rfl
    · skip
      have h5 := f_bne h3
      refine a_skip ?_
      show A _ _ _ _ _ _ _
      refine a_rseq ?_
      refine rg_put (d := 24) (v := .pt 101 2) rfl (og rfl (of_eff (s_field_pt rfl Tryz.underlying36 rfl ti9 rfl rfl rfl) rfl)) ?_
      refine rg_put (d := 25) (v := .d (.fl (.string s.plate))) rfl (og rfl (op_load_pt rfl Tryz.underlying9 rfl rfl rfl rfl rfl)) ?_
      refine rg_put (d := 26) (v := .tu [.fl (.string (nmS s.plate)), .fl (.int .i64 (nmI s.plate))]) rfl (og rfl (op_call rfl Tryz.func31 nm31 rfl (.cons rfl (.d _) .nil) (norR s.plate (by omega)) rfl)) ?_
      refine rg_put (d := 23) (v := .tu [.fl (.string (nmS s.plate)), .fl (.int .i64 (nmI s.plate))]) rfl (og rfl (op_move rfl rfl rfl)) ?_
      refine rg_put (d := 27) (v := .d (.fl (.string (nmS s.plate)))) rfl (og rfl (op_extract rfl rfl rfl rfl)) ?_
      refine rg_put (d := 28) (v := .d (.fl (.int .i64 (nmI s.plate)))) rfl (og rfl (op_extract rfl rfl rfl rfl)) ?_
      refine rg_put (d := 7) (v := .d (.fl (.string (nmS s.plate)))) rfl (og rfl (op_assign rfl rfl rfl)) ?_
      refine rg_put (d := 8) (v := .d (.fl (.int .i64 (nmI s.plate)))) rfl (og rfl (op_assign rfl rfl rfl)) ?_
      refine rg_done rfl ?_
      refine a_seq ?_
      refine a_rseq ?_
      refine rg_put (d := 29) (v := .d (.fl (.int .i64 (nmI s.plate)))) rfl (og rfl (op_move rfl rfl rfl)) ?_
      refine rg_put (d := 30) (v := .d (.fl (.bool (((nmI s.plate) != 0))))) rfl (og rfl (op_bin rfl rfl rfl (b_neq _ _ _ _) rfl)) ?_
      refine rg_put (d := 31) (v := .d (.fl (.bool (((nmI s.plate) != 0))))) rfl (og rfl (op_move rfl rfl rfl)) ?_
      rcases fot (((nmI s.plate) != 0)) with h6 | h6
      · skip
        have h7 := f_bne h6
        refine rg_put (d := 32) (v := .d (.fl (.string (nmS s.plate)))) rfl (oy rfl rfl rfl h6 (op_move rfl rfl rfl)) ?_
        refine rg_put (d := 33) (v := .pt 101 2) rfl (oy rfl rfl rfl h6 (of_eff (s_field_pt rfl Tryz.underlying36 rfl ti9 rfl rfl rfl) rfl)) ?_
        refine rg_put (d := 34) (v := .d (.fl (.string s.plate))) rfl (oy rfl rfl rfl h6 (op_load_pt rfl Tryz.underlying9 rfl rfl rfl rfl rfl)) ?_
        refine rg_put (d := 35) (v := .d (.fl (.bool ((!(sEq (nmS s.plate) s.plate)))))) rfl (oy rfl rfl rfl h6 (op_bin rfl rfl rfl (b_sne _ _ _) rfl)) ?_
        refine rg_put (d := 36) (v := .d (.fl (.bool ((!(sEq (nmS s.plate) s.plate)))))) rfl (og rfl (op_pick rfl rfl (by rw [h6]; rfl) rfl)) ?_
        refine rg_done rfl ?_
        refine a_cond rfl (fun h8 => ?_) (fun h8 => ?_)
        · skip
          have h9 := t_not h8
          refine a_rseq ?_
          refine rg_put (d := 4) (v := .d (.fl (.int .i64 19))) rfl (og rfl (op_assign rfl rfl rfl)) ?_
          refine rg_done rfl ?_
          refine a_ret ?_
          show ∃ ds, ResL _ _ _ ds ∧ RV.of ds = _
          refine ⟨[.fl (.int .i64 19)], (.cons (.tmp rfl (.d _)) .nil), ?_⟩
          rw [show sck s l = 19 from by unfold sck; simp only [h1, h2, h3, h6, h8, h9, Bool.true_or, Bool.false_or, Bool.or_true, Bool.or_false, Bool.not_true, Bool.not_false, cond_true, cond_false, Bool.true_and, Bool.false_and, Bool.and_true, Bool.and_false] <;> rfl]; rfl
        · skip
          have h10 := f_not h8
          refine a_skip ?_
          show A _ _ _ _ _ _ _
          refine a_seq ?_
          refine a_rseq ?_
          refine rg_put (d := 37) (v := .pt 101 3) rfl (og rfl (of_eff (s_field_pt rfl Tryz.underlying36 rfl ti34 rfl rfl rfl) rfl)) ?_
          refine rg_put (d := 38) (v := .d (.ag (eItv s.time))) rfl (og rfl (of_eff (s_load_pts rfl Tryz.underlying34 rfl ti34 rfl rfl rfl rfl) rfl)) ?_
          refine rg_put (d := 39) (v := .d (.fl (.bool (vl s.time)))) rfl (og rfl (op_call rfl Tryz.func48 nm48 rfl (.cons rfl (.d _) .nil) (vlR s.time) rfl)) ?_
          refine rg_put (d := 40) (v := .d (.fl (.bool ((!(vl s.time)))))) rfl (og rfl (op_un rfl rfl (u_not _) rfl)) ?_
          refine rg_done rfl ?_
          refine a_cond rfl (fun h11 => ?_) (fun h11 => ?_)
          · skip
            have h12 := t_not h11
            refine a_rseq ?_
            refine rg_put (d := 4) (v := .d (.fl (.int .i64 12))) rfl (og rfl (op_assign rfl rfl rfl)) ?_
            refine rg_done rfl ?_
            refine a_ret ?_
            show ∃ ds, ResL _ _ _ ds ∧ RV.of ds = _
            refine ⟨[.fl (.int .i64 12)], (.cons (.tmp rfl (.d _)) .nil), ?_⟩
            rw [show sck s l = 12 from by unfold sck; simp only [h1, h2, h3, h6, h8, h10, h11, h12, Bool.true_or, Bool.false_or, Bool.or_true, Bool.or_false, Bool.not_true, Bool.not_false, cond_true, cond_false, Bool.true_and, Bool.false_and, Bool.and_true, Bool.and_false] <;> rfl]; rfl
          · skip
            have h13 := f_not h11
            refine a_skip ?_
            show A _ _ _ _ _ _ _
            refine a_seq ?_
            refine a_dseq (by kernel_rfl) ?_
            refine dr_put (d := 41) (v := .pt 101 0) rfl (og rfl (of_eff (s_field_pt rfl Tryz.underlying36 rfl ti9 rfl rfl rfl) rfl)) ?_
            refine dr_put (d := 42) (v := .d (.fl (.string s.id))) rfl (og rfl (op_load_pt rfl Tryz.underlying9 rfl rfl rfl rfl rfl)) ?_
            refine dr_put (d := 43) (v := .d (.ag (eSty s))) rfl (og rfl (of_eff (s_load_pts rfl Tryz.underlying36 rfl ti36 rfl rfl rfl rfl) rfl)) ?_
            refine dr_put (d := 44) (v := .d (.fl (.string (idS s)))) rfl (og rfl (op_call rfl Tryz.func18 nm18 rfl (.cons rfl (.d _) .nil) (idR s hf hz hp) rfl)) ?_
            refine dr_put (d := 45) (v := .d (.fl (.bool ((!(sEq s.id (idS s))))))) rfl (og rfl (op_bin rfl rfl rfl (b_sne _ _ _) rfl)) ?_
            refine dr_done rfl (by kernel_rfl) (by kernel_rfl) ?_
            refine a_cond rfl (fun h14 => ?_) (fun h14 => ?_)
            · skip
              have h15 := t_not h14
              refine a_rseq ?_
              refine rg_put (d := 4) (v := .d (.fl (.int .i64 6))) rfl (og rfl (op_assign rfl rfl rfl)) ?_
              refine rg_done rfl ?_
              refine a_ret ?_
              show ∃ ds, ResL _ _ _ ds ∧ RV.of ds = _
              refine ⟨[.fl (.int .i64 6)], (.cons (.tmp rfl (.d _)) .nil), ?_⟩
              rw [show sck s l = 6 from by unfold sck; simp only [h1, h2, h3, h6, h8, h10, h11, h13, h14, h15, Bool.true_or, Bool.false_or, Bool.or_true, Bool.or_false, Bool.not_true, Bool.not_false, cond_true, cond_false, Bool.true_and, Bool.false_and, Bool.and_true, Bool.and_false] <;> rfl]; rfl
            · skip
              have h16 := f_not h14
              refine a_skip ?_
              show A _ _ _ _ _ _ _
              refine a_rseq ?_
              refine rg_put (d := 4) (v := .d (.fl (.int .i64 0))) rfl (og rfl (op_assign rfl rfl rfl)) ?_
              refine rg_done rfl ?_
              refine a_ret ?_
              show ∃ ds, ResL _ _ _ ds ∧ RV.of ds = _
              refine ⟨[.fl (.int .i64 0)], (.cons (.tmp rfl (.d _)) .nil), ?_⟩
              rw [show sck s l = 0 from by unfold sck; simp only [h1, h2, h3, h6, h8, h10, h11, h13, h14, h16, Bool.true_or, Bool.false_or, Bool.or_true, Bool.or_false, Bool.not_true, Bool.not_false, cond_true, cond_false, Bool.true_and, Bool.false_and, Bool.and_true, Bool.and_false] <;> rfl]; rfl
      · skip
        have h17 := t_bne h6
        refine rg_put (d := 32) (v := .d (.fl undef)) rfl (on rfl rfl rfl h6) ?_
        refine rg_put (d := 33) (v := .d (.fl undef)) rfl (on rfl rfl rfl h6) ?_
        refine rg_put (d := 34) (v := .d (.fl undef)) rfl (on rfl rfl rfl h6) ?_
        refine rg_put (d := 35) (v := .d (.fl undef)) rfl (on rfl rfl rfl h6) ?_
        refine rg_put (d := 36) (v := .d (.fl (.bool true))) rfl (og rfl (op_pick rfl rfl (by rw [h6]; rfl) rfl)) ?_
        refine rg_done rfl ?_
        refine a_condK rfl rfl ?_
        refine a_rseq ?_
        refine rg_put (d := 4) (v := .d (.fl (.int .i64 19))) rfl (og rfl (op_assign rfl rfl rfl)) ?_
        refine rg_done rfl ?_
        refine a_ret ?_
        show ∃ ds, ResL _ _ _ ds ∧ RV.of ds = _
        refine ⟨[.fl (.int .i64 19)], (.cons (.tmp rfl (.d _)) .nil), ?_⟩
        rw [show sck s l = 19 from by unfold sck; simp only [h1, h2, h3, h6, Bool.true_or, Bool.false_or, Bool.or_true, Bool.or_false, Bool.not_true, Bool.not_false, cond_true, cond_false, Bool.true_and, Bool.false_and, Bool.and_true, Bool.and_false] <;> rfl]; rfl
  · skip
    have h18 := t_not h1
    refine rg_put (d := 19) (v := .d (.fl undef)) rfl (on rfl rfl rfl h1) ?_
    refine rg_put (d := 20) (v := .d (.fl undef)) rfl (on rfl rfl rfl h1) ?_
    refine rg_put (d := 21) (v := .d (.fl undef)) rfl (on rfl rfl rfl h1) ?_
    refine rg_put (d := 22) (v := .d (.fl (.bool true))) rfl (og rfl (op_pick rfl rfl (by rw [h1]; rfl) rfl)) ?_
    refine rg_done rfl ?_
    refine a_condK rfl rfl ?_
    refine a_rseq ?_
    refine rg_put (d := 4) (v := .d (.fl (.int .i64 23))) rfl (og rfl (op_assign rfl rfl rfl)) ?_
    refine rg_done rfl ?_
    refine a_ret ?_
    show ∃ ds, ResL _ _ _ ds ∧ RV.of ds = _
    refine ⟨[.fl (.int .i64 23)], (.cons (.tmp rfl (.d _)) .nil), ?_⟩
    rw [show sck s l = 23 from by unfold sck; simp only [h1, h18, Bool.true_or, Bool.false_or, Bool.or_true, Bool.or_false, Bool.not_true, Bool.not_false, cond_true, cond_false, Bool.true_and, Bool.false_and, Bool.and_true, Bool.and_false] <;> rfl]; rfl
set_option maxHeartbeats 4000000 in
set_option maxRecDepth 100000 in
theorem shC (s : Sty) : Ctr Tryz.prog 12 [.ag (eSty s)] (.d (.fl (.bool (shB s)))) := by
  refine ctr (n := 19) (rs := #[.tmp 2]) (L := [(0, .d (.ag (eSty s)))]) Tryz.func12 rfl rfl rfl rfl rfl (fun w0 U0 => ?_)
  refine a_rseq ?_
  refine rg_nam (d := 1) (v := .pt 101 0) (m := 101) (nw := [(101, .bx 36 (eSty s))]) rfl (og rfl (of_eff (op_box 101 rfl rfl rfl rfl) rfl)) rfl ?_
  refine rg_put (d := 2) (v := .d (.fl (.bool false))) rfl (og rfl (op_assign rfl rfl rfl)) ?_
  refine rg_done rfl ?_
  refine a_rseq ?_
  refine rg_put (d := 3) (v := .pt 101 0) rfl (og rfl (of_eff (s_field_pt rfl Tryz.underlying36 rfl ti9 rfl rfl rfl) rfl)) ?_
  refine rg_put (d := 4) (v := .d (.fl (.string s.id))) rfl (og rfl (op_load_pt rfl Tryz.underlying9 rfl rfl rfl rfl rfl)) ?_
  refine rg_put (d := 5) (v := .d (.fl (.int .i64 (s.id.size : Int)))) rfl (og rfl (op_len_str rfl Tryz.underlying9 rfl rfl)) ?_
  refine rg_put (d := 6) (v := .d (.fl (.bool ((decide ((s.id.size : Int) ≤ 200)))))) rfl (og rfl (op_bin rfl rfl rfl (b_leq _ _ _ _) rfl)) ?_
  refine rg_put (d := 7) (v := .d (.fl (.bool ((decide ((s.id.size : Int) ≤ 200)))))) rfl (og rfl (op_move rfl rfl rfl)) ?_
  rcases fot ((decide ((s.id.size : Int) ≤ 200))) with h1 | h1
  · skip
    have h2 := f_dec h1
    refine rg_put (d := 8) (v := .d (.fl undef)) rfl (on rfl rfl rfl h1) ?_
    refine rg_put (d := 9) (v := .d (.fl undef)) rfl (on rfl rfl rfl h1) ?_
    refine rg_put (d := 10) (v := .d (.fl undef)) rfl (on rfl rfl rfl h1) ?_
    refine rg_put (d := 11) (v := .d (.fl undef)) rfl (on rfl rfl rfl h1) ?_
    refine rg_put (d := 12) (v := .d (.fl (.bool false))) rfl (og rfl (op_pick rfl rfl (by rw [h1]; rfl) rfl)) ?_
    refine rg_put (d := 13) (v := .d (.fl (.bool false))) rfl (og rfl (op_move rfl rfl rfl)) ?_
    refine rg_put (d := 14) (v := .d (.fl undef)) rfl (on rfl rfl rfl rfl) ?_
    refine rg_put (d := 15) (v := .d (.fl undef)) rfl (on rfl rfl rfl rfl) ?_
    refine rg_put (d := 16) (v := .d (.fl undef)) rfl (on rfl rfl rfl rfl) ?_
    refine rg_put (d := 17) (v := .d (.fl undef)) rfl (on rfl rfl rfl rfl) ?_
    refine rg_put (d := 18) (v := .d (.fl (.bool false))) rfl (og rfl (op_pick rfl rfl rfl rfl)) ?_
    refine rg_put (d := 2) (v := .d (.fl (.bool false))) rfl (og rfl (op_assign rfl rfl rfl)) ?_
    refine rg_done rfl ?_
    refine a_ret ?_
    show ∃ ds, ResL _ _ _ ds ∧ RV.of ds = _
    refine ⟨[.fl (.bool false)], (.cons (.tmp rfl (.d _)) .nil), ?_⟩
    first
      | (have hu : shB s = false := by
          unfold shB; simp only [h1, Bool.true_or, Bool.false_or, Bool.or_true, Bool.or_false, Bool.not_true, Bool.not_false, cond_true, cond_false, Bool.true_and, Bool.false_and, Bool.and_true, Bool.and_false] <;> rfl
         rw [hu]; rfl)
      | (exfalso; omega)
  · skip
    have h3 := t_dec h1
    refine rg_put (d := 8) (v := .pt 101 1) rfl (oy rfl rfl rfl h1 (of_eff (s_field_pt rfl Tryz.underlying36 rfl ti9 rfl rfl rfl) rfl)) ?_
    refine rg_put (d := 9) (v := .d (.fl (.string s.zone))) rfl (oy rfl rfl rfl h1 (op_load_pt rfl Tryz.underlying9 rfl rfl rfl rfl rfl)) ?_
    refine rg_put (d := 10) (v := .d (.fl (.int .i64 (s.zone.size : Int)))) rfl (oy rfl rfl rfl h1 (op_len_str rfl Tryz.underlying9 rfl rfl)) ?_
    refine rg_put (d := 11) (v := .d (.fl (.bool ((decide ((s.zone.size : Int) ≤ 40)))))) rfl (oy rfl rfl rfl h1 (op_bin rfl rfl rfl (b_leq _ _ _ _) rfl)) ?_
    refine rg_put (d := 12) (v := .d (.fl (.bool ((decide ((s.zone.size : Int) ≤ 40)))))) rfl (og rfl (op_pick rfl rfl (by rw [h1]; rfl) rfl)) ?_
    refine rg_put (d := 13) (v := .d (.fl (.bool ((decide ((s.zone.size : Int) ≤ 40)))))) rfl (og rfl (op_move rfl rfl rfl)) ?_
    rcases fot ((decide ((s.zone.size : Int) ≤ 40))) with h4 | h4
    · skip
      have h5 := f_dec h4
      refine rg_put (d := 14) (v := .d (.fl undef)) rfl (on rfl rfl rfl h4) ?_
      refine rg_put (d := 15) (v := .d (.fl undef)) rfl (on rfl rfl rfl h4) ?_
      refine rg_put (d := 16) (v := .d (.fl undef)) rfl (on rfl rfl rfl h4) ?_
      refine rg_put (d := 17) (v := .d (.fl undef)) rfl (on rfl rfl rfl h4) ?_
      refine rg_put (d := 18) (v := .d (.fl (.bool false))) rfl (og rfl (op_pick rfl rfl (by rw [h4]; rfl) rfl)) ?_
      refine rg_put (d := 2) (v := .d (.fl (.bool false))) rfl (og rfl (op_assign rfl rfl rfl)) ?_
      refine rg_done rfl ?_
      refine a_ret ?_
      show ∃ ds, ResL _ _ _ ds ∧ RV.of ds = _
      refine ⟨[.fl (.bool false)], (.cons (.tmp rfl (.d _)) .nil), ?_⟩
      first
        | (have hu : shB s = false := by
            unfold shB; simp only [h1, h4, Bool.true_or, Bool.false_or, Bool.or_true, Bool.or_false, Bool.not_true, Bool.not_false, cond_true, cond_false, Bool.true_and, Bool.false_and, Bool.and_true, Bool.and_false] <;> rfl
           rw [hu]; rfl)
        | (exfalso; omega)
    · skip
      have h6 := t_dec h4
      refine rg_put (d := 14) (v := .pt 101 2) rfl (oy rfl rfl rfl h4 (of_eff (s_field_pt rfl Tryz.underlying36 rfl ti9 rfl rfl rfl) rfl)) ?_
      refine rg_put (d := 15) (v := .d (.fl (.string s.plate))) rfl (oy rfl rfl rfl h4 (op_load_pt rfl Tryz.underlying9 rfl rfl rfl rfl rfl)) ?_
      refine rg_put (d := 16) (v := .d (.fl (.int .i64 (s.plate.size : Int)))) rfl (oy rfl rfl rfl h4 (op_len_str rfl Tryz.underlying9 rfl rfl)) ?_
      refine rg_put (d := 17) (v := .d (.fl (.bool ((decide ((s.plate.size : Int) ≤ 40)))))) rfl (oy rfl rfl rfl h4 (op_bin rfl rfl rfl (b_leq _ _ _ _) rfl)) ?_
      refine rg_put (d := 18) (v := .d (.fl (.bool ((decide ((s.plate.size : Int) ≤ 40)))))) rfl (og rfl (op_pick rfl rfl (by rw [h4]; rfl) rfl)) ?_
      refine rg_put (d := 2) (v := .d (.fl (.bool ((decide ((s.plate.size : Int) ≤ 40)))))) rfl (og rfl (op_assign rfl rfl rfl)) ?_
      refine rg_done rfl ?_
      refine a_ret ?_
      show ∃ ds, ResL _ _ _ ds ∧ RV.of ds = _
      refine ⟨[.fl (.bool ((decide ((s.plate.size : Int) ≤ 40))))], (.cons (.tmp rfl (.d _)) .nil), ?_⟩
      first
        | (have hu : shB s = (decide ((s.plate.size : Int) ≤ 40)) := by
            unfold shB; simp only [h1, h4, Bool.true_or, Bool.false_or, Bool.or_true, Bool.or_false, Bool.not_true, Bool.not_false, cond_true, cond_false, Bool.true_and, Bool.false_and, Bool.and_true, Bool.and_false] <;> rfl
           rw [hu]; rfl)
        | (exfalso; omega)
set_option maxHeartbeats 4000000 in
set_option maxRecDepth 100000 in
theorem smC (c : Clm) (hl9 : c.zones.length ≤ 9223372036854775807) (hse : c.sess.length = 0) (hpe : c.perms.length = 0) : Ctr Tryz.prog 13 [.ag (eClm c)] (.d (.fl (.bool (smB c.zones)))) := by
  refine ctr (n := 140) (rs := #[.tmp 2]) (L := [(0, .d (.ag (eClm c)))]) Tryz.func13 rfl rfl rfl rfl rfl (fun w0 U0 => ?_)
  refine a_rseq ?_
  refine rg_nam (d := 1) (v := .pt 101 0) (m := 101) (nw := [(101, .bx 42 (eClm c))]) rfl (og rfl (of_eff (op_box 101 rfl rfl rfl rfl) rfl)) rfl ?_
  refine rg_put (d := 2) (v := .d (.fl (.bool false))) rfl (og rfl (op_assign rfl rfl rfl)) ?_
  refine rg_done rfl ?_
  refine a_seq ?_
  refine a_rseq ?_
  refine rg_put (d := 3) (v := .d (.fl (.int .i64 0))) rfl (og rfl (op_assign rfl rfl rfl)) ?_
  refine rg_done rfl ?_
  refine a_block ?_
  refine a_loop (ι := Nat) (fun k => SS [(0, .d (.ag (eClm c))), (1, .pt 101 0), (3, .d (.fl (.int .i64 (k : Int))))] [(101, .bx 42 (eClm c))]) (fun k => k ≤ c.zones.length ∧ ∀ q, q < k → (zb (ix c.zones q)) = false) (fun k => c.zones.length - k) 0 (⟨by omega, fun q h => by omega⟩) (imp_forget rfl ⟨rfl, rfl, (by first | rfl | exact ci (by omega) | exact ci (by simp) | exact cd (by simp) | simp), trivial⟩ ⟨rfl, trivial⟩) (fun k hok => ?_)
  obtain ⟨hkk, hq⟩ := hok
  refine a_seq ?_
  refine a_rseq ?_
  refine rg_put (d := 7) (v := .d (.fl (.int .i64 (k : Int)))) rfl (og rfl (op_move rfl rfl rfl)) ?_
  refine rg_put (d := 8) (v := .pt 101 0) rfl (og rfl (of_eff (s_field_pt rfl Tryz.underlying42 rfl ti24 rfl rfl rfl) rfl)) ?_
  refine rg_put (d := 9) (v := .d (.sl 7 (List.map eZn c.zones))) rfl (og rfl (op_load_pt rfl Tryz.underlying24 rfl rfl rfl rfl rfl)) ?_
  refine rg_put (d := 10) (v := .d (.fl (.int .i64 (c.zones.length : Int)))) rfl (og rfl (s_len rfl Tryz.underlying24 rfl rfl)) ?_
  refine rg_put (d := 11) (v := .d (.fl (.bool ((decide ((k : Int) < (c.zones.length : Int))))))) rfl (og rfl (op_bin rfl rfl rfl (b_lss _ _ _ _) rfl)) ?_
  refine rg_done rfl ?_
  refine a_cond rfl (fun h1 => ?_) (fun h1 => ?_)
  · skip
    have h2 := t_dec h1
    refine a_skip ?_
    show A _ _ _ _ _ _ _
    refine a_seq ?_
    refine a_block ?_
    refine a_rseq ?_
    refine rg_put (d := 14) (v := .pt 101 0) rfl (og rfl (of_eff (s_field_pt rfl Tryz.underlying42 rfl ti24 rfl rfl rfl) rfl)) ?_
    refine rg_put (d := 15) (v := .d (.sl 7 (List.map eZn c.zones))) rfl (og rfl (op_load_pt rfl Tryz.underlying24 rfl rfl rfl rfl rfl)) ?_
    refine rg_put (d := 16) (v := .d (.fl (.int .i64 (k : Int)))) rfl (og rfl (op_move rfl rfl rfl)) ?_
    refine rg_put (d := 17) (v := .el ((eZn (ix c.zones k)))) rfl (og rfl (s_index rfl Tryz.underlying24 ti50 rfl rfl (by omega) (row_at (by omega)) rfl)) ?_
    refine rg_put (d := 18) (v := .el ((List.drop 0 ((eZn (ix c.zones k)))))) rfl (og rfl (of_eff (s_field_el rfl Tryz.underlying50 rfl ti9 rfl rfl rfl) rfl)) ?_
    refine rg_put (d := 19) (v := .d (.fl (.string ((ix c.zones k).name)))) rfl (og rfl (op_load_el rfl Tryz.underlying9 rfl rfl rfl rfl)) ?_
    refine rg_put (d := 20) (v := .d (.fl (.int .i64 ((((ix c.zones k).name).size : Int))))) rfl (og rfl (op_len_str rfl Tryz.underlying9 rfl rfl)) ?_
    refine rg_put (d := 21) (v := .d (.fl (.bool ((decide (40 < (((ix c.zones k).name).size : Int))))))) rfl (og rfl (op_bin rfl rfl rfl (b_gtr _ _ _ _) rfl)) ?_
    refine rg_put (d := 22) (v := .d (.fl (.bool ((decide (40 < (((ix c.zones k).name).size : Int))))))) rfl (og rfl (op_move rfl rfl rfl)) ?_
    rcases fot ((decide (40 < (((ix c.zones k).name).size : Int)))) with h3 | h3
    · skip
      have h4 := f_dec h3
      refine rg_put (d := 23) (v := .pt 101 0) rfl (oy rfl rfl rfl h3 (of_eff (s_field_pt rfl Tryz.underlying42 rfl ti24 rfl rfl rfl) rfl)) ?_
      refine rg_put (d := 24) (v := .d (.sl 7 (List.map eZn c.zones))) rfl (oy rfl rfl rfl h3 (op_load_pt rfl Tryz.underlying24 rfl rfl rfl rfl rfl)) ?_
      refine rg_put (d := 25) (v := .d (.fl (.int .i64 (k : Int)))) rfl (oy rfl rfl rfl h3 (op_move rfl rfl rfl)) ?_
      refine rg_put (d := 26) (v := .el ((eZn (ix c.zones k)))) rfl (oy rfl rfl rfl h3 (s_index rfl Tryz.underlying24 ti50 rfl rfl (by omega) (row_at (by omega)) rfl)) ?_
      refine rg_put (d := 27) (v := .el ((List.drop 1 ((eZn (ix c.zones k)))))) rfl (oy rfl rfl rfl h3 (of_eff (s_field_el rfl Tryz.underlying50 rfl ti47 rfl rfl rfl) rfl)) ?_
      refine rg_put (d := 28) (v := .d (.sl 3 (List.map eWd ((ix c.zones k).hours)))) rfl (oy rfl rfl rfl h3 (op_load_el rfl Tryz.underlying47 rfl rfl rfl rfl)) ?_
      refine rg_put (d := 29) (v := .d (.fl (.int .i64 ((((ix c.zones k).hours).length : Int))))) rfl (oy rfl rfl rfl h3 (s_len rfl Tryz.underlying47 rfl rfl)) ?_
      refine rg_put (d := 30) (v := .d (.fl (.bool ((decide (8 < (((ix c.zones k).hours).length : Int))))))) rfl (oy rfl rfl rfl h3 (op_bin rfl rfl rfl (b_gtr _ _ _ _) rfl)) ?_
      refine rg_put (d := 31) (v := .d (.fl (.bool ((decide (8 < (((ix c.zones k).hours).length : Int))))))) rfl (og rfl (op_pick rfl rfl (by rw [h3]; rfl) rfl)) ?_
      refine rg_put (d := 32) (v := .d (.fl (.bool ((decide (8 < (((ix c.zones k).hours).length : Int))))))) rfl (og rfl (op_move rfl rfl rfl)) ?_
      rcases fot ((decide (8 < (((ix c.zones k).hours).length : Int)))) with h5 | h5
      · skip
        have h6 := f_dec h5
        refine rg_put (d := 33) (v := .pt 101 0) rfl (oy rfl rfl rfl h5 (of_eff (s_field_pt rfl Tryz.underlying42 rfl ti24 rfl rfl rfl) rfl)) ?_
        refine rg_put (d := 34) (v := .d (.sl 7 (List.map eZn c.zones))) rfl (oy rfl rfl rfl h5 (op_load_pt rfl Tryz.underlying24 rfl rfl rfl rfl rfl)) ?_
        refine rg_put (d := 35) (v := .d (.fl (.int .i64 (k : Int)))) rfl (oy rfl rfl rfl h5 (op_move rfl rfl rfl)) ?_
        refine rg_put (d := 36) (v := .el ((eZn (ix c.zones k)))) rfl (oy rfl rfl rfl h5 (s_index rfl Tryz.underlying24 ti50 rfl rfl (by omega) (row_at (by omega)) rfl)) ?_
        refine rg_put (d := 37) (v := .el ((List.drop 2 ((eZn (ix c.zones k)))))) rfl (oy rfl rfl rfl h5 (of_eff (s_field_el rfl Tryz.underlying50 rfl ti48 rfl rfl rfl) rfl)) ?_
        refine rg_put (d := 38) (v := .d (.sl 3 (List.map eStp ((ix c.zones k).steps)))) rfl (oy rfl rfl rfl h5 (op_load_el rfl Tryz.underlying48 rfl rfl rfl rfl)) ?_
        refine rg_put (d := 39) (v := .d (.fl (.int .i64 ((((ix c.zones k).steps).length : Int))))) rfl (oy rfl rfl rfl h5 (s_len rfl Tryz.underlying48 rfl rfl)) ?_
        refine rg_put (d := 40) (v := .d (.fl (.bool ((decide (8 < (((ix c.zones k).steps).length : Int))))))) rfl (oy rfl rfl rfl h5 (op_bin rfl rfl rfl (b_gtr _ _ _ _) rfl)) ?_
        refine rg_put (d := 41) (v := .d (.fl (.bool ((decide (8 < (((ix c.zones k).steps).length : Int))))))) rfl (og rfl (op_pick rfl rfl (by rw [h5]; rfl) rfl)) ?_
        refine rg_done rfl ?_
        refine a_cond rfl (fun h7 => ?_) (fun h7 => ?_)
        · skip
          have h8 := t_dec h7
          refine a_rseq ?_
          refine rg_put (d := 2) (v := .d (.fl (.bool false))) rfl (og rfl (op_assign rfl rfl rfl)) ?_
          refine rg_done rfl ?_
          refine a_ret ?_
          show ∃ ds, ResL _ _ _ ds ∧ RV.of ds = _
          refine ⟨[.fl (.bool false)], (.cons (.tmp rfl (.d _)) .nil), ?_⟩
          have hx : zb (ix c.zones k) = true := by unfold zb; simp only [h1, h3, h5, h7, Bool.true_or, Bool.false_or, Bool.or_true, Bool.or_false, Bool.not_true, Bool.not_false, cond_true, cond_false, Bool.true_and, Bool.false_and, Bool.and_true, Bool.and_false] <;> rfl
          rw [show smB c.zones = false from by unfold smB; rw [all_no (p := fun z : Zn => !(zb z)) (k := k) (by omega) (by rw [hx]; rfl)]; rfl]; rfl
        · skip
          have h9 := f_dec h7
          refine a_skip ?_
          show A _ _ _ _ _ _ _
          refine a_region ?_
          refine rg_put (d := 12) (v := .d (.fl (.int .i64 (k : Int)))) rfl (og rfl (op_move rfl rfl rfl)) ?_
          refine rg_put (d := 13) (v := .d (.fl (.int .i64 (((k : Int) + 1))))) rfl (og rfl (op_bin rfl rfl rfl (fun x y w => b_add64 _ _ _ x y w (by omega)) rfl)) ?_
          refine rg_put (d := 3) (v := .d (.fl (.int .i64 (((k : Int) + 1))))) rfl (og rfl (op_assign rfl rfl rfl)) ?_
          refine rg_done rfl ?_
          have hx : zb (ix c.zones k) = false := by unfold zb; simp only [h1, h3, h5, h7, Bool.true_or, Bool.false_or, Bool.or_true, Bool.or_false, Bool.not_true, Bool.not_false, cond_true, cond_false, Bool.true_and, Bool.false_and, Bool.and_true, Bool.and_false] <;> rfl
          show ∃ i, _ ∧ _ ∧ Imp _ _ _ _ _
          refine ⟨k + 1, ⟨by omega, fun q h => (Nat.lt_succ_iff_lt_or_eq.1 h).elim (hq q) (fun e => by rw [e]; exact hx)⟩, by omega, imp_forget rfl ⟨rfl, rfl, (by first | rfl | exact ci (by omega) | exact ci (by simp) | exact cd (by simp) | simp), trivial⟩ ⟨rfl, trivial⟩⟩
      · skip
        have h10 := t_dec h5
        refine rg_put (d := 33) (v := .d (.fl undef)) rfl (on rfl rfl rfl h5) ?_
        refine rg_put (d := 34) (v := .d (.fl undef)) rfl (on rfl rfl rfl h5) ?_
        refine rg_put (d := 35) (v := .d (.fl undef)) rfl (on rfl rfl rfl h5) ?_
        refine rg_put (d := 36) (v := .d (.fl undef)) rfl (on rfl rfl rfl h5) ?_
        refine rg_put (d := 37) (v := .d (.fl undef)) rfl (on rfl rfl rfl h5) ?_
        refine rg_put (d := 38) (v := .d (.fl undef)) rfl (on rfl rfl rfl h5) ?_
        refine rg_put (d := 39) (v := .d (.fl undef)) rfl (on rfl rfl rfl h5) ?_
        refine rg_put (d := 40) (v := .d (.fl undef)) rfl (on rfl rfl rfl h5) ?_
        refine rg_put (d := 41) (v := .d (.fl (.bool true))) rfl (og rfl (op_pick rfl rfl (by rw [h5]; rfl) rfl)) ?_
        refine rg_done rfl ?_
        refine a_condK rfl rfl ?_
        refine a_rseq ?_
        refine rg_put (d := 2) (v := .d (.fl (.bool false))) rfl (og rfl (op_assign rfl rfl rfl)) ?_
        refine rg_done rfl ?_
        refine a_ret ?_
        show ∃ ds, ResL _ _ _ ds ∧ RV.of ds = _
        refine ⟨[.fl (.bool false)], (.cons (.tmp rfl (.d _)) .nil), ?_⟩
        have hx : zb (ix c.zones k) = true := by unfold zb; simp only [h1, h3, h5, Bool.true_or, Bool.false_or, Bool.or_true, Bool.or_false, Bool.not_true, Bool.not_false, cond_true, cond_false, Bool.true_and, Bool.false_and, Bool.and_true, Bool.and_false] <;> rfl
        rw [show smB c.zones = false from by unfold smB; rw [all_no (p := fun z : Zn => !(zb z)) (k := k) (by omega) (by rw [hx]; rfl)]; rfl]; rfl
    · skip
      have h11 := t_dec h3
      refine rg_put (d := 23) (v := .d (.fl undef)) rfl (on rfl rfl rfl h3) ?_
      refine rg_put (d := 24) (v := .d (.fl undef)) rfl (on rfl rfl rfl h3) ?_
      refine rg_put (d := 25) (v := .d (.fl undef)) rfl (on rfl rfl rfl h3) ?_
      refine rg_put (d := 26) (v := .d (.fl undef)) rfl (on rfl rfl rfl h3) ?_
      refine rg_put (d := 27) (v := .d (.fl undef)) rfl (on rfl rfl rfl h3) ?_
      refine rg_put (d := 28) (v := .d (.fl undef)) rfl (on rfl rfl rfl h3) ?_
      refine rg_put (d := 29) (v := .d (.fl undef)) rfl (on rfl rfl rfl h3) ?_
      refine rg_put (d := 30) (v := .d (.fl undef)) rfl (on rfl rfl rfl h3) ?_
      refine rg_put (d := 31) (v := .d (.fl (.bool true))) rfl (og rfl (op_pick rfl rfl (by rw [h3]; rfl) rfl)) ?_
      refine rg_put (d := 32) (v := .d (.fl (.bool true))) rfl (og rfl (op_move rfl rfl rfl)) ?_
      refine rg_put (d := 33) (v := .d (.fl undef)) rfl (on rfl rfl rfl rfl) ?_
      refine rg_put (d := 34) (v := .d (.fl undef)) rfl (on rfl rfl rfl rfl) ?_
      refine rg_put (d := 35) (v := .d (.fl undef)) rfl (on rfl rfl rfl rfl) ?_
      refine rg_put (d := 36) (v := .d (.fl undef)) rfl (on rfl rfl rfl rfl) ?_
      refine rg_put (d := 37) (v := .d (.fl undef)) rfl (on rfl rfl rfl rfl) ?_
      refine rg_put (d := 38) (v := .d (.fl undef)) rfl (on rfl rfl rfl rfl) ?_
      refine rg_put (d := 39) (v := .d (.fl undef)) rfl (on rfl rfl rfl rfl) ?_
      refine rg_put (d := 40) (v := .d (.fl undef)) rfl (on rfl rfl rfl rfl) ?_
      refine rg_put (d := 41) (v := .d (.fl (.bool true))) rfl (og rfl (op_pick rfl rfl rfl rfl)) ?_
      refine rg_done rfl ?_
      refine a_condK rfl rfl ?_
      refine a_rseq ?_
      refine rg_put (d := 2) (v := .d (.fl (.bool false))) rfl (og rfl (op_assign rfl rfl rfl)) ?_
      refine rg_done rfl ?_
      refine a_ret ?_
      show ∃ ds, ResL _ _ _ ds ∧ RV.of ds = _
      refine ⟨[.fl (.bool false)], (.cons (.tmp rfl (.d _)) .nil), ?_⟩
      have hx : zb (ix c.zones k) = true := by unfold zb; simp only [h1, h3, Bool.true_or, Bool.false_or, Bool.or_true, Bool.or_false, Bool.not_true, Bool.not_false, cond_true, cond_false, Bool.true_and, Bool.false_and, Bool.and_true, Bool.and_false] <;> rfl
      rw [show smB c.zones = false from by unfold smB; rw [all_no (p := fun z : Zn => !(zb z)) (k := k) (by omega) (by rw [hx]; rfl)]; rfl]; rfl
  · skip
    have h12 := f_dec h1
    refine a_exit ?_
    show A _ _ _ _ _ _ _
    refine a_seq ?_
    refine a_rseq ?_
    refine rg_put (d := 4) (v := .d (.fl (.int .i64 0))) rfl (og rfl (op_assign rfl rfl rfl)) ?_
    refine rg_done rfl ?_
    refine a_block ?_
    refine a_loop (ι := Nat) (fun j => SS [(0, .d (.ag (eClm c))), (1, .pt 101 0), (3, .d (.fl (.int .i64 (k : Int)))), (11, .d (.fl (.bool ((decide ((k : Int) < (c.zones.length : Int))))))), (4, .d (.fl (.int .i64 (j : Int))))] [(101, .bx 42 (eClm c))]) (fun j => j ≤ c.sess.length) (fun j => c.sess.length - j) 0 (by omega) (imp_forget rfl ⟨rfl, rfl, rfl, rfl, (by first | rfl | exact ci (by omega) | exact ci (by simp) | exact cd (by simp) | simp), trivial⟩ ⟨rfl, trivial⟩) (fun j hok => ?_)
    have hkj := hok
    refine a_seq ?_
    refine a_rseq ?_
    refine rg_put (d := 42) (v := .d (.fl (.int .i64 (j : Int)))) rfl (og rfl (op_move rfl rfl rfl)) ?_
    refine rg_put (d := 43) (v := .pt 101 1) rfl (og rfl (of_eff (s_field_pt rfl Tryz.underlying42 rfl ti39 rfl rfl rfl) rfl)) ?_
    refine rg_put (d := 44) (v := .d (.sl 7 (List.map eSes c.sess))) rfl (og rfl (op_load_pt rfl Tryz.underlying39 rfl rfl rfl rfl rfl)) ?_
    refine rg_put (d := 45) (v := .d (.fl (.int .i64 (c.sess.length : Int)))) rfl (og rfl (s_len rfl Tryz.underlying39 rfl rfl)) ?_
    refine rg_put (d := 46) (v := .d (.fl (.bool ((decide ((j : Int) < (c.sess.length : Int))))))) rfl (og rfl (op_bin rfl rfl rfl (b_lss _ _ _ _) rfl)) ?_
    refine rg_done rfl ?_
    refine a_condF rfl (decide_eq_false (by omega)) ?_
    refine a_exit ?_
    show A _ _ _ _ _ _ _
    refine a_seq ?_
    refine a_rseq ?_
    refine rg_put (d := 5) (v := .d (.fl (.int .i64 0))) rfl (og rfl (op_assign rfl rfl rfl)) ?_
    refine rg_done rfl ?_
    refine a_block ?_
    refine a_loop (ι := Nat) (fun m => SS [(0, .d (.ag (eClm c))), (1, .pt 101 0), (3, .d (.fl (.int .i64 (k : Int)))), (4, .d (.fl (.int .i64 (j : Int)))), (11, .d (.fl (.bool ((decide ((k : Int) < (c.zones.length : Int))))))), (46, .d (.fl (.bool ((decide ((j : Int) < (c.sess.length : Int))))))), (5, .d (.fl (.int .i64 (m : Int))))] [(101, .bx 42 (eClm c))]) (fun m => m ≤ c.perms.length) (fun m => c.perms.length - m) 0 (by omega) (imp_forget rfl ⟨rfl, rfl, rfl, rfl, rfl, rfl, (by first | rfl | exact ci (by omega) | exact ci (by simp) | exact cd (by simp) | simp), trivial⟩ ⟨rfl, trivial⟩) (fun m hok => ?_)
    have hkm := hok
    refine a_seq ?_
    refine a_rseq ?_
    refine rg_put (d := 67) (v := .d (.fl (.int .i64 (m : Int)))) rfl (og rfl (op_move rfl rfl rfl)) ?_
    refine rg_put (d := 68) (v := .pt 101 2) rfl (og rfl (of_eff (s_field_pt rfl Tryz.underlying42 rfl ti40 rfl rfl rfl) rfl)) ?_
    refine rg_put (d := 69) (v := .d (.sl 7 (List.map ePrm c.perms))) rfl (og rfl (op_load_pt rfl Tryz.underlying40 rfl rfl rfl rfl rfl)) ?_
    refine rg_put (d := 70) (v := .d (.fl (.int .i64 (c.perms.length : Int)))) rfl (og rfl (s_len rfl Tryz.underlying40 rfl rfl)) ?_
    refine rg_put (d := 71) (v := .d (.fl (.bool ((decide ((m : Int) < (c.perms.length : Int))))))) rfl (og rfl (op_bin rfl rfl rfl (b_lss _ _ _ _) rfl)) ?_
    refine rg_done rfl ?_
    refine a_condF rfl (decide_eq_false (by omega)) ?_
    refine a_exit ?_
    show A _ _ _ _ _ _ _
    refine a_rseq ?_
    refine rg_put (d := 124) (v := .pt 101 0) rfl (og rfl (of_eff (s_field_pt rfl Tryz.underlying42 rfl ti24 rfl rfl rfl) rfl)) ?_
    refine rg_put (d := 125) (v := .d (.sl 7 (List.map eZn c.zones))) rfl (og rfl (op_load_pt rfl Tryz.underlying24 rfl rfl rfl rfl rfl)) ?_
    refine rg_put (d := 126) (v := .d (.fl (.int .i64 (c.zones.length : Int)))) rfl (og rfl (s_len rfl Tryz.underlying24 rfl rfl)) ?_
    refine rg_put (d := 127) (v := .d (.fl (.bool ((decide ((c.zones.length : Int) ≤ 8)))))) rfl (og rfl (op_bin rfl rfl rfl (b_leq _ _ _ _) rfl)) ?_
    refine rg_put (d := 128) (v := .d (.fl (.bool ((decide ((c.zones.length : Int) ≤ 8)))))) rfl (og rfl (op_move rfl rfl rfl)) ?_
    rcases fot ((decide ((c.zones.length : Int) ≤ 8))) with h13 | h13
    · skip
      have h14 := f_dec h13
      refine rg_put (d := 129) (v := .d (.fl undef)) rfl (on rfl rfl rfl h13) ?_
      refine rg_put (d := 130) (v := .d (.fl undef)) rfl (on rfl rfl rfl h13) ?_
      refine rg_put (d := 131) (v := .d (.fl undef)) rfl (on rfl rfl rfl h13) ?_
      refine rg_put (d := 132) (v := .d (.fl undef)) rfl (on rfl rfl rfl h13) ?_
      refine rg_put (d := 133) (v := .d (.fl (.bool false))) rfl (og rfl (op_pick rfl rfl (by rw [h13]; rfl) rfl)) ?_
      refine rg_put (d := 134) (v := .d (.fl (.bool false))) rfl (og rfl (op_move rfl rfl rfl)) ?_
      refine rg_put (d := 135) (v := .d (.fl undef)) rfl (on rfl rfl rfl rfl) ?_
      refine rg_put (d := 136) (v := .d (.fl undef)) rfl (on rfl rfl rfl rfl) ?_
      refine rg_put (d := 137) (v := .d (.fl undef)) rfl (on rfl rfl rfl rfl) ?_
      refine rg_put (d := 138) (v := .d (.fl undef)) rfl (on rfl rfl rfl rfl) ?_
      refine rg_put (d := 139) (v := .d (.fl (.bool false))) rfl (og rfl (op_pick rfl rfl rfl rfl)) ?_
      refine rg_put (d := 2) (v := .d (.fl (.bool false))) rfl (og rfl (op_assign rfl rfl rfl)) ?_
      refine rg_done rfl ?_
      refine a_ret ?_
      show ∃ ds, ResL _ _ _ ds ∧ RV.of ds = _
      refine ⟨[.fl (.bool false)], (.cons (.tmp rfl (.d _)) .nil), ?_⟩
      rw [show smB c.zones = decide ((c.zones.length : Int) ≤ 8) from by unfold smB; rw [all_yes (p := fun z : Zn => !(zb z)) (fun q h => by rw [hq q (by omega)]; rfl)]; rfl]
      have hpp : decide ((c.perms.length : Int) ≤ 8) = true := decide_eq_true (by omega)
      first | rfl | (simp only [hpp, h1, h13, Bool.true_or, Bool.false_or, Bool.or_true, Bool.or_false, Bool.not_true, Bool.not_false, cond_true, cond_false, Bool.true_and, Bool.false_and, Bool.and_true, Bool.and_false] <;> rfl)
    · skip
      have h15 := t_dec h13
      refine rg_put (d := 129) (v := .pt 101 1) rfl (oy rfl rfl rfl h13 (of_eff (s_field_pt rfl Tryz.underlying42 rfl ti39 rfl rfl rfl) rfl)) ?_
      refine rg_put (d := 130) (v := .d (.sl 7 (List.map eSes c.sess))) rfl (oy rfl rfl rfl h13 (op_load_pt rfl Tryz.underlying39 rfl rfl rfl rfl rfl)) ?_
      refine rg_put (d := 131) (v := .d (.fl (.int .i64 (c.sess.length : Int)))) rfl (oy rfl rfl rfl h13 (s_len rfl Tryz.underlying39 rfl rfl)) ?_
      refine rg_put (d := 132) (v := .d (.fl (.bool ((decide ((c.sess.length : Int) ≤ 20)))))) rfl (oy rfl rfl rfl h13 (op_bin rfl rfl rfl (b_leq _ _ _ _) rfl)) ?_
      refine rg_put (d := 133) (v := .d (.fl (.bool ((decide ((c.sess.length : Int) ≤ 20)))))) rfl (og rfl (op_pick rfl rfl (by rw [h13]; rfl) rfl)) ?_
      refine rg_put (d := 134) (v := .d (.fl (.bool ((decide ((c.sess.length : Int) ≤ 20)))))) rfl (og rfl (op_move rfl rfl rfl)) ?_
      refine rg_put (d := 135) (v := .pt 101 2) rfl (oy rfl rfl rfl (decide_eq_true (by omega)) (of_eff (s_field_pt rfl Tryz.underlying42 rfl ti40 rfl rfl rfl) rfl)) ?_
      refine rg_put (d := 136) (v := .d (.sl 7 (List.map ePrm c.perms))) rfl (oy rfl rfl rfl (decide_eq_true (by omega)) (op_load_pt rfl Tryz.underlying40 rfl rfl rfl rfl rfl)) ?_
      refine rg_put (d := 137) (v := .d (.fl (.int .i64 (c.perms.length : Int)))) rfl (oy rfl rfl rfl (decide_eq_true (by omega)) (s_len rfl Tryz.underlying40 rfl rfl)) ?_
      refine rg_put (d := 138) (v := .d (.fl (.bool ((decide ((c.perms.length : Int) ≤ 8)))))) rfl (oy rfl rfl rfl (decide_eq_true (by omega)) (op_bin rfl rfl rfl (b_leq _ _ _ _) rfl)) ?_
      refine rg_put (d := 139) (v := .d (.fl (.bool ((decide ((c.perms.length : Int) ≤ 8)))))) rfl (og rfl (op_pick rfl rfl (by rw [(decide_eq_true (by omega))]; rfl) rfl)) ?_
      refine rg_put (d := 2) (v := .d (.fl (.bool ((decide ((c.perms.length : Int) ≤ 8)))))) rfl (og rfl (op_assign rfl rfl rfl)) ?_
      refine rg_done rfl ?_
      refine a_ret ?_
      show ∃ ds, ResL _ _ _ ds ∧ RV.of ds = _
      refine ⟨[.fl (.bool ((decide ((c.perms.length : Int) ≤ 8))))], (.cons (.tmp rfl (.d _)) .nil), ?_⟩
      rw [show smB c.zones = decide ((c.zones.length : Int) ≤ 8) from by unfold smB; rw [all_yes (p := fun z : Zn => !(zb z)) (fun q h => by rw [hq q (by omega)]; rfl)]; rfl]
      have hpp : decide ((c.perms.length : Int) ≤ 8) = true := decide_eq_true (by omega)
      first | rfl | (simp only [hpp, h1, h13, Bool.true_or, Bool.false_or, Bool.or_true, Bool.or_false, Bool.not_true, Bool.not_false, cond_true, cond_false, Bool.true_and, Bool.false_and, Bool.and_true, Bool.and_false] <;> rfl)
set_option maxHeartbeats 4000000 in
set_option maxRecDepth 100000 in
theorem law4 (s : Sty) (l : List Zn) (hf : -9223372036854775808 ≤ s.time.fr ∧ s.time.fr ≤ 9223372036854775807) (hl9 : l.length ≤ 9223372036854775807) : CtrK Tryz.prog K2 4 [.ag (eSty s), .sl 7 (List.map eZn l)] (.d (.fl (.bool true))) := by
  refine ctrK (n := 32) (rs := #[.tmp 4]) (L := [(0, .d (.ag (eSty s))), (1, .d (.sl 7 (List.map eZn l)))]) Tryz.func4 rfl rfl rfl rfl rfl (fun w0 U0 hG => ?_)
  refine a_rseq ?_
  refine rg_nam (d := 2) (v := .pt 101 0) (m := 101) (nw := [(101, .bx 36 (eSty s))]) rfl (og rfl (of_eff (op_box 101 rfl rfl rfl rfl) rfl)) rfl ?_
  refine rg_put (d := 4) (v := .d (.fl (.bool false))) rfl (og rfl (op_assign rfl rfl rfl)) ?_
  refine rg_done rfl ?_
  refine a_seq ?_
  refine a_rseq ?_
  refine rg_put (d := 5) (v := .d (.ag (eSty s))) rfl (og rfl (of_eff (s_load_pts rfl Tryz.underlying36 rfl ti36 rfl rfl rfl rfl) rfl)) ?_
  refine rg_put (d := 6) (v := .d (.fl (.bool (shB s)))) rfl (og rfl (op_call rfl Tryz.func12 nm12 rfl (.cons rfl (.d _) .nil) (shC s) rfl)) ?_
  refine rg_put (d := 7) (v := .d (.fl (.bool ((!(shB s)))))) rfl (og rfl (op_un rfl rfl (u_not _) rfl)) ?_
  refine rg_put (d := 8) (v := .d (.fl (.bool ((!(shB s)))))) rfl (og rfl (op_move rfl rfl rfl)) ?_
  rcases fot ((!(shB s))) with h1 | h1
  · skip
    have h2 := f_not h1
    refine rg_put (d := 9) (v := .d (.sl 7 (List.map eZn l))) rfl (oy rfl rfl rfl h1 (op_move rfl rfl rfl)) ?_
    refine rg_put (d := 10) (v := .d (.ag [.sl 7 (List.map eZn l), .fl (.slice none 0 0), .fl (.slice none 0 0)])) rfl (oy rfl rfl rfl h1 (of_eff (op_build rfl Tryz.underlying42 ti42 rfl (by kernel_rfl) (by kernel_rfl) (pl := #[(0, 1), (1, 1), (2, 1)]) (by kernel_rfl) (.cons rfl rfl (.d _) rfl rfl rfl .nil) rfl) rfl)) ?_
    refine rg_put (d := 11) (v := .d (.fl (.bool (smB l)))) rfl (oy rfl rfl rfl h1 (op_call rfl Tryz.func13 nm13 rfl (.cons rfl (.cv (Cv.ag (xs := [.sl 7 (List.map eZn l), .fl (.slice none 0 0), .fl (.slice none 0 0)]) (ys := [.sl 7 (List.map eZn l), .sl 7 (List.map eSes []), .sl 7 (List.map ePrm [])]) ⟨Cv.refl _, Cv.nil _, Cv.nil _, trivial⟩)) .nil) (smC (Clm.mk l [] []) hl9 rfl rfl) rfl)) ?_
    refine rg_put (d := 12) (v := .d (.fl (.bool ((!(smB l)))))) rfl (oy rfl rfl rfl h1 (op_un rfl rfl (u_not _) rfl)) ?_
    refine rg_put (d := 13) (v := .d (.fl (.bool ((!(smB l)))))) rfl (og rfl (op_pick rfl rfl (by rw [h1]; rfl) rfl)) ?_
    refine rg_done rfl ?_
    refine a_cond rfl (fun h3 => ?_) (fun h3 => ?_)
    · skip
      have h4 := t_not h3
      refine a_rseq ?_
      refine rg_put (d := 14) (v := .d (.fl (.bool true))) rfl (og rfl (op_callK k2st hG rfl Tryz.func14 nm14 rfl .nil alive2 rfl)) ?_
      refine rg_put (d := 4) (v := .d (.fl (.bool true))) rfl (og rfl (op_assign rfl rfl rfl)) ?_
      refine rg_done rfl ?_
      refine a_ret ?_
      show ∃ ds, ResL _ _ _ ds ∧ RV.of ds = _
      refine ⟨[.fl (.bool true)], (.cons (.tmp rfl (.d _)) .nil), ?_⟩
      rfl
    · skip
      have h5 := f_not h3
      refine a_skip ?_
      show A _ _ _ _ _ _ _
      refine a_dseq (by kernel_rfl) ?_
      obtain ⟨hz, hp⟩ := shB_t h2
      obtain ⟨hl, hg⟩ := smB_t h5
      refine dr_put (d := 15) (v := .d (.ag (eSty s))) rfl (og rfl (of_eff (s_load_pts rfl Tryz.underlying36 rfl ti36 rfl rfl rfl rfl) rfl)) ?_
      refine dr_put (d := 16) (v := .d (.sl 7 (List.map eZn l))) rfl (og rfl (op_move rfl rfl rfl)) ?_
      refine dr_put (d := 17) (v := .d (.fl (.int .i64 (sck s l)))) rfl (og rfl (op_callK k2st hG rfl Tryz.func15 nm15 rfl (.cons rfl (.d _) (.cons rfl (.d _) .nil)) (sckC s l hf hz hp hl hg) rfl)) ?_
      refine dr_put (d := 18) (v := .d (.ag (eSty s))) rfl (og rfl (of_eff (s_load_pts rfl Tryz.underlying36 rfl ti36 rfl rfl rfl rfl) rfl)) ?_
      refine dr_put (d := 19) (v := .d (.sl 7 (List.map eZn l))) rfl (og rfl (op_move rfl rfl rfl)) ?_
      refine dr_put (d := 20) (v := .d (.fl (.int .i64 (sck s l)))) rfl (og rfl (op_call rfl Tryz.func16 nm16 rfl (.cons rfl (.d _) (.cons rfl (.d _) .nil)) (sckR s l hf hz hp hl hg) rfl)) ?_
      refine dr_put (d := 21) (v := .d (.fl (.bool (((sck s l) == (sck s l)))))) rfl (og rfl (op_bin rfl rfl rfl (b_eql _ _ _ _) rfl)) ?_
      refine dr_put (d := 22) (v := .d (.fl (.bool (((sck s l) == (sck s l)))))) rfl (og rfl (op_move rfl rfl rfl)) ?_
      refine dr_put (d := 23) (v := .d (.ag (eSty s))) rfl (oy rfl rfl rfl (beq_self_eq_true _) (of_eff (s_load_pts rfl Tryz.underlying36 rfl ti36 rfl rfl rfl rfl) rfl)) ?_
      refine dr_put (d := 24) (v := .d (.fl (.string (idS s)))) rfl (oy rfl rfl rfl (beq_self_eq_true _) (op_callK k2st hG rfl Tryz.func17 nm17 rfl (.cons rfl (.d _) .nil) (idC s hf hz hp) rfl)) ?_
      refine dr_put (d := 25) (v := .d (.ag (eSty s))) rfl (oy rfl rfl rfl (beq_self_eq_true _) (of_eff (s_load_pts rfl Tryz.underlying36 rfl ti36 rfl rfl rfl rfl) rfl)) ?_
      refine dr_put (d := 26) (v := .d (.fl (.string (idS s)))) rfl (oy rfl rfl rfl (beq_self_eq_true _) (op_call rfl Tryz.func18 nm18 rfl (.cons rfl (.d _) .nil) (idR s hf hz hp) rfl)) ?_
      refine dr_put (d := 27) (v := .d (.fl (.bool ((sEq (idS s) (idS s)))))) rfl (oy rfl rfl rfl (beq_self_eq_true _) (op_bin rfl rfl rfl (b_seq _ _ _) rfl)) ?_
      refine dr_put (d := 28) (v := .d (.fl (.bool ((sEq (idS s) (idS s)))))) rfl (og rfl (op_pick rfl rfl (by rw [(beq_self_eq_true _)]; rfl) rfl)) ?_
      refine dr_put (d := 29) (v := .d (.fl (.bool ((sEq (idS s) (idS s)))))) rfl (og rfl (op_move rfl rfl rfl)) ?_
      refine dr_put (d := 30) (v := .d (.fl (.bool true))) rfl (oy rfl rfl rfl (eq_self_s _) (op_callK k2st hG rfl Tryz.func14 nm14 rfl .nil alive2 rfl)) ?_
      refine dr_put (d := 31) (v := .d (.fl (.bool true))) rfl (og rfl (op_pick rfl rfl (by rw [(eq_self_s _)]; rfl) rfl)) ?_
      refine dr_put (d := 4) (v := .d (.fl (.bool true))) rfl (og rfl (op_assign rfl rfl rfl)) ?_
      refine dr_done rfl (sepB_of [0, 0, 3, 0, 0, 31, 63, 127, 255, 511, 255, 2047, 4095, 8191, 16383, 32767, 65535, 131071] (by kernel_rfl)) (by kernel_rfl) ?_
      refine a_ret ?_
      show ∃ ds, ResL _ _ _ ds ∧ RV.of ds = _
      refine ⟨[.fl (.bool true)], (.cons (.tmp rfl (.d _)) .nil), ?_⟩
      rfl
  · skip
    have h6 := t_not h1
    refine rg_put (d := 9) (v := .d (.fl undef)) rfl (on rfl rfl rfl h1) ?_
    refine rg_put (d := 10) (v := .d (.fl undef)) rfl (on rfl rfl rfl h1) ?_
    refine rg_put (d := 11) (v := .d (.fl undef)) rfl (on rfl rfl rfl h1) ?_
    refine rg_put (d := 12) (v := .d (.fl undef)) rfl (on rfl rfl rfl h1) ?_
    refine rg_put (d := 13) (v := .d (.fl (.bool true))) rfl (og rfl (op_pick rfl rfl (by rw [h1]; rfl) rfl)) ?_
    refine rg_done rfl ?_
    refine a_condK rfl rfl ?_
    refine a_rseq ?_
    refine rg_put (d := 14) (v := .d (.fl (.bool true))) rfl (og rfl (op_callK k2st hG rfl Tryz.func14 nm14 rfl .nil alive2 rfl)) ?_
    refine rg_put (d := 4) (v := .d (.fl (.bool true))) rfl (og rfl (op_assign rfl rfl rfl)) ?_
    refine rg_done rfl ?_
    refine a_ret ?_
    show ∃ ds, ResL _ _ _ ds ∧ RV.of ds = _
    refine ⟨[.fl (.bool true)], (.cons (.tmp rfl (.d _)) .nil), ?_⟩
    rfl
end Go.Proofs.YtaoopadfijkbcaaGreatDoor.Wk
