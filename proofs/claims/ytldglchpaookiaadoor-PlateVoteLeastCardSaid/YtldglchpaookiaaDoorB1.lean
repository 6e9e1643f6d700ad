/- Bytes that are read one for the other, both sides. Conditions: as each theorem names them. -/
import Derived.Test.YtldglchpaookiaaDoorLaid
import Derived.Test.YtldglchpaookiaaDoorTy
set_option linter.unusedSimpArgs false
set_option linter.unusedVariables false
namespace Go.Proofs.YtldglchpaookiaaDoor.Wk
open Go Go.RowKit Go.Proofs.YtldglchpaookiaaDoor.Av
theorem ne_self_b (a : Int) : (a != a) = false := by simp
theorem sEq_eq {a b : ByteArray} (h : sEq a b = true) : a = b := of_decide_eq_true h
theorem sEq_of {a b : ByteArray} (h : a = b) : sEq a b = true := decide_eq_true h
theorem nb {b : Bool} (h : ¬ b = true) : b = false := by cases b <;> simp at h ⊢
theorem nnb {b : Bool} (h : ¬ (!b) = true) : b = true := by cases b <;> simp at h ⊢

section
open Go.ChangeMaps (setBlock)
variable {P : Program} {N : Nat} {w0 : World} {U0 : Nat → Nat}
theorem op_mapIns {o : Oper} {σ : AS} {t : TypeId} {x y z : Operand} (ho : o.op = .insert t x y z) (hdn : o.dst = none) {kt et : TypeId} (ht : P.underlying t = some (.map kt et)) {td : TypeDesc} (hk : P.underlying kt = some td) (htd : keyTd td = true)
    {m : Nat} {xs : List (Value × DV)} (hx : σ.ev x = .ow m) (hm : σ.n m = .mp xs) {k : Value} (hy : σ.ev y = .d (.fl k)) (hr : mfind td k xs = some none) {d : DV} (hz : σ.ev z = .d d) :
    OpS P N w0 U0 o σ ⟨none, [(m, .mp (xs ++ [(k, d)]))], [m], []⟩ := by
  intro σ' hok a w hs K Q hK
  obtain ⟨F, hF⟩ := hs.f
  have hv : a.eval x = F.γ m := ev_get hok hF (x := x) (by simp [ho, Op.operands]) hx
  have hvy := ev_get hok hF (x := y) (by simp [ho, Op.operands]) hy
  have hkv : a.eval y = k := by generalize a.eval y = v at hvy; cases hvy; rfl
  have hvz : Rd w F.U (a.eval z) d := ev_get hok hF (x := z) (by simp [ho, Op.operands]) hz
  have hm' : σ'.n m = .mp xs := by rw [hok.n m (by simp)]; exact hm
  have hn := hF.n m
  rw [hm'] at hn
  obtain ⟨b, es, c, h1, h2, h3, h4, h5, h6, hst⟩ := hn
  have hlt : b < w.heap.size := (Array.getElem?_eq_some_iff.1 h4).1
  obtain ⟨g1, _⟩ := find_ents es.toList xs 0 h5 none hr
  have hrun : (execOp a.eval o).run P w = .ok .skip (setBlock w b (.map (es.push ⟨k, a.eval z, c⟩) (c + 1))) := by
    simp [execOp, ho, hv, h1, hkv, Instr.mapUpdate, run_underlying ht, MapKept.run_getObj_map h4, run_checkKey' hk htd, run_findKey' hk (g1 rfl), MapKept.run_setObj_map _ h4, Result.andThen, setBlock]
  have hE := ext_setBlock (w := w) (Obj.map (es.push ⟨k, a.eval z, c⟩) (c + 1)) h3
  have hents : Ents (setBlock w b (.map (es.push ⟨k, a.eval z, c⟩) (c + 1))) F.U (es.push ⟨k, a.eval z, c⟩).toList (xs ++ [(k, d)]) := by
    have hl := h5.1
    refine ⟨by simp [← hl], fun i e u he hu => ?_⟩
    rw [Array.toList_push] at he
    rcases Nat.lt_or_ge i xs.length with hi | hi
    · rw [List.getElem?_append_left (by omega)] at he
      rw [List.getElem?_append_left hi] at hu
      exact ⟨(h5.2 i e u he hu).1, (h5.2 i e u he hu).2.ext hE⟩
    · rw [List.getElem?_append_right (by omega)] at he
      rw [List.getElem?_append_right hi] at hu
      have hi0 : i - xs.length = 0 := by
        have := (List.getElem?_eq_some_iff.1 hu).1
        simp at this; omega
      rw [hi0] at hu
      rw [show i - es.toList.length = 0 by omega] at he
      simp at he hu
      subst he hu
      exact ⟨rfl, hvz.ext hE⟩
  have hfit := hF.setobj (a' := a) (m := m) (b := b) (by rw [hm']; rfl) h6 h3 (obj := .map (es.push ⟨k, a.eval z, c⟩) (c + 1)) (ob := .mp (xs ++ [(k, d)])) ⟨b, _, _, h1, h2, h3, setBlock_same _ hlt, hents, h6, MapKept.stamped_push hst (fun e he => key_new htd h5 hr e he)⟩
    (tw := none) (fun _ => rfl) (fun _ _ h => by cases h) [m]
  unfold Oper.wp
  rw [hrun]
  have : a.put o.dst undef = a := by rw [hdn]; rfl
  unfold Oper.upon
  simp only [this]
  exact hK _ _ ⟨hs.d, hs.s, below_setBlock hs.b h2 _, _, hfit⟩
theorem op_mapInsE {o : Oper} {σ : AS} {t : TypeId} {x y z : Operand} (ho : o.op = .insert t x y z) (hdn : o.dst = none) {kt et : TypeId} (ht : P.underlying t = some (.map kt et)) {td : TypeDesc} (hk : P.underlying kt = some td) (htd : keyTd td = true)
    {m : Nat} {xs ys : List (Value × DV)} (hx : σ.ev x = .ow m) (hm : σ.n m = .mp xs) {k : Value} (hy : σ.ev y = .d (.fl k)) (hr : mfind td k xs = some none) {d : DV} (hz : σ.ev z = .d d) (he : xs ++ [(k, d)] = ys) :
    OpS P N w0 U0 o σ ⟨none, [(m, .mp ys)], [m], []⟩ := he ▸ op_mapIns ho hdn ht hk htd hx hm hy hr hz
end

def CML : List (Int × ByteArray) := [(48, ⟨#[79, 68, 81]⟩), (79, ⟨#[48]⟩), (68, ⟨#[48]⟩), (81, ⟨#[48]⟩), (49, ⟨#[73]⟩), (73, ⟨#[49]⟩), (50, ⟨#[90]⟩), (90, ⟨#[50]⟩), (53, ⟨#[83]⟩), (83, ⟨#[53]⟩), (56, ⟨#[66]⟩), (66, ⟨#[56]⟩), (54, ⟨#[71]⟩), (71, ⟨#[54]⟩), (85, ⟨#[86]⟩), (86, ⟨#[85]⟩)]
def CMD : List (Value × DV) := CML.map fun x => (.int .u8 x.1, .fl (.string x.2))
def CMT (n : Nat) : List (Value × DV) := (CML.take n).map fun x => (.int .u8 x.1, .fl (.string x.2))
def ib (s : ByteArray) (c : Int) : Int := Lib.indexByte s.data.toList c.toNat.toUInt8
theorem same_c {P : Program} {f : FuncId} {xs : Array Value} {w : World} {v : Value} (h : Calls P f xs w fun e w' => e = .returned v ∧ w' = w) : Calls P f xs w fun e w' => e = .returned v ∧ Below w.heap.size w w' := Calls.mono h (by rintro e w' ⟨rfl, rfl⟩; exact ⟨rfl, Below.refl _ _⟩)
theorem ib52 (s : ByteArray) (c : Int) : Ctr Tryd.prog 52 [.fl (.string s), .fl (.int .u8 c)] (.d (.fl (.int .i64 (ib s c)))) := ctr_flat [.string s, .int .u8 c] (fun w => same_c (Any.strings_IndexByte Tryd.laysIdx s c w))
def lk (a b : Int) : Bool := match CML.find? (fun x => a == x.1) with
  | some e => decide (0 ≤ ib e.2 b)
  | none => decide (0 ≤ ib ⟨#[]⟩ b)
def PT : ByteArray := ⟨#[48, 79, 48, 68, 48, 81, 49, 73, 50, 90, 53, 83, 56, 66, 54, 71, 85, 86]⟩
def p1 (k : Nat) : Int := ((bt PT (2 * k)).toNat : Int)
def p2 (k : Nat) : Int := ((bt PT (2 * k + 1)).toNat : Int)
def pm (a b : Int) (k : Nat) : Bool := ((p1 k == a) && (p2 k == b)) || ((p1 k == b) && (p2 k == a))
def lkR (a b : Int) : Bool := (List.range 9).any (pm a b)
theorem lkR_at {a b : Int} {k : Nat} (hk : k < 9) (h : pm a b k = true) : lkR a b = true := List.any_eq_true.2 ⟨k, by simpa using hk, h⟩
theorem lkR_no {a b : Int} (h : ∀ q, q < 9 → pm a b q = false) : lkR a b = false := List.any_eq_false.2 (fun q hq => by rw [h q (by simpa using hq)]; decide)
def okA (a : Int) : Bool := (List.range 256).all fun b => lk a (b : Int) == lkR a (b : Int)
theorem ok_all : ((CML.map Prod.fst).all okA) = true := by kernel_rfl
theorem p_in : ∀ k : Fin 9, p1 k.val ∈ CML.map Prod.fst ∧ p2 k.val ∈ CML.map Prod.fst := by decide +kernel
theorem lk_eq {a b : Int} (h2 : 0 ≤ b ∧ b ≤ 255) : lkR a b = lk a b := by
  by_cases ha : a ∈ CML.map Prod.fst
  · have h := List.all_eq_true.1 (List.all_eq_true.1 ok_all a ha) b.toNat (by simp; omega)
    rw [show ((b.toNat : Nat) : Int) = b by omega] at h
    exact (by simpa using h : lk a b = lkR a b).symm
  · have h1 : CML.find? (fun x => a == x.1) = none := by
      rw [List.find?_eq_none]
      intro x hx he
      exact ha (List.mem_map.2 ⟨x, hx, (by simpa using he : a = x.1).symm⟩)
    have h3 : lk a b = false := by unfold lk; rw [h1]; rfl
    rw [h3]
    refine lkR_no (fun q hq => ?_)
    have h4 := p_in ⟨q, hq⟩
    have e1 : (p1 q == a) = false := by simpa using fun e : p1 q = a => ha (e ▸ h4.1)
    have e2 : (p2 q == a) = false := by simpa using fun e : p2 q = a => ha (e ▸ h4.2)
    unfold pm
    rw [e1, e2, Bool.false_and, Bool.and_false]; rfl

set_option maxHeartbeats 4000000 in
set_option maxRecDepth 100000 in
theorem cm30  : Ctr Tryd.prog 30 [] ( .d (.mp CMD)) := by
  refine ctr (n := 3) (rs := #[.tmp 0]) (L := []) Tryd.func30 rfl rfl rfl rfl rfl (fun w0 U0 => ?_)
  refine a_rseq ?_
  refine rg_put (d := 0) (v := .d (.fl (.map none))) rfl (og rfl (op_assign rfl rfl rfl)) ?_
  refine rg_done rfl ?_
  refine a_rseq ?_
  refine rg_nam (d := 1) (v := .ow 101) (m := 101) (nw := [(101, .mp [])]) rfl (og rfl (op_makeMap 101 rfl rfl)) rfl ?_
  refine rg_sto (nw := [(101, .mp (CMT 1))]) rfl (og rfl (op_mapInsE rfl rfl Tryd.underlying45 Tryd.underlying5 rfl rfl rfl rfl (by kernel_rfl) rfl (by kernel_rfl))) ?_
  refine rg_sto (nw := [(101, .mp (CMT 2))]) rfl (og rfl (op_mapInsE rfl rfl Tryd.underlying45 Tryd.underlying5 rfl rfl rfl rfl (by kernel_rfl) rfl (by kernel_rfl))) ?_
  refine rg_sto (nw := [(101, .mp (CMT 3))]) rfl (og rfl (op_mapInsE rfl rfl Tryd.underlying45 Tryd.underlying5 rfl rfl rfl rfl (by kernel_rfl) rfl (by kernel_rfl))) ?_
  refine rg_sto (nw := [(101, .mp (CMT 4))]) rfl (og rfl (op_mapInsE rfl rfl Tryd.underlying45 Tryd.underlying5 rfl rfl rfl rfl (by kernel_rfl) rfl (by kernel_rfl))) ?_
  refine rg_sto (nw := [(101, .mp (CMT 5))]) rfl (og rfl (op_mapInsE rfl rfl Tryd.underlying45 Tryd.underlying5 rfl rfl rfl rfl (by kernel_rfl) rfl (by kernel_rfl))) ?_
  refine rg_sto (nw := [(101, .mp (CMT 6))]) rfl (og rfl (op_mapInsE rfl rfl Tryd.underlying45 Tryd.underlying5 rfl rfl rfl rfl (by kernel_rfl) rfl (by kernel_rfl))) ?_
  refine rg_sto (nw := [(101, .mp (CMT 7))]) rfl (og rfl (op_mapInsE rfl rfl Tryd.underlying45 Tryd.underlying5 rfl rfl rfl rfl (by kernel_rfl) rfl (by kernel_rfl))) ?_
  refine rg_sto (nw := [(101, .mp (CMT 8))]) rfl (og rfl (op_mapInsE rfl rfl Tryd.underlying45 Tryd.underlying5 rfl rfl rfl rfl (by kernel_rfl) rfl (by kernel_rfl))) ?_
  refine rg_sto (nw := [(101, .mp (CMT 9))]) rfl (og rfl (op_mapInsE rfl rfl Tryd.underlying45 Tryd.underlying5 rfl rfl rfl rfl (by kernel_rfl) rfl (by kernel_rfl))) ?_
  refine rg_sto (nw := [(101, .mp (CMT 10))]) rfl (og rfl (op_mapInsE rfl rfl Tryd.underlying45 Tryd.underlying5 rfl rfl rfl rfl (by kernel_rfl) rfl (by kernel_rfl))) ?_
  refine rg_sto (nw := [(101, .mp (CMT 11))]) rfl (og rfl (op_mapInsE rfl rfl Tryd.underlying45 Tryd.underlying5 rfl rfl rfl rfl (by kernel_rfl) rfl (by kernel_rfl))) ?_
  refine rg_sto (nw := [(101, .mp (CMT 12))]) rfl (og rfl (op_mapInsE rfl rfl Tryd.underlying45 Tryd.underlying5 rfl rfl rfl rfl (by kernel_rfl) rfl (by kernel_rfl))) ?_
  refine rg_sto (nw := [(101, .mp (CMT 13))]) rfl (og rfl (op_mapInsE rfl rfl Tryd.underlying45 Tryd.underlying5 rfl rfl rfl rfl (by kernel_rfl) rfl (by kernel_rfl))) ?_
  refine rg_sto (nw := [(101, .mp (CMT 14))]) rfl (og rfl (op_mapInsE rfl rfl Tryd.underlying45 Tryd.underlying5 rfl rfl rfl rfl (by kernel_rfl) rfl (by kernel_rfl))) ?_
  refine rg_sto (nw := [(101, .mp (CMT 15))]) rfl (og rfl (op_mapInsE rfl rfl Tryd.underlying45 Tryd.underlying5 rfl rfl rfl rfl (by kernel_rfl) rfl (by kernel_rfl))) ?_
  refine rg_sto (nw := [(101, .mp (CMT 16))]) rfl (og rfl (op_mapInsE rfl rfl Tryd.underlying45 Tryd.underlying5 rfl rfl rfl rfl (by kernel_rfl) rfl (by kernel_rfl))) ?_
  refine rg_put (d := 2) (v := .ow 101) rfl (og rfl (op_move rfl rfl rfl)) ?_
  refine rg_put (d := 0) (v := .ow 101) rfl (og rfl (op_assign rfl rfl rfl)) ?_
  refine rg_done rfl ?_
  refine a_imp (imp_mp 0 101 rfl rfl) ?_
  refine a_ret ?_
  show ∃ ds, ResL _ _ _ ds ∧ RV.of ds = _
  refine ⟨[.mp (CMT 16)], (.cons (.tmp rfl (.d _)) .nil), ?_⟩
  kernel_rfl
set_option maxHeartbeats 4000000 in
set_option maxRecDepth 100000 in
theorem lk31 (a b : Int) : Ctr Tryd.prog 31 [.mp CMD, .fl (.int .u8 a), .fl (.int .u8 b)] (.d (.fl (.bool (lk a b)))) := by
  refine ctr (n := 13) (rs := #[.tmp 6]) (L := [(0, .d (.mp CMD)), (1, .d (.fl (.int .u8 a))), (2, .d (.fl (.int .u8 b)))]) Tryd.func31 rfl rfl rfl rfl rfl (fun w0 U0 => ?_)
  refine a_rseq ?_
  refine rg_put (d := 6) (v := .d (.fl (.bool false))) rfl (og rfl (op_assign rfl rfl rfl)) ?_
  refine rg_done rfl ?_
  refine a_rseq ?_
  refine rg_put (d := 7) (v := .d (.mp CMD)) rfl (og rfl (op_move rfl rfl rfl)) ?_
  refine rg_put (d := 8) (v := .d (.fl (.int .u8 a))) rfl (og rfl (op_move rfl rfl rfl)) ?_
  rcases h1 : CML.find? (fun x => a == x.1) with _ | qh1
  · skip
    refine rg_put (d := 9) (v := .d (.fl (.string (⟨#[]⟩)))) rfl (og rfl (op_lookup1 rfl Tryd.underlying45 Tryd.underlying5 rfl ti9 rfl rfl (.d _) rfl (r := none) ((mfind_map .u8 Prod.fst (fun x : Int × ByteArray => DV.fl (.string x.2)) _ CML).trans (congrArg (fun o => some (Option.map (fun x : Int × ByteArray => DV.fl (.string x.2)) o)) h1)) rfl rfl)) ?_
    refine rg_put (d := 10) (v := .d (.fl (.int .u8 b))) rfl (og rfl (op_move rfl rfl rfl)) ?_
    refine rg_put (d := 11) (v := .d (.fl (.int .i64 ((ib (⟨#[]⟩) b))))) rfl (og rfl (op_call rfl Tryd.func52 nm52 rfl (.cons rfl (.d _) (.cons rfl (.d _) .nil)) (ib52 (⟨#[]⟩) b) rfl)) ?_
    refine rg_put (d := 12) (v := .d (.fl (.bool ((decide (0 ≤ (ib (⟨#[]⟩) b))))))) rfl (og rfl (op_bin rfl rfl rfl (b_geq _ _ _ _) rfl)) ?_
    refine rg_put (d := 6) (v := .d (.fl (.bool ((decide (0 ≤ (ib (⟨#[]⟩) b))))))) rfl (og rfl (op_assign rfl rfl rfl)) ?_
    refine rg_done rfl ?_
    refine a_ret ?_
    show ∃ ds, ResL _ _ _ ds ∧ RV.of ds = _
    refine ⟨[.fl (.bool ((decide (0 ≤ (ib (⟨#[]⟩) b)))))], (.cons (.tmp rfl (.d _)) .nil), ?_⟩
    have hu : lk a b = decide (0 ≤ ib ⟨#[]⟩ b) := by unfold lk; rw [h1]
    rw [hu]; rfl
  · skip
    refine rg_put (d := 9) (v := .d (.fl (.string qh1.2))) rfl (og rfl (op_lookup1 rfl Tryd.underlying45 Tryd.underlying5 rfl ti9 rfl rfl (.d _) rfl (r := (some (.fl (.string qh1.2)))) ((mfind_map .u8 Prod.fst (fun x : Int × ByteArray => DV.fl (.string x.2)) _ CML).trans (congrArg (fun o => some (Option.map (fun x : Int × ByteArray => DV.fl (.string x.2)) o)) h1)) rfl rfl)) ?_
    refine rg_put (d := 10) (v := .d (.fl (.int .u8 b))) rfl (og rfl (op_move rfl rfl rfl)) ?_
    refine rg_put (d := 11) (v := .d (.fl (.int .i64 (ib qh1.2 b)))) rfl (og rfl (op_call rfl Tryd.func52 nm52 rfl (.cons rfl (.d _) (.cons rfl (.d _) .nil)) (ib52 qh1.2 b) rfl)) ?_
    refine rg_put (d := 12) (v := .d (.fl (.bool ((decide (0 ≤ (ib qh1.2 b))))))) rfl (og rfl (op_bin rfl rfl rfl (b_geq _ _ _ _) rfl)) ?_
    refine rg_put (d := 6) (v := .d (.fl (.bool ((decide (0 ≤ (ib qh1.2 b))))))) rfl (og rfl (op_assign rfl rfl rfl)) ?_
    refine rg_done rfl ?_
    refine a_ret ?_
    show ∃ ds, ResL _ _ _ ds ∧ RV.of ds = _
    refine ⟨[.fl (.bool ((decide (0 ≤ (ib qh1.2 b)))))], (.cons (.tmp rfl (.d _)) .nil), ?_⟩
    have hu : lk a b = decide (0 ≤ ib qh1.2 b) := by unfold lk; rw [h1]
    rw [hu]; rfl
set_option maxHeartbeats 4000000 in
set_option maxRecDepth 100000 in
theorem lkP (a b : Int) : Ctr Tryd.prog 14 [.fl (.int .u8 a), .fl (.int .u8 b)] (.d (.fl (.bool (lk a b)))) := by
  refine ctr (n := 9) (rs := #[.tmp 4]) (L := [(0, .d (.fl (.int .u8 a))), (1, .d (.fl (.int .u8 b)))]) Tryd.func14 rfl rfl rfl rfl rfl (fun w0 U0 => ?_)
  refine a_rseq ?_
  refine rg_put (d := 4) (v := .d (.fl (.bool false))) rfl (og rfl (op_assign rfl rfl rfl)) ?_
  refine rg_done rfl ?_
  refine a_rseq ?_
  refine rg_put (d := 5) (v := .d (.mp CMD)) rfl (og rfl (op_call rfl Tryd.func30 nm30 rfl .nil cm30 rfl)) ?_
  refine rg_put (d := 6) (v := .d (.fl (.int .u8 a))) rfl (og rfl (op_move rfl rfl rfl)) ?_
  refine rg_put (d := 7) (v := .d (.fl (.int .u8 b))) rfl (og rfl (op_move rfl rfl rfl)) ?_
  refine rg_put (d := 8) (v := .d (.fl (.bool (lk a b)))) rfl (og rfl (op_call rfl Tryd.func31 nm31 rfl (.cons rfl (.d _) (.cons rfl (.d _) (.cons rfl (.d _) .nil))) (lk31 a b) rfl)) ?_
  refine rg_put (d := 4) (v := .d (.fl (.bool (lk a b)))) rfl (og rfl (op_assign rfl rfl rfl)) ?_
  refine rg_done rfl ?_
  refine a_ret ?_
  show ∃ ds, ResL _ _ _ ds ∧ RV.of ds = _
  refine ⟨[.fl (.bool (lk a b))], (.cons (.tmp rfl (.d _)) .nil), ?_⟩
  rfl
set_option maxHeartbeats 4000000 in
set_option maxRecDepth 100000 in
theorem lkR0 (a b : Int) : Ctr Tryd.prog 15 [.fl (.int .u8 a), .fl (.int .u8 b)] (.d (.fl (.bool (lkR a b)))) := by
  refine ctr (n := 41) (rs := #[.tmp 4]) (L := [(0, .d (.fl (.int .u8 a))), (1, .d (.fl (.int .u8 b)))]) Tryd.func15 rfl rfl rfl rfl rfl (fun w0 U0 => ?_)
  refine a_rseq ?_
  refine rg_put (d := 4) (v := .d (.fl (.bool false))) rfl (og rfl (op_assign rfl rfl rfl)) ?_
  refine rg_done rfl ?_
  refine a_rseq ?_
  refine rg_put (d := 5) (v := .d (.fl (.string (⟨#[48, 79, 48, 68, 48, 81, 49, 73, 50, 90, 53, 83, 56, 66, 54, 71, 85, 86]⟩)))) rfl (og rfl (op_assign rfl rfl rfl)) ?_
  refine rg_done rfl ?_
  refine a_seq ?_
  refine a_rseq ?_
  rw [show (⟨#[48, 79, 48, 68, 48, 81, 49, 73, 50, 90, 53, 83, 56, 66, 54, 71, 85, 86]⟩ : ByteArray) = PT from rfl]
  have hps : PT.size = 18 := by kernel_rfl
  refine rg_put (d := 6) (v := .d (.fl (.int .i64 0))) rfl (og rfl (op_assign rfl rfl rfl)) ?_
  refine rg_done rfl ?_
  refine a_block ?_
  refine a_loop (ι := Nat) (fun k => SS [(0, .d (.fl (.int .u8 a))), (1, .d (.fl (.int .u8 b))), (5, .d (.fl (.string PT))), (6, .d (.fl (.int .i64 (((2 * k : Nat) : Int)))))] []) (fun k => k ≤ 9 ∧ ∀ q, q < k → pm a b q = false) (fun k => 9 - k) 0 (⟨by omega, fun q h => by omega⟩) (imp_forget rfl ⟨rfl, rfl, rfl, (by first | rfl | exact ci (by omega) | exact ci (by simp) | exact cd (by simp) | simp), trivial⟩ trivial) (fun k hok => ?_)
  obtain ⟨hk, hq⟩ := hok
  refine a_seq ?_
  refine a_rseq ?_
  refine rg_put (d := 7) (v := .d (.fl (.int .i64 (((2 * k : Nat) : Int))))) rfl (og rfl (op_move rfl rfl rfl)) ?_
  refine rg_put (d := 8) (v := .d (.fl (.string PT))) rfl (og rfl (op_move rfl rfl rfl)) ?_
  refine rg_put (d := 9) (v := .d (.fl (.int .i64 (PT.size : Int)))) rfl (og rfl (op_len_str rfl Tryd.underlying9 rfl rfl)) ?_
  refine rg_put (d := 10) (v := .d (.fl (.bool ((decide (((2 * k : Nat) : Int) < (PT.size : Int))))))) rfl (og rfl (op_bin rfl rfl rfl (b_lss _ _ _ _) rfl)) ?_
  refine rg_done rfl ?_
  refine a_cond rfl (fun h1 => ?_) (fun h1 => ?_)
  · skip
    have h2 := t_dec h1
    refine a_skip ?_
    show A _ _ _ _ _ _ _
    refine a_seq ?_
    refine a_block ?_
    refine a_rseq ?_
    refine rg_put (d := 13) (v := .d (.fl (.string PT))) rfl (og rfl (op_move rfl rfl rfl)) ?_
    refine rg_put (d := 14) (v := .d (.fl (.int .i64 (((2 * k : Nat) : Int))))) rfl (og rfl (op_move rfl rfl rfl)) ?_
    refine rg_put (d := 15) (v := .d (.fl (.int .u8 (((bt PT (2 * k)).toNat : Int))))) rfl (og rfl (op_strindex rfl Tryd.underlying9 rfl rfl (by omega) (byte_ix (by omega)) rfl)) ?_
    refine rg_put (d := 16) (v := .d (.fl (.int .u8 a))) rfl (og rfl (op_move rfl rfl rfl)) ?_
    refine rg_put (d := 17) (v := .d (.fl (.bool ((((bt PT (2 * k)).toNat : Int) == a))))) rfl (og rfl (op_bin rfl rfl rfl (b_eql _ _ _ _) rfl)) ?_
    refine rg_put (d := 18) (v := .d (.fl (.bool ((((bt PT (2 * k)).toNat : Int) == a))))) rfl (og rfl (op_move rfl rfl rfl)) ?_
    rcases fot ((((bt PT (2 * k)).toNat : Int) == a)) with h3 | h3
    · skip
      have h4 := f_beq h3
      refine rg_put (d := 19) (v := .d (.fl undef)) rfl (on rfl rfl rfl h3) ?_
      refine rg_put (d := 20) (v := .d (.fl undef)) rfl (on rfl rfl rfl h3) ?_
      refine rg_put (d := 21) (v := .d (.fl undef)) rfl (on rfl rfl rfl h3) ?_
      refine rg_put (d := 22) (v := .d (.fl undef)) rfl (on rfl rfl rfl h3) ?_
      refine rg_put (d := 23) (v := .d (.fl undef)) rfl (on rfl rfl rfl h3) ?_
      refine rg_put (d := 24) (v := .d (.fl undef)) rfl (on rfl rfl rfl h3) ?_
      refine rg_put (d := 25) (v := .d (.fl (.bool false))) rfl (og rfl (op_pick rfl rfl (by rw [h3]; rfl) rfl)) ?_
      refine rg_put (d := 26) (v := .d (.fl (.bool false))) rfl (og rfl (op_move rfl rfl rfl)) ?_
      refine rg_put (d := 27) (v := .d (.fl (.string PT))) rfl (oy rfl rfl rfl rfl (op_move rfl rfl rfl)) ?_
      refine rg_put (d := 28) (v := .d (.fl (.int .i64 (((2 * k : Nat) : Int))))) rfl (oy rfl rfl rfl rfl (op_move rfl rfl rfl)) ?_
      refine rg_put (d := 29) (v := .d (.fl (.int .u8 (((bt PT (2 * k)).toNat : Int))))) rfl (oy rfl rfl rfl rfl (op_strindex rfl Tryd.underlying9 rfl rfl (by omega) (byte_ix (by omega)) rfl)) ?_
      refine rg_put (d := 30) (v := .d (.fl (.int .u8 b))) rfl (oy rfl rfl rfl rfl (op_move rfl rfl rfl)) ?_
      refine rg_put (d := 31) (v := .d (.fl (.bool ((((bt PT (2 * k)).toNat : Int) == b))))) rfl (oy rfl rfl rfl rfl (op_bin rfl rfl rfl (b_eql _ _ _ _) rfl)) ?_
      refine rg_put (d := 32) (v := .d (.fl (.bool ((((bt PT (2 * k)).toNat : Int) == b))))) rfl (oy rfl rfl rfl rfl (op_move rfl rfl rfl)) ?_
      rcases fot ((((bt PT (2 * k)).toNat : Int) == b)) with h5 | h5
      · skip
        have h6 := f_beq h5
        refine rg_put (d := 33) (v := .d (.fl undef)) rfl (on rfl rfl rfl h5) ?_
        refine rg_put (d := 34) (v := .d (.fl undef)) rfl (on rfl rfl rfl h5) ?_
        refine rg_put (d := 35) (v := .d (.fl undef)) rfl (on rfl rfl rfl h5) ?_
        refine rg_put (d := 36) (v := .d (.fl undef)) rfl (on rfl rfl rfl h5) ?_
        refine rg_put (d := 37) (v := .d (.fl undef)) rfl (on rfl rfl rfl h5) ?_
        refine rg_put (d := 38) (v := .d (.fl undef)) rfl (on rfl rfl rfl h5) ?_
        refine rg_put (d := 39) (v := .d (.fl (.bool false))) rfl (oy rfl rfl rfl rfl (op_pick rfl rfl (by rw [h5]; rfl) rfl)) ?_
        refine rg_put (d := 40) (v := .d (.fl (.bool false))) rfl (og rfl (op_pick rfl rfl rfl rfl)) ?_
        refine rg_done rfl ?_
        refine a_condF rfl rfl ?_
        refine a_skip ?_
        show A _ _ _ _ _ _ _
        refine a_region ?_
        refine rg_put (d := 11) (v := .d (.fl (.int .i64 (((2 * k : Nat) : Int))))) rfl (og rfl (op_move rfl rfl rfl)) ?_
        refine rg_put (d := 12) (v := .d (.fl (.int .i64 ((((2 * k : Nat) : Int) + 2))))) rfl (og rfl (op_bin rfl rfl rfl (fun x y w => b_add64 _ _ _ x y w (by omega)) rfl)) ?_
        refine rg_put (d := 6) (v := .d (.fl (.int .i64 ((((2 * k : Nat) : Int) + 2))))) rfl (og rfl (op_assign rfl rfl rfl)) ?_
        refine rg_done rfl ?_
        have hx : pm a b k = false := by
          unfold pm p1 p2; rw [show 2 * k + 1 = (((2 * k : Nat) : Int) + 1).toNat from by omega]; simp only [h1, h3, h5, Bool.true_or, Bool.false_or, Bool.or_true, Bool.or_false, Bool.not_true, Bool.not_false, cond_true, cond_false, Bool.true_and, Bool.false_and, Bool.and_true, Bool.and_false] <;> rfl
        show ∃ i, _ ∧ _ ∧ Imp _ _ _ _ _
        refine ⟨k + 1, ⟨by omega, fun q h => (Nat.lt_succ_iff_lt_or_eq.1 h).elim (hq q) (fun e => by rw [e]; exact hx)⟩, by omega, imp_forget rfl ⟨rfl, rfl, rfl, (by first | rfl | exact ci (by omega) | exact ci (by simp) | exact cd (by simp) | simp), trivial⟩ trivial⟩
      · skip
        have h7 := t_beq h5
        refine rg_put (d := 33) (v := .d (.fl (.string PT))) rfl (oy rfl rfl rfl h5 (op_move rfl rfl rfl)) ?_
        refine rg_put (d := 34) (v := .d (.fl (.int .i64 (((2 * k : Nat) : Int))))) rfl (oy rfl rfl rfl h5 (op_move rfl rfl rfl)) ?_
        refine rg_put (d := 35) (v := .d (.fl (.int .i64 ((((2 * k : Nat) : Int) + 1))))) rfl (oy rfl rfl rfl h5 (op_bin rfl rfl rfl (fun x y w => b_add64 _ _ _ x y w (by omega)) rfl)) ?_
        refine rg_put (d := 36) (v := .d (.fl (.int .u8 (((bt PT (((((2 * k : Nat) : Int) + 1)).toNat)).toNat : Int))))) rfl (oy rfl rfl rfl h5 (op_strindex (n := (((2 * k : Nat) : Int) + 1)) rfl Tryd.underlying9 rfl rfl (by omega) (byte_ix (k := ((((2 * k : Nat) : Int) + 1)).toNat) (by omega)) rfl)) ?_
        refine rg_put (d := 37) (v := .d (.fl (.int .u8 a))) rfl (oy rfl rfl rfl h5 (op_move rfl rfl rfl)) ?_
        refine rg_put (d := 38) (v := .d (.fl (.bool ((((bt PT (((((2 * k : Nat) : Int) + 1)).toNat)).toNat : Int) == a))))) rfl (oy rfl rfl rfl h5 (op_bin rfl rfl rfl (b_eql _ _ _ _) rfl)) ?_
        refine rg_put (d := 39) (v := .d (.fl (.bool ((((bt PT (((((2 * k : Nat) : Int) + 1)).toNat)).toNat : Int) == a))))) rfl (oy rfl rfl rfl rfl (op_pick rfl rfl (by rw [h5]; rfl) rfl)) ?_
        refine rg_put (d := 40) (v := .d (.fl (.bool ((((bt PT (((((2 * k : Nat) : Int) + 1)).toNat)).toNat : Int) == a))))) rfl (og rfl (op_pick rfl rfl rfl rfl)) ?_
        refine rg_done rfl ?_
        refine a_cond rfl (fun h8 => ?_) (fun h8 => ?_)
        · skip
          have h9 := t_beq h8
          refine a_rseq ?_
          refine rg_put (d := 4) (v := .d (.fl (.bool true))) rfl (og rfl (op_assign rfl rfl rfl)) ?_
          refine rg_done rfl ?_
          refine a_ret ?_
          show ∃ ds, ResL _ _ _ ds ∧ RV.of ds = _
          refine ⟨[.fl (.bool true)], (.cons (.tmp rfl (.d _)) .nil), ?_⟩
          have hx : pm a b k = true := by
            unfold pm p1 p2; rw [show 2 * k + 1 = (((2 * k : Nat) : Int) + 1).toNat from by omega]; simp only [h1, h3, h5, h8, Bool.true_or, Bool.false_or, Bool.or_true, Bool.or_false, Bool.not_true, Bool.not_false, cond_true, cond_false, Bool.true_and, Bool.false_and, Bool.and_true, Bool.and_false] <;> rfl
          rw [lkR_at (by omega) hx]; rfl
        · skip
          have h10 := f_beq h8
          refine a_skip ?_
          show A _ _ _ _ _ _ _
          refine a_region ?_
          refine rg_put (d := 11) (v := .d (.fl (.int .i64 (((2 * k : Nat) : Int))))) rfl (og rfl (op_move rfl rfl rfl)) ?_
          refine rg_put (d := 12) (v := .d (.fl (.int .i64 ((((2 * k : Nat) : Int) + 2))))) rfl (og rfl (op_bin rfl rfl rfl (fun x y w => b_add64 _ _ _ x y w (by omega)) rfl)) ?_
          refine rg_put (d := 6) (v := .d (.fl (.int .i64 ((((2 * k : Nat) : Int) + 2))))) rfl (og rfl (op_assign rfl rfl rfl)) ?_
          refine rg_done rfl ?_
          have hx : pm a b k = false := by
            unfold pm p1 p2; rw [show 2 * k + 1 = (((2 * k : Nat) : Int) + 1).toNat from by omega]; simp only [h1, h3, h5, h8, Bool.true_or, Bool.false_or, Bool.or_true, Bool.or_false, Bool.not_true, Bool.not_false, cond_true, cond_false, Bool.true_and, Bool.false_and, Bool.and_true, Bool.and_false] <;> rfl
          show ∃ i, _ ∧ _ ∧ Imp _ _ _ _ _
          refine ⟨k + 1, ⟨by omega, fun q h => (Nat.lt_succ_iff_lt_or_eq.1 h).elim (hq q) (fun e => by rw [e]; exact hx)⟩, by omega, imp_forget rfl ⟨rfl, rfl, rfl, (by first | rfl | exact ci (by omega) | exact ci (by simp) | exact cd (by simp) | simp), trivial⟩ trivial⟩
    · skip
      have h11 := t_beq h3
      refine rg_put (d := 19) (v := .d (.fl (.string PT))) rfl (oy rfl rfl rfl h3 (op_move rfl rfl rfl)) ?_
      refine rg_put (d := 20) (v := .d (.fl (.int .i64 (((2 * k : Nat) : Int))))) rfl (oy rfl rfl rfl h3 (op_move rfl rfl rfl)) ?_
      refine rg_put (d := 21) (v := .d (.fl (.int .i64 ((((2 * k : Nat) : Int) + 1))))) rfl (oy rfl rfl rfl h3 (op_bin rfl rfl rfl (fun x y w => b_add64 _ _ _ x y w (by omega)) rfl)) ?_
      refine rg_put (d := 22) (v := .d (.fl (.int .u8 (((bt PT (((((2 * k : Nat) : Int) + 1)).toNat)).toNat : Int))))) rfl (oy rfl rfl rfl h3 (op_strindex (n := (((2 * k : Nat) : Int) + 1)) rfl Tryd.underlying9 rfl rfl (by omega) (byte_ix (k := ((((2 * k : Nat) : Int) + 1)).toNat) (by omega)) rfl)) ?_
      refine rg_put (d := 23) (v := .d (.fl (.int .u8 b))) rfl (oy rfl rfl rfl h3 (op_move rfl rfl rfl)) ?_
      refine rg_put (d := 24) (v := .d (.fl (.bool ((((bt PT (((((2 * k : Nat) : Int) + 1)).toNat)).toNat : Int) == b))))) rfl (oy rfl rfl rfl h3 (op_bin rfl rfl rfl (b_eql _ _ _ _) rfl)) ?_
      refine rg_put (d := 25) (v := .d (.fl (.bool ((((bt PT (((((2 * k : Nat) : Int) + 1)).toNat)).toNat : Int) == b))))) rfl (og rfl (op_pick rfl rfl (by rw [h3]; rfl) rfl)) ?_
      refine rg_put (d := 26) (v := .d (.fl (.bool ((((bt PT (((((2 * k : Nat) : Int) + 1)).toNat)).toNat : Int) == b))))) rfl (og rfl (op_move rfl rfl rfl)) ?_
      rcases fot ((((bt PT (((((2 * k : Nat) : Int) + 1)).toNat)).toNat : Int) == b)) with h12 | h12
      · skip
        have h13 := f_beq h12
        refine rg_put (d := 27) (v := .d (.fl (.string PT))) rfl (oy rfl rfl rfl h12 (op_move rfl rfl rfl)) ?_
        refine rg_put (d := 28) (v := .d (.fl (.int .i64 (((2 * k : Nat) : Int))))) rfl (oy rfl rfl rfl h12 (op_move rfl rfl rfl)) ?_
        refine rg_put (d := 29) (v := .d (.fl (.int .u8 (((bt PT (2 * k)).toNat : Int))))) rfl (oy rfl rfl rfl h12 (op_strindex rfl Tryd.underlying9 rfl rfl (by omega) (byte_ix (by omega)) rfl)) ?_
        refine rg_put (d := 30) (v := .d (.fl (.int .u8 b))) rfl (oy rfl rfl rfl h12 (op_move rfl rfl rfl)) ?_
        refine rg_put (d := 31) (v := .d (.fl (.bool ((((bt PT (2 * k)).toNat : Int) == b))))) rfl (oy rfl rfl rfl h12 (op_bin rfl rfl rfl (b_eql _ _ _ _) rfl)) ?_
        refine rg_put (d := 32) (v := .d (.fl (.bool ((((bt PT (2 * k)).toNat : Int) == b))))) rfl (oy rfl rfl rfl h12 (op_move rfl rfl rfl)) ?_
        rcases fot ((((bt PT (2 * k)).toNat : Int) == b)) with h14 | h14
        · skip
          have h15 := f_beq h14
          refine rg_put (d := 33) (v := .d (.fl undef)) rfl (on rfl rfl rfl h14) ?_
          refine rg_put (d := 34) (v := .d (.fl undef)) rfl (on rfl rfl rfl h14) ?_
          refine rg_put (d := 35) (v := .d (.fl undef)) rfl (on rfl rfl rfl h14) ?_
          refine rg_put (d := 36) (v := .d (.fl undef)) rfl (on rfl rfl rfl h14) ?_
          refine rg_put (d := 37) (v := .d (.fl undef)) rfl (on rfl rfl rfl h14) ?_
          refine rg_put (d := 38) (v := .d (.fl undef)) rfl (on rfl rfl rfl h14) ?_
          refine rg_put (d := 39) (v := .d (.fl (.bool false))) rfl (oy rfl rfl rfl h12 (op_pick rfl rfl (by rw [h14]; rfl) rfl)) ?_
          refine rg_put (d := 40) (v := .d (.fl (.bool false))) rfl (og rfl (op_pick rfl rfl (by rw [h12]; rfl) rfl)) ?_
          refine rg_done rfl ?_
          refine a_condF rfl rfl ?_
          refine a_skip ?_
          show A _ _ _ _ _ _ _
          refine a_region ?_
          refine rg_put (d := 11) (v := .d (.fl (.int .i64 (((2 * k : Nat) : Int))))) rfl (og rfl (op_move rfl rfl rfl)) ?_
          refine rg_put (d := 12) (v := .d (.fl (.int .i64 ((((2 * k : Nat) : Int) + 2))))) rfl (og rfl (op_bin rfl rfl rfl (fun x y w => b_add64 _ _ _ x y w (by omega)) rfl)) ?_
          refine rg_put (d := 6) (v := .d (.fl (.int .i64 ((((2 * k : Nat) : Int) + 2))))) rfl (og rfl (op_assign rfl rfl rfl)) ?_
          refine rg_done rfl ?_
          have hx : pm a b k = false := by
            unfold pm p1 p2; rw [show 2 * k + 1 = (((2 * k : Nat) : Int) + 1).toNat from by omega]; simp only [h1, h3, h12, h14, Bool.true_or, Bool.false_or, Bool.or_true, Bool.or_false, Bool.not_true, Bool.not_false, cond_true, cond_false, Bool.true_and, Bool.false_and, Bool.and_true, Bool.and_false] <;> rfl
          show ∃ i, _ ∧ _ ∧ Imp _ _ _ _ _
          refine ⟨k + 1, ⟨by omega, fun q h => (Nat.lt_succ_iff_lt_or_eq.1 h).elim (hq q) (fun e => by rw [e]; exact hx)⟩, by omega, imp_forget rfl ⟨rfl, rfl, rfl, (by first | rfl | exact ci (by omega) | exact ci (by simp) | exact cd (by simp) | simp), trivial⟩ trivial⟩
        · skip
          have h16 := t_beq h14
          refine rg_put (d := 33) (v := .d (.fl (.string PT))) rfl (oy rfl rfl rfl h14 (op_move rfl rfl rfl)) ?_
          refine rg_put (d := 34) (v := .d (.fl (.int .i64 (((2 * k : Nat) : Int))))) rfl (oy rfl rfl rfl h14 (op_move rfl rfl rfl)) ?_
          refine rg_put (d := 35) (v := .d (.fl (.int .i64 ((((2 * k : Nat) : Int) + 1))))) rfl (oy rfl rfl rfl h14 (op_bin rfl rfl rfl (fun x y w => b_add64 _ _ _ x y w (by omega)) rfl)) ?_
          refine rg_put (d := 36) (v := .d (.fl (.int .u8 (((bt PT (((((2 * k : Nat) : Int) + 1)).toNat)).toNat : Int))))) rfl (oy rfl rfl rfl h14 (op_strindex (n := (((2 * k : Nat) : Int) + 1)) rfl Tryd.underlying9 rfl rfl (by omega) (byte_ix (k := ((((2 * k : Nat) : Int) + 1)).toNat) (by omega)) rfl)) ?_
          refine rg_put (d := 37) (v := .d (.fl (.int .u8 a))) rfl (oy rfl rfl rfl h14 (op_move rfl rfl rfl)) ?_
          refine rg_put (d := 38) (v := .d (.fl (.bool ((((bt PT (((((2 * k : Nat) : Int) + 1)).toNat)).toNat : Int) == a))))) rfl (oy rfl rfl rfl h14 (op_bin rfl rfl rfl (b_eql _ _ _ _) rfl)) ?_
          refine rg_put (d := 39) (v := .d (.fl (.bool ((((bt PT (((((2 * k : Nat) : Int) + 1)).toNat)).toNat : Int) == a))))) rfl (oy rfl rfl rfl h12 (op_pick rfl rfl (by rw [h14]; rfl) rfl)) ?_
          refine rg_put (d := 40) (v := .d (.fl (.bool ((((bt PT (((((2 * k : Nat) : Int) + 1)).toNat)).toNat : Int) == a))))) rfl (og rfl (op_pick rfl rfl (by rw [h12]; rfl) rfl)) ?_
          refine rg_done rfl ?_
          refine a_cond rfl (fun h17 => ?_) (fun h17 => ?_)
          · skip
            have h18 := t_beq h17
            refine a_rseq ?_
            refine rg_put (d := 4) (v := .d (.fl (.bool true))) rfl (og rfl (op_assign rfl rfl rfl)) ?_
            refine rg_done rfl ?_
            refine a_ret ?_
            show ∃ ds, ResL _ _ _ ds ∧ RV.of ds = _
            refine ⟨[.fl (.bool true)], (.cons (.tmp rfl (.d _)) .nil), ?_⟩
            have hx : pm a b k = true := by
              unfold pm p1 p2; rw [show 2 * k + 1 = (((2 * k : Nat) : Int) + 1).toNat from by omega]; simp only [h1, h3, h12, h14, h17, Bool.true_or, Bool.false_or, Bool.or_true, Bool.or_false, Bool.not_true, Bool.not_false, cond_true, cond_false, Bool.true_and, Bool.false_and, Bool.and_true, Bool.and_false] <;> rfl
            rw [lkR_at (by omega) hx]; rfl
          · skip
            have h19 := f_beq h17
            refine a_skip ?_
            show A _ _ _ _ _ _ _
            refine a_region ?_
            refine rg_put (d := 11) (v := .d (.fl (.int .i64 (((2 * k : Nat) : Int))))) rfl (og rfl (op_move rfl rfl rfl)) ?_
            refine rg_put (d := 12) (v := .d (.fl (.int .i64 ((((2 * k : Nat) : Int) + 2))))) rfl (og rfl (op_bin rfl rfl rfl (fun x y w => b_add64 _ _ _ x y w (by omega)) rfl)) ?_
            refine rg_put (d := 6) (v := .d (.fl (.int .i64 ((((2 * k : Nat) : Int) + 2))))) rfl (og rfl (op_assign rfl rfl rfl)) ?_
            refine rg_done rfl ?_
            have hx : pm a b k = false := by
              unfold pm p1 p2; rw [show 2 * k + 1 = (((2 * k : Nat) : Int) + 1).toNat from by omega]; simp only [h1, h3, h12, h14, h17, Bool.true_or, Bool.false_or, Bool.or_true, Bool.or_false, Bool.not_true, Bool.not_false, cond_true, cond_false, Bool.true_and, Bool.false_and, Bool.and_true, Bool.and_false] <;> rfl
            show ∃ i, _ ∧ _ ∧ Imp _ _ _ _ _
            refine ⟨k + 1, ⟨by omega, fun q h => (Nat.lt_succ_iff_lt_or_eq.1 h).elim (hq q) (fun e => by rw [e]; exact hx)⟩, by omega, imp_forget rfl ⟨rfl, rfl, rfl, (by first | rfl | exact ci (by omega) | exact ci (by simp) | exact cd (by simp) | simp), trivial⟩ trivial⟩
      · skip
        have h20 := t_beq h12
        refine rg_put (d := 27) (v := .d (.fl undef)) rfl (on rfl rfl rfl h12) ?_
        refine rg_put (d := 28) (v := .d (.fl undef)) rfl (on rfl rfl rfl h12) ?_
        refine rg_put (d := 29) (v := .d (.fl undef)) rfl (on rfl rfl rfl h12) ?_
        refine rg_put (d := 30) (v := .d (.fl undef)) rfl (on rfl rfl rfl h12) ?_
        refine rg_put (d := 31) (v := .d (.fl undef)) rfl (on rfl rfl rfl h12) ?_
        refine rg_put (d := 32) (v := .d (.fl undef)) rfl (on rfl rfl rfl h12) ?_
        refine rg_put (d := 33) (v := .d (.fl undef)) rfl (ou rfl rfl rfl) ?_
        refine rg_put (d := 34) (v := .d (.fl undef)) rfl (ou rfl rfl rfl) ?_
        refine rg_put (d := 35) (v := .d (.fl undef)) rfl (ou rfl rfl rfl) ?_
        refine rg_put (d := 36) (v := .d (.fl undef)) rfl (ou rfl rfl rfl) ?_
        refine rg_put (d := 37) (v := .d (.fl undef)) rfl (ou rfl rfl rfl) ?_
        refine rg_put (d := 38) (v := .d (.fl undef)) rfl (ou rfl rfl rfl) ?_
        refine rg_put (d := 39) (v := .d (.fl undef)) rfl (on rfl rfl rfl h12) ?_
        refine rg_put (d := 40) (v := .d (.fl (.bool true))) rfl (og rfl (op_pick rfl rfl (by rw [h12]; rfl) rfl)) ?_
        refine rg_done rfl ?_
        refine a_condK rfl rfl ?_
        refine a_rseq ?_
        refine rg_put (d := 4) (v := .d (.fl (.bool true))) rfl (og rfl (op_assign rfl rfl rfl)) ?_
        refine rg_done rfl ?_
        refine a_ret ?_
        show ∃ ds, ResL _ _ _ ds ∧ RV.of ds = _
        refine ⟨[.fl (.bool true)], (.cons (.tmp rfl (.d _)) .nil), ?_⟩
        have hx : pm a b k = true := by
          unfold pm p1 p2; rw [show 2 * k + 1 = (((2 * k : Nat) : Int) + 1).toNat from by omega]; simp only [h1, h3, h12, Bool.true_or, Bool.false_or, Bool.or_true, Bool.or_false, Bool.not_true, Bool.not_false, cond_true, cond_false, Bool.true_and, Bool.false_and, Bool.and_true, Bool.and_false] <;> rfl
        rw [lkR_at (by omega) hx]; rfl
  · skip
    have h21 := f_dec h1
    refine a_exit ?_
    show A _ _ _ _ _ _ _
    refine a_rseq ?_
    refine rg_put (d := 4) (v := .d (.fl (.bool false))) rfl (og rfl (op_assign rfl rfl rfl)) ?_
    refine rg_done rfl ?_
    refine a_ret ?_
    show ∃ ds, ResL _ _ _ ds ∧ RV.of ds = _
    refine ⟨[.fl (.bool false)], (.cons (.tmp rfl (.d _)) .nil), ?_⟩
    rw [lkR_no (fun q h => hq q (by omega))]; rfl
theorem lkR15 (a b : Int) (h2 : 0 ≤ b ∧ b ≤ 255) : Ctr Tryd.prog 15 [.fl (.int .u8 a), .fl (.int .u8 b)] (.d (.fl (.bool (lk a b)))) := by rw [← lk_eq h2]; exact lkR0 a b
end Go.Proofs.YtldglchpaookiaaDoor.Wk
