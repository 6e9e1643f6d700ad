/- string(b) of bytes that are read. Conditions: as each theorem names them. -/
import Derived.Test.YtaoopadfijkbcaaGreatDoorAvD
import Derived.Laws.BytesString
set_option linter.unusedSimpArgs false
set_option linter.unusedVariables false
namespace Go.Proofs.YtaoopadfijkbcaaGreatDoor.Av
open Go Go.RowKit
def ibs (l : List Int) : ByteArray := l.foldl (fun r n => r.push (UInt8.ofNat n.toNat)) ByteArray.empty
theorem ibs_go : ∀ (l : List Int) (r : ByteArray), l.foldl (fun r n => r.push (UInt8.ofNat n.toNat)) r = ⟨r.data ++ (l.map fun n => UInt8.ofNat n.toNat).toArray⟩
  | [], r => by simp
  | b :: l, r => by
    simp only [List.map_cons, List.foldl_cons]
    rw [ibs_go l]
    simp [ByteArray.push]
theorem ibs_eq (l : List Int) : ibs l = ⟨(l.map fun n => UInt8.ofNat n.toNat).toArray⟩ := by
  unfold ibs
  rw [ibs_go]
  have he0 : ByteArray.empty.data = #[] := rfl
  rw [he0]; simp
section
variable {P : Program} {N : Nat} {w0 : World} {U0 : Nat → Nat}
theorem op_strOf {o : Oper} {σ : AS} {src dst e : TypeId} {x : Operand} (ho : o.op = .convert src dst x) (hs : P.underlying src = some (.slice e)) (he : P.underlying e = some (.int .u8)) (ht : P.underlying dst = some .string) {l : List Int} (hx : σ.ev x = .d (.sl 1 (List.map (rI .u8) l))) (hd : dOk o N = true) :
    OpS P N w0 U0 o σ ⟨o.dst.map fun d => (d, .d (.fl (.string (ibs l)))), [], [], []⟩ :=
  opS_still hd fun σ' hok a w F hF => by
    have h1 : Rd w F.U (a.eval x) (.sl 1 (List.map (rI .u8) l)) := ev_get hok hF (x := x) (by simp [ho, Op.operands]) hx
    refine ⟨.string (ibs l), ?_, .fl _⟩
    unfold execOp
    simp only [ho]
    generalize hg : List.map (rI .u8) l = rows at h1
    generalize a.eval x = ev at h1
    cases h1 with
    | sn A c z =>
      have hl : l = [] := by simpa using hg
      subst hl
      simp only [Sem.run_bind, run_convert_bytes_string w src dst e A 0 c hs he ht]
      cases A with
      | none => simp [Conv.bytesToString, Sem.run_pure, Result.andThen, ibs]
      | some A =>
        have hl := run_loadCells_list (P := P) w A ((([] : List Int)).map (Value.int .u8)) (fun j v hj => by simp at hj)
        rw [run_bytesToString w A 0 c [] hl]
        simp [Sem.run_pure, Result.andThen, ibs]
    | sl b off n c z rows u hn hz hm hcell hr =>
      subst hg
      have hn' : l.length = n := by simpa using hn
      have hc : ∀ j v, (l.map (Value.int .u8))[j]? = some v → w.cell? ((⟨b, off, none⟩ : Addr).add j) = some v := fun j v hj => by
        rw [List.getElem?_map] at hj
        obtain ⟨y, hy, rfl⟩ := Option.map_eq_some_iff.1 hj
        have hx' : cellAt (List.map (rI .u8) l) j 0 = some (.fl (.int .u8 y)) := cellAt_some (r := rI .u8 y) (by rw [List.getElem?_map, hy]; rfl) rfl
        have q1 := (hcell j 0 _ hx').1
        have q2 := hr j 0 _ hx'
        have q3 : u j 0 = .int .u8 y := rd_fl q2
        rw [q3] at q1
        have q4 : w.cell? ⟨b, off + j, none⟩ = some (.int .u8 y) := by simpa using q1
        by_cases e0 : j = 0
        · subst e0; simpa [Addr.add] using q4
        · simpa [Addr.add, e0] using q4
      have hl := run_loadCells_list (P := P) w ⟨b, off, none⟩ (l.map (Value.int .u8)) hc
      simp only [List.length_map, hn'] at hl
      simp only [Sem.run_bind, run_convert_bytes_string w src dst e (some ⟨b, off, none⟩) n c hs he ht]
      rw [run_bytesToString w _ n c l hl]
      simp [Sem.run_pure, Result.andThen, ibs]
end
end Go.Proofs.YtaoopadfijkbcaaGreatDoor.Av
