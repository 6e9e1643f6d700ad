/- Own rows at a whole number; own rows handed on under another spelling. Conditions: as each theorem names them. -/
import Derived.Test.YteplcjhnmmpicaaAv17
set_option linter.unusedSimpArgs false
set_option linter.unusedVariables false
namespace Go.Proofs.Yteplcjhnmmpicaa.Av
open Go Go.RowKit
section
variable {P : Program} {N : Nat} {w0 : World} {U0 : Nat → Nat}
theorem op_index_trI {o : Oper} {σ : AS} {t : TypeId} {x y : Operand} (ho : o.op = .indexAddr t x y) {e : TypeId} (hu : P.underlying t = some (.slice e)) {zv : Value} {sz b : Nat} (hi : TI P e zv sz b) {m : Nat} {e' : TypeId} {rows : List (List OC)} (hx : σ.ev x = .ow m) (hm : σ.n m = .tr e' sz rows)
    {k : IntKind} {n : Int} (hy : σ.ev y = .d (.fl (.int k n))) (h0 : 0 ≤ n) (hn : n.toNat < rows.length) (hd : dOk o N = true) : OpS P N w0 U0 o σ ⟨o.dst.map fun d => (d, .pe m sz n.toNat 0), [], [m], []⟩ := by
  obtain ⟨q, rfl⟩ := Int.eq_ofNat_of_zero_le h0
  exact op_index_tr ho hu hi hx hm hy hn hd
theorem imp_leakE {L : List (Nat × AV)} {M : List (Nat × Ob)} (t m : Nat) {e : TypeId} {z : Nat} {rows : List (List OC)} {rows' : List (List DV)} (ht : lk L t = .ow m) (hm : ln M m = .tr e z rows) (hok : ∀ r ∈ rows, ∀ c ∈ r, c.ok = true) (he : rows.map (·.map OC.rd) = rows') : Imp N w0 U0 (SS L M) (SS ((t, .d (.sl z rows')) :: L) ((m, .no) :: M)) := by
  subst he; exact imp_leak t m ht hm hok
theorem dec_hi {s : ByteArray} {k : Nat} (h : k < s.size) (h1 : 128 ≤ (bt s k).toNat) : 128 ≤ (Utf8.decode s k).1 := by
  have h' : k < s.data.size := by simpa using h
  have : (s[k]'h) = bt s k := by
    unfold bt
    simp [List.getD, Array.getElem?_eq_getElem h']
    rfl
  exact (decode_high s k h (by rw [this]; exact h1)).1
theorem dec_low {s : ByteArray} {k : Nat} (h : k < s.size) (h1 : ((Utf8.decode s k).1 : Int) < 128) : Utf8.decode s k = ((bt s k).toNat, 1) := by
  have h' : k < s.data.size := by simpa using h
  have hb : (s[k]'h) = bt s k := by
    unfold bt
    simp [List.getD, Array.getElem?_eq_getElem h']
    rfl
  by_cases h2 : 128 ≤ (bt s k).toNat
  · have := dec_hi h h2; omega
  · rw [decode_ascii s k h (by rw [hb]; omega), hb]
theorem eq_self_b (a : Int) : (a == a) = true := by simp
theorem eq_self_bb (a : Bool) : (a == a) = true := by simp
theorem eq_self_s (a : ByteArray) : sEq a a = true := by simp [sEq]
end
end Go.Proofs.Yteplcjhnmmpicaa.Av
