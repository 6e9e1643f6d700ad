/- The walk of RefillMany. Conditions: none beside that the number fits its kind. -/
import Derived.Test.YtodkcnhdiddbkaaLawC
import Derived.Deep.OwnRows
namespace Go.Proofs.Ytodkcnhdiddbkaa.Wk
open Go.RowKit Go.Deep
open Go.Proofs.Ytodkcnhdiddbkaa.Mt
theorem u8_nat {a : Int} (h : (Lit.int .u8 a).wf = true) : ∃ m : Nat, m ≤ 255 ∧ a = (m : Int) := by
  have hx : 0 ≤ a ∧ a ≤ 255 := by simpa [Lit.wf, IntKind.min, IntKind.max, IntKind.signed, IntKind.bits] using h
  exact ⟨a.toNat, by omega, by omega⟩
theorem chk0 : chk ⟨0, 0, 0, 0⟩ = 0 := rfl
theorem rstep_zero (f : Fi) (out : List Int) (k : Nat) : rstep ⟨0, 0, 0, 0⟩ [] ⟨7, f, 0, out⟩ k 0 = some ⟨7, f, 0, out ++ [7]⟩ := by
  have h : stp ⟨0, 0, 0, 0⟩ f 7 k = (f, 0) := by rw [stp, if_pos (.inr (.inl (by simp)))]
  exact step_rest (st := ⟨7, f, 0, out⟩) (by rfl) h (by simp)
theorem rloop_zero (f : Fi) : ∀ (n k : Nat) (out rest : List Int), rloop ⟨0, 0, 0, 0⟩ [] ⟨7, f, 0, out⟩ k (List.replicate n 0 ++ rest) = rloop ⟨0, 0, 0, 0⟩ [] ⟨7, f, 0, out ++ List.replicate n 7⟩ (k + n) rest := by
  intro n
  induction n with
  | zero => intro k out rest; simp
  | succ n ih =>
    intro k out rest
    rw [List.replicate_succ, List.cons_append, rloop, rstep_zero]
    simp only
    rw [ih, List.replicate_succ, List.append_assoc, List.singleton_append, Nat.add_assoc, Nat.add_comm 1 n]
theorem many_ok : runS ⟨0, 0, 0, 0⟩ 7 (List.replicate 1024 0) [] = (List.replicate 1024 7, ⟨1, 0, 0⟩, 0) := by
  refine run_some (r := ⟨0, 0, 0, 0⟩) (bal := 7) (moves := List.replicate 1024 0) (oks := []) (st := ⟨7, ⟨1, 0, 0⟩, 0, List.replicate 1024 7⟩) chk0 (by rw [List.length_replicate]; omega) rfl ?_
  have h := rloop_zero ⟨1, 0, 0⟩ 1024 0 [] []
  rw [List.append_nil] at h
  rw [h, rloop, List.nil_append]
theorem many_long (mo : Nat) (h : 0 < mo) (zs : List Int) (hz : zs.length = 1024 + mo) : runS ⟨0, 0, 0, 0⟩ 7 zs [] = ([], ⟨0, 0, 0⟩, 3) := run_long chk0 (by omega)
/-- the moves, one of them too great -/
def spl (a b : Nat) : List Int := List.replicate a 0 ++ 1125899906842625 :: List.replicate b 0
theorem spl_len (a b : Nat) : (spl a b).length = a + 1 + b := by
  unfold spl; rw [List.length_append, List.length_cons, List.length_replicate, List.length_replicate]; omega
theorem spl_at (a b i : Nat) (h : i < a + 1 + b) : (spl a b).getD i 0 = if i = a then 1125899906842625 else 0 := by
  unfold spl
  rw [List.getD_eq_getElem?_getD]
  rcases Nat.lt_trichotomy i a with h1 | h1 | h1
  · rw [List.getElem?_append_left (by rw [List.length_replicate]; exact h1), if_neg (by omega), List.getElem?_replicate, if_pos h1]; rfl
  · subst h1
    rw [List.getElem?_append_right (by rw [List.length_replicate]; exact Nat.le_refl _), List.length_replicate, Nat.sub_self, if_pos rfl]; rfl
  · obtain ⟨d, rfl⟩ : ∃ d, i = a + 1 + d := ⟨i - a - 1, by omega⟩
    rw [List.getElem?_append_right (by rw [List.length_replicate]; omega), List.length_replicate, if_neg (by omega)]
    have e : a + 1 + d - a = d + 1 := by omega
    rw [e, List.getElem?_cons_succ, List.getElem?_replicate, if_pos (by omega)]; rfl
theorem many_spoilt (b : Nat) (hb : 5 + 1 + b = 1024) : runS ⟨0, 0, 0, 0⟩ 7 (spl 5 b) [] = ([], ⟨0, 0, 0⟩, 13) := by
  refine run_none chk0 (by rw [spl_len]; omega) rfl ?_
  unfold spl
  rw [rloop_zero, rloop, step_fail]
  show (adS 7 1125899906842625).2 ≠ 0
  decide
theorem Ri.cells {w : World} {g n : Nat} {t : TypeId} {cs : Array Value} {zs : List Int} (h : Bx w g t cs) (hl : zs.length = n) (hn : n ≤ 2000) (hc : ∀ i, i < n → cs[i]? = some (.int .i64 (zs.getD i 0))) : Ri w w.heap.size (some ⟨g, 0, none⟩) n zs := by
  refine ⟨hl, by omega, fun _ => ⟨g, 0, rfl, h.lt, fun i hi => ?_⟩⟩
  rw [Nat.zero_add, h.cell i]
  exact hc i hi
theorem made_at (n i : Nat) (hi : i < n) : (madeCells #[Value.int .i64 0] n)[i]? = some (.int .i64 0) := by simp [madeCells, hi, Nat.mod_one]
theorem rep_at (n i : Nat) (hi : i < n) (x : Int) : (List.replicate n x).getD i 0 = x := by
  rw [List.getD_eq_getElem?_getD, List.getElem?_replicate, if_pos hi]; rfl
theorem spoil_at (n i : Nat) (h6 : 6 ≤ n) (hi : i < n) : ((madeCells #[Value.int .i64 0] n).setIfInBounds 5 (.int .i64 1125899906842625))[i]? = some (.int .i64 ((spl 5 (n - 6)).getD i 0)) := by
  rw [spl_at 5 (n - 6) i (by omega), Array.getElem?_setIfInBounds]
  by_cases h : 5 = i
  · subst h
    rw [if_pos rfl, if_pos rfl, size_madeCells, if_pos hi]
  · rw [if_neg h, if_neg (fun e => h e.symm), made_at _ _ hi]

set_option maxHeartbeats 2000000 in
set_option maxRecDepth 100000 in
theorem many_law (mo : Nat) (sp : Bool) (hmo : mo ≤ 255) (w : World) : Calls Try.prog 7 #[.int .u8 mo, .bool sp] w fun e w' => e = .returned (.bool true) ∧ Below w.heap.size w w' := by
  by_cases h100 : 100 < mo
  · have h1 : (100 : Int) < (mo : Int) := by omega
    go_enter Try.func7, Try.ntmps7
    go_wp2_with fail
    go_ret
    exact ⟨rfl, Below.refl _ _⟩
  · have h1 : ¬ (100 : Int) < (mo : Int) := by omega
    have hmk := fun (w : World) => run_make_row' (P := Try.prog) 42 3 (.int .i64 0) 8 Try.underlying42 int_info rfl .i64 .i64 (1024 + mo) (by omega) (by omega) w
    have ec : ((1024 + mo : Nat) : Int) = 1024 + (mo : Int) := by omega
    rw [ec] at hmk
    have hc5 := made_at (1024 + mo) 5 (by omega)
    by_cases h0 : 0 < mo
    · have h2 : (0 : Int) < (mo : Int) := by omega
      cases sp
      · skip
        have hA0 := b1 w (.cells (madeCells #[Value.int .i64 0] (1024 + mo)) 3)
        have HR0 : Hid (Ri (w.alloc (.cells (madeCells #[Value.int .i64 0] (1024 + mo)) 3)) (w.alloc (.cells (madeCells #[Value.int .i64 0] (1024 + mo)) 3)).heap.size (some ⟨w.heap.size, 0, none⟩) (1024 + mo) (List.replicate (1024 + mo) 0)) := Lib.hid (Ri.cells (Bx.new _ _ _) (List.length_replicate ..) (by omega) (fun i hi => by rw [made_at _ _ hi, rep_at _ _ hi]))
        go_enter Try.func7, Try.ntmps7
        go_wp2_with fail
        refine (run_any 0 0 0 0 7 _ (1024 + mo) (1024 + mo) (List.replicate (1024 + mo) 0) _ 0 0 [] _ HR0.out Rb.nil_).mono ?_
        rintro e w1 ⟨vs, he, ho, hb1⟩
        rw [many_long mo h0 _ (List.length_replicate ..)] at he ho
        obtain ⟨A5, c5, rfl, _⟩ := Ri.owned ho (by simp)
        have he : e = .returned (.tuple #[.slice A5 0 c5, .agg #[.int .i64 0, .int .i64 0, .int .i64 0], .int .i64 3]) := he
        subst he
        have hA1 := upB hA0 hb1
        clear hb1 ho hA0 HR0 hmk
        go_wp2_with fail
        refine (alive_any _).mono ?_
        rintro e w2 ⟨rfl, hb2⟩
        have hA2 := upB (hA1.alloc hA1.size _) hb2
        go_wp2_with fail
        go_ret
        exact ⟨rfl, hA2⟩
      · skip
        have hA0 := b1 w (.cells ((madeCells #[Value.int .i64 0] (1024 + mo)).setIfInBounds 5 (.int .i64 1125899906842625)) 3)
        have HR0 : Hid (Ri (w.alloc (.cells ((madeCells #[Value.int .i64 0] (1024 + mo)).setIfInBounds 5 (.int .i64 1125899906842625)) 3)) (w.alloc (.cells ((madeCells #[Value.int .i64 0] (1024 + mo)).setIfInBounds 5 (.int .i64 1125899906842625)) 3)).heap.size (some ⟨w.heap.size, 0, none⟩) (1024 + mo) (spl 5 (1024 + mo - 6))) := Lib.hid (Ri.cells (Bx.new _ _ _) (by rw [spl_len]; omega) (by omega) (fun i hi => by exact spoil_at _ _ (by omega) hi))
        go_enter Try.func7, Try.ntmps7
        go_wp2_with fail
        refine (run_any 0 0 0 0 7 _ (1024 + mo) (1024 + mo) (spl 5 (1024 + mo - 6)) _ 0 0 [] _ HR0.out Rb.nil_).mono ?_
        rintro e w1 ⟨vs, he, ho, hb1⟩
        rw [many_long mo h0 _ (by rw [spl_len]; omega)] at he ho
        obtain ⟨A5, c5, rfl, _⟩ := Ri.owned ho (by simp)
        have he : e = .returned (.tuple #[.slice A5 0 c5, .agg #[.int .i64 0, .int .i64 0, .int .i64 0], .int .i64 3]) := he
        subst he
        have hA1 := upB hA0 hb1
        clear hb1 ho hA0 HR0 hmk
        go_wp2_with fail
        refine (alive_any _).mono ?_
        rintro e w2 ⟨rfl, hb2⟩
        have hA2 := upB (hA1.alloc hA1.size _) hb2
        go_wp2_with fail
        go_ret
        exact ⟨rfl, hA2⟩
    · have h0' : mo = 0 := by omega
      have h2 : ¬ (0 : Int) < (mo : Int) := by omega
      have hmk0 : ∀ w : World, (Instr.makeSlice 42 (.int .i64 1024) (.int .i64 1024)).run Try.prog w = .ok (.slice (some ⟨w.heap.size, 0, none⟩) 1024 1024) (w.alloc (.cells (madeCells #[.int .i64 0] 1024) 3)) := fun w => run_make_row' (P := Try.prog) 42 3 (.int .i64 0) 8 Try.underlying42 int_info rfl .i64 .i64 1024 (by omega) (by omega) w
      have hc50 := made_at 1024 5 (by omega)
      clear hc5
      cases sp
      · subst h0'
        have hA0 := b1 w (.cells (madeCells #[Value.int .i64 0] 1024) 3)
        have HR0 : Hid (Ri (w.alloc (.cells (madeCells #[Value.int .i64 0] 1024) 3)) (w.alloc (.cells (madeCells #[Value.int .i64 0] 1024) 3)).heap.size (some ⟨w.heap.size, 0, none⟩) 1024 (List.replicate 1024 0)) := Lib.hid (Ri.cells (Bx.new _ _ _) (List.length_replicate ..) (by omega) (fun i hi => by rw [made_at _ _ hi, rep_at _ _ hi]))
        go_enter Try.func7, Try.ntmps7
        go_wp2_with fail
        refine (run_any 0 0 0 0 7 _ 1024 1024 (List.replicate 1024 0) _ 0 0 [] _ HR0.out Rb.nil_).mono ?_
        rintro e w1 ⟨vs, he, ho, hb1⟩
        rw [many_ok] at he ho
        have ho : w1.ownsRow (w.alloc (.cells (madeCells #[Value.int .i64 0] 1024) 3)).heap.size 3 1 vs (List.replicate 1024 (7 : Int)).length ((List.replicate 1024 (7 : Int)).map (Value.int .i64)) := ho
        rw [List.length_replicate] at ho
        obtain ⟨g7, cap7, rfl, _, hlt7⟩ := ho.form (by omega)
        have d0 : w1.cell? ⟨g7, 0, none⟩ = some (.int .i64 7) := by have := ho.cells (g := g7) rfl 0 (.int .i64 7) (by rw [List.getElem?_map, List.getElem?_replicate, if_pos (by omega)]; rfl); simpa [Addr.add] using this
        have he : e = .returned (.tuple #[.slice (some ⟨g7, 0, none⟩) 1024 cap7, .agg #[.int .i64 1, .int .i64 0, .int .i64 0], .int .i64 0]) := he
        subst he
        have hA1 := upB hA0 hb1
        clear hb1 ho hA0 HR0 hmk
        go_wp2_with fail
        refine (alive_any _).mono ?_
        rintro e w2 ⟨rfl, hb2⟩
        have hA2 := upB (hA1.alloc hA1.size _) hb2
        go_wp2_with fail
        go_ret
        exact ⟨rfl, hA2⟩
      · subst h0'
        have hA0 := b1 w (.cells ((madeCells #[Value.int .i64 0] 1024).setIfInBounds 5 (.int .i64 1125899906842625)) 3)
        have HR0 : Hid (Ri (w.alloc (.cells ((madeCells #[Value.int .i64 0] 1024).setIfInBounds 5 (.int .i64 1125899906842625)) 3)) (w.alloc (.cells ((madeCells #[Value.int .i64 0] 1024).setIfInBounds 5 (.int .i64 1125899906842625)) 3)).heap.size (some ⟨w.heap.size, 0, none⟩) 1024 (spl 5 (1024 - 6))) := Lib.hid (Ri.cells (Bx.new _ _ _) (by rw [spl_len]) (by omega) (fun i hi => by exact spoil_at _ _ (by omega) hi))
        go_enter Try.func7, Try.ntmps7
        go_wp2_with fail
        refine (run_any 0 0 0 0 7 _ 1024 1024 (spl 5 (1024 - 6)) _ 0 0 [] _ HR0.out Rb.nil_).mono ?_
        rintro e w1 ⟨vs, he, ho, hb1⟩
        rw [many_spoilt _ (by omega)] at he ho
        obtain ⟨A5, c5, rfl, _⟩ := Ri.owned ho (by simp)
        have he : e = .returned (.tuple #[.slice A5 0 c5, .agg #[.int .i64 0, .int .i64 0, .int .i64 0], .int .i64 13]) := he
        subst he
        have hA1 := upB hA0 hb1
        clear hb1 ho hA0 HR0 hmk
        go_wp2_with fail
        refine (alive_any _).mono ?_
        rintro e w2 ⟨rfl, hb2⟩
        have hA2 := upB (hA1.alloc hA1.size _) hb2
        go_wp2_with fail
        go_ret
        exact ⟨rfl, hA2⟩
end Go.Proofs.Ytodkcnhdiddbkaa.Wk
