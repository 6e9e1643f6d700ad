/- The walk of RefillFloor. Condition: the slice reads as the list of numbers. -/
import Derived.Test.YtodkcnhdiddbkaaLawC
import Derived.Test.YtodkcnhdiddbkaaFmath
import Derived.Deep.OwnRows
set_option linter.unusedSimpArgs false
set_option linter.unusedVariables false
namespace Go.Proofs.Ytodkcnhdiddbkaa.Wk
open Go.RowKit Go.Deep
open Go.Proofs.Ytodkcnhdiddbkaa.Mt
def vls (l : List Int) : List Value := l.map (Value.int .i64)
def bls (l : List Bool) : List Value := l.map Value.bool
theorem Bx.vcell {w : World} {g : Nat} {t : TypeId} {l : List Int} (h : Bx w g t (vls l).toArray) {i : Nat} (hi : i < l.length) : w.cell? ⟨g, i, none⟩ = some (.int .i64 (l.getD i 0)) := by
  rw [h.cell]; simp [vls, hi]
theorem Bx.bcell {w : World} {g : Nat} {t : TypeId} {l : List Bool} (h : Bx w g t (bls l).toArray) {i : Nat} (hi : i < l.length) : w.cell? ⟨g, i, none⟩ = some (.bool (l.getD i false)) := by
  rw [h.cell]; simp [bls, hi]
theorem Bx.vput {w : World} {g : Nat} {t : TypeId} {l : List Int} (h : Bx w g t (vls l).toArray) (i : Nat) (v : Int) : Bx (w.setCell ⟨g, i, none⟩ (.int .i64 v)) g t (vls (l.set i v)).toArray := by
  have h1 := heap_setCell_same w g i _ t (.int .i64 v) h
  unfold Bx
  rw [h1]
  simp [vls, List.map_set]
theorem Bx.bput {w : World} {g : Nat} {t : TypeId} {l : List Bool} (h : Bx w g t (bls l).toArray) (i : Nat) (v : Bool) : Bx (w.setCell ⟨g, i, none⟩ (.bool v)) g t (bls (l.set i v)).toArray := by
  have h1 := heap_setCell_same w g i _ t (.bool v) h
  unfold Bx
  rw [h1]
  simp [bls, List.map_set]
theorem Ri.vls_ {w : World} {g : Nat} {t : TypeId} {zs : List Int} (h : Bx w g t (vls zs).toArray) (hl : zs.length ≤ 2000) : Ri w w.heap.size (some ⟨g, 0, none⟩) zs.length zs := by
  refine ⟨rfl, by omega, fun _ => ⟨g, 0, rfl, h.lt, fun i hi => ?_⟩⟩
  rw [Nat.zero_add]
  exact h.vcell hi
theorem Rb.bls_ {w : World} {g : Nat} {t : TypeId} {zs : List Bool} (h : Bx w g t (bls zs).toArray) (hl : zs.length ≤ 2000) : Rb w w.heap.size (some ⟨g, 0, none⟩) zs.length zs := by
  refine ⟨rfl, by omega, fun _ => ⟨g, 0, rfl, h.lt, fun i hi => ?_⟩⟩
  rw [Nat.zero_add]
  exact h.bcell hi
theorem bool_info : (Try.prog.info? 4).map (fun i => (i.zero, i.size, i.bytes)) = some (some (.bool false), 1, 1) := by kernel_rfl
theorem make_ints (c : Int) (xs : List Int) (n : Nat) (h : n ≤ 200) (w : World) : (Instr.makeSlice 42 (.int .i64 (n : Int)) (.int .i64 (n : Int))).run Try.prog w = .ok (.slice (some ⟨w.heap.size, 0, none⟩) n n) (w.alloc (.cells (vls (fl c xs n 0)).toArray 3)) := by
  rw [run_make_row' (P := Try.prog) 42 3 (.int .i64 0) 8 Try.underlying42 int_info rfl .i64 .i64 n (by omega) (by omega) w]
  congr 3
  apply Array.ext
  · simp [madeCells, vls, fl]
  · intro j h1 h2
    simp [madeCells, vls, fl, Nat.mod_one]
theorem make_bools (n : Nat) (h : n ≤ 200) (w : World) : (Instr.makeSlice 43 (.int .i64 (n : Int)) (.int .i64 (n : Int))).run Try.prog w = .ok (.slice (some ⟨w.heap.size, 0, none⟩) n n) (w.alloc (.cells (bls (ft n 0)).toArray 4)) := by
  rw [run_make_row' (P := Try.prog) 43 4 (.bool false) 1 Try.underlying43 bool_info rfl .i64 .i64 n (by omega) (by omega) w]
  congr 3
  apply Array.ext
  · simp [madeCells, bls, ft]
  · intro j h1 h2
    simp [madeCells, bls, ft, Nat.mod_one]
/-- a slice of small numbers reads as the list xs -/
def Rs (w : World) (B : Nat) (A : Option Addr) (n : Nat) (xs : List Int) : Prop :=
  xs.length = n ∧ n ≤ 9223372036854775807 ∧ (0 < n → ∃ b off, A = some ⟨b, off, none⟩ ∧ b < B ∧ ∀ i, i < n → w.cell? ⟨b, off + i, none⟩ = some (.int .u16 (xs.getD i 0))) ∧ ∀ i, 0 ≤ xs.getD i 0 ∧ xs.getD i 0 ≤ 65535
theorem chk_below {b c t v : Int} (h : chk ⟨b, c, t, v⟩ = 0) : fit b = true := by
  unfold chk at h
  split at h
  · rename_i h1
    rw [show b = 0 from h1.1]; rfl
  · split at h
    · omega
    · rename_i h2
      cases e : fit b
      · exact absurd (Or.inl e) h2
      · rfl
set_option maxHeartbeats 8000000 in
set_option maxRecDepth 100000 in
theorem floor_law (b c t v bal : Int) (A : Option Addr) (n k0 : Nat) (xs : List Int) (w : World) (h : Rs w w.heap.size A n xs) :
    Calls Try.prog 10 #[.agg #[.int .i64 b, .int .i64 c, .int .i64 t, .int .i64 v], .int .i64 bal, .slice A n k0] w fun e w' => e = .returned (.bool true) ∧ Below w.heap.size w w' := by
  have hn := h.2.1
  have HA := Lib.hid h
  clear h
  have hA0 := b1 w (.cells #[.int .i64 b, .int .i64 c, .int .i64 t, .int .i64 v] 23)
  have HR0 := Lib.hid (Bx.new w 23 #[.int .i64 b, .int .i64 c, .int .i64 t, .int .i64 v])
  obtain ⟨ch, hch⟩ : ∃ x, chk ⟨b, c, t, v⟩ = x := ⟨_, rfl⟩
  have HC := Lib.hid hch
  go_enter Try.func10, Try.ntmps10
  go_wp2_with fail
  refine (check_any b c t v _).mono ?_
  rintro e w1 ⟨rfl, hb1⟩
  rw [HC.out]
  have hA1 := upB hA0 hb1
  have HR1 := Lib.hid (HR0.out.next hb1)
  clear hb1 hA0 HR0
  obtain ⟨r0, r1, r2, r3⟩ := HR1.out.cells4
  by_cases hc : ch = 0
  · subst hc
    by_cases q1 : c < 1
    · go_wp2_with fail
      go_ret
      exact ⟨rfl, hA1⟩
    · have q1' : decide (c < 1) = false := decide_eq_false q1
      by_cases q2 : 200 < n
      · have q2I : (200 : Int) < (n : Int) := by omega
        go_wp2_with fail
        go_ret
        exact ⟨rfl, hA1⟩
      · have q2I : ¬ (200 : Int) < (n : Int) := by omega
        have hcf := (fit_iff _).1 (chk_cents HC.out)
        have hmk1 := fun w' => make_ints c xs n (by omega) w'
        have hmk2 := fun w' => make_bools n (by omega) w'
        have hw1 : w.heap.size < w1.heap.size := HR1.out.lt
        have hc1 : 1 ≤ c := by omega
        go_wp2_with fail
        clear hmk1 hmk2 r0 r1 r2 r3 hch
        go_loopw [9] (fun i wr => ∃ k : Nat, k ≤ n ∧ i = .int .i64 k ∧ Hid (Below w.heap.size w wr) ∧ Hid (Bx wr w.heap.size 23 #[.int .i64 b, .int .i64 c, .int .i64 t, .int .i64 v]) ∧ Hid (Bx wr w1.heap.size 3 (vls (fl c xs n k)).toArray) ∧ Hid (Bx wr (w1.heap.size + 1) 4 (bls (ft n k)).toArray)) (fun i _ => n - (intOf i).toNat)
        case atStart => exact ⟨0, Nat.zero_le _, rfl, Lib.hid ((hA1.alloc hA1.size _).alloc (Nat.le_trans hA1.size (by simp)) _), Lib.hid ((HR1.out.alloc _).alloc _), Lib.hid ((Bx.new _ _ _).alloc _), Lib.hid (Bx.newAt (by simp))⟩
        case round =>
          obtain ⟨k, hk, rfl, HW, HB, HD, HO⟩ := hrel
          by_cases hlt : k < n
          · have hltI : (k : Int) < (n : Int) := by omega
            obtain ⟨bz, oz, rfl, hbz, hcc⟩ := HA.out.2.2.1 (by omega)
            have d1 := (HW.out.cell (p := ⟨bz, oz + k, none⟩) hbz).trans (hcc k hlt)
            clear hcc
            have hx := HA.out.2.2.2 k
            have r1 := HB.out.cells4.2.1
            have dc := HD.out.vcell (i := k) (by rw [fl_len]; exact hlt)
            have df := HD.out.free k
            have oc := HO.out.bcell (i := k) (by rw [ft_len]; exact hlt)
            have of := HO.out.free k
            have HS := Lib.hid (fl_set (c := c) (xs := xs) hlt)
            have HT := Lib.hid (ft_set hlt)
            have hmv := mv_in (x := xs.getD k 0) hc1
            obtain ⟨x, hxx⟩ : ∃ x, xs.getD k 0 = x := ⟨_, rfl⟩
            rw [hxx] at d1 hx HS hmv
            obtain ⟨z0, hz0⟩ : ∃ z, (fl c xs n k).getD k 0 = z := ⟨_, rfl⟩
            rw [hz0] at dc
            obtain ⟨z1, hz1⟩ : ∃ z, (ft n k).getD k false = z := ⟨_, rfl⟩
            rw [hz1] at oc
            clear hxx hz0 hz1
            obtain ⟨y, hy⟩ : ∃ y, x % (c + 1) = y := ⟨_, rfl⟩
            rw [hy] at hmv
            have HMV : Hid (mv c x = -y) := Lib.hid (by rw [mv, hy])
            rw [HMV.out] at HS
            have E0 : IntKind.i64.wrap (c + 1) = c + 1 := IntWalk.i64_in _ (by omega)
            have E1 : x.tmod (c + 1) = y := by rw [IntWalk.rem_in _ _ hx.1, hy]
            have E2 : IntKind.i64.wrap y = y := IntWalk.i64_in _ (by omega)
            have E4 : IntKind.i64.wrap (-y) = -y := IntWalk.i64_in _ (by omega)
            have E5 : IntKind.i64.wrap x = x := IntWalk.i64_in _ (by omega)
            have hz2 : ¬ c + 1 = 0 := by omega
            have hz3 : (c + 1 == 0) = false := by simp [hz2]
            clear hy HMV
            go_wp2_with fail
            first | (go_region_with fail) | fail
            all_goals (have HW2 := Lib.hid ((HW.out.setCell (p := ⟨w1.heap.size, k, none⟩) (by show w.heap.size ≤ w1.heap.size; omega) (.int .i64 (-y))).drew))
            all_goals (have HB2 := Lib.hid ((HB.out.far (g' := w1.heap.size) (by omega) k (.int .i64 (-y))).next (Below.refl _ _).drew))
            all_goals (have HD2 := HD.out.vput k (-y); rw [HS.out] at HD2; have HD2 := Lib.hid (HD2.next (Below.refl _ _).drew))
            all_goals (have HO2 := Lib.hid ((HO.out.far (g' := w1.heap.size) (by omega) k (.int .i64 (-y))).next (Below.refl _ _).drew))
            all_goals (clear HW HB HD HO HS d1 r1 dc df oc of E0 E1 E2 E4 E5 hz2 hz3)
            all_goals (generalize (wr.setCell ⟨w1.heap.size, k, none⟩ (.int .i64 (-y))).drew = w2 at HW2 HB2 HD2 HO2 ⊢)
            all_goals (have oc := HO2.out.bcell (i := k) (by rw [ft_len]; exact hlt); have of := HO2.out.free k)
            all_goals (obtain ⟨z1, hz1⟩ : ∃ z, (ft n k).getD k false = z := ⟨_, rfl⟩; rw [hz1] at oc; clear hz1)
            all_goals go_wp2_with fail
            all_goals go_roundw
            all_goals first | exact ⟨k + 1, by omega, by go_num, Lib.hid (HW2.out.setCell (p := ⟨w1.heap.size + 1, k, none⟩) (by show w.heap.size ≤ w1.heap.size + 1; omega) (.bool true)), Lib.hid (HB2.out.far (g' := w1.heap.size + 1) (by omega) k (.bool true)), Lib.hid (HD2.out.far (g' := w1.heap.size + 1) (by omega) k (.bool true)), Lib.hid (by have := HO2.out.bput k true; rw [HT.out] at this; exact this)⟩ | (simp [intOf]; omega)
          · have hltI : ¬ (k : Int) < (n : Int) := by omega
            have hkn : k = n := by omega
            subst hkn
            clear hlt hk hltI
            have hri := Ri.vls_ HD.out (by rw [fl_len]; omega)
            rw [fl_len] at hri
            have HRI := Lib.hid hri
            have hrb := Rb.bls_ HO.out (by rw [ft_len]; omega)
            rw [ft_len] at hrb
            have HRB := Lib.hid hrb
            clear hri hrb HD HO
            obtain ⟨⟨out, ⟨s, g, q⟩, er⟩, hr⟩ : ∃ p, runS ⟨b, c, t, v⟩ bal (fl c xs k k) (ft k k) = p := ⟨_, rfl⟩
            have hrl := run_len ⟨b, c, t, v⟩ bal (fl c xs k k) (ft k k)
            rw [hr] at hrl
            have HX := Lib.hid hr
            have HL := Lib.hid hrl.1
            obtain ⟨r0, r1, r2, r3⟩ := HB.out.cells4
            have hbI : -1125899906842624 ≤ b ∧ b ≤ 1125899906842624 := (fit_iff _).1 (chk_below HC.out)
            go_wp2_with fail
            refine (run_any b c t v bal _ k k (fl c xs k k) _ k k (ft k k) _ HRI.out HRB.out).mono ?_
            rintro e w2 ⟨vs, he, ho, hb1⟩
            rw [HX.out] at he ho
            have he : e = .returned (.tuple #[vs, .agg #[.int .i64 s, .int .i64 g, .int .i64 q], .int .i64 er]) := he
            subst he
            obtain ⟨A5, c5, rfl, hri⟩ := Ri.owned ho (Nat.le_trans (m := 1024) HL.out (by omega))
            have hri : Ri w2 w2.heap.size A5 out.length out := hri
            have HO1 := Lib.hid hri
            have HA2 := Lib.hid (HW.out.trans (hb1.mono HW.out.size))
            have HB2 := Lib.hid (HB.out.next hb1)
            clear ho hb1 HW HB hri r0 r1 r2 r3 HRI HRB
            obtain ⟨m, hm⟩ : ∃ m, out.length = m := ⟨_, rfl⟩
            have e5 : Value.slice A5 (List.length (out, (⟨s, g, q⟩ : Fi), er).1) c5 = Value.slice A5 m c5 := by show Value.slice A5 out.length c5 = _; rw [hm]
            rw [e5]
            rw [hm] at HO1 HL
            clear e5 hrl
            have hmn : m ≤ 1024 := HL.out
            clear hm
            by_cases he0 : er = 0
            · subst he0
              obtain ⟨hf, hmin⟩ := run_floor hr (by exact hc1) (ft_all k) (fl_ge hc1 k) (by rw [fl_len, ft_len]; exact Nat.le_refl _)
              injection hf with f1 f2 f3
              subst f1 f2 f3
              have HMIN : Hid (∀ j, j < m → min b bal ≤ out.getD j 0) := Lib.hid (fun j hj => by have hj2 : j < out.length := by { have := HO1.out.1; omega }; have := hmin out[j] (List.getElem_mem hj2); simpa [List.getD, List.getElem?_eq_getElem hj2] using this)
              clear hr hmin
              have HA3 := Lib.hid (HA2.out.alloc HA2.out.size (.cells #[.int .i64 1, .int .i64 0, .int .i64 0] 30))
              have HB3 := Lib.hid (HB2.out.alloc (.cells #[.int .i64 1, .int .i64 0, .int .i64 0] 30))
              have HF3 := Lib.hid (Bx.new w2 30 #[.int .i64 1, .int .i64 0, .int .i64 0])
              have HO3 := Lib.hid (HO1.out.up (b1 w2 (.cells #[.int .i64 1, .int .i64 0, .int .i64 0] 30)))
              go_wp2_with fail
              go_loopw [13] (fun i wv => ∃ j : Nat, j ≤ m ∧ i = .int .i64 j ∧ Hid (Below (w2.alloc (.cells #[.int .i64 1, .int .i64 0, .int .i64 0] 30)).heap.size (w2.alloc (.cells #[.int .i64 1, .int .i64 0, .int .i64 0] 30)) wv)) (fun i _ => m - (intOf i).toNat)
              case atStart => exact ⟨0, Nat.zero_le _, rfl, Lib.hid (Below.refl _ _)⟩
              case round =>
                obtain ⟨j, hj, rfl, HV⟩ := hrel
                by_cases hlt : j < m
                · have hltI : (j : Int) < (m : Int) := by omega
                  obtain ⟨bo, oo, rfl, hbo, o1⟩ := (HO3.out.up HV.out).at_ hlt
                  obtain ⟨r0, r1, r2, r3⟩ := (HB3.out.next HV.out).cells4
                  have hmz := HMIN.out j hlt
                  obtain ⟨z, hz⟩ : ∃ z, out.getD j 0 = z := ⟨_, rfl⟩
                  rw [hz] at o1 hmz
                  clear hz
                  have hd : decide (z < min b bal) = false := decide_eq_false (by omega)
                  have hd2 : ¬ z < min b bal := by omega
                  clear hmz
                  go_wp2_with fail
                  go_quiet (fail)
                  go_wp2_with fail
                  go_roundw
                  case rel => exact ⟨j + 1, by omega, by go_num, Lib.hid (below_drewN HV.out _)⟩
                  case measure => simp [intOf]; omega
                · have hltI : ¬ (j : Int) < (m : Int) := by omega
                  obtain ⟨x0, x1, x2⟩ := (HF3.out.next HV.out).cells3
                  go_wp2_with fail
                  refine (alive_any _).mono ?_
                  rintro e w4 ⟨rfl, hb4⟩
                  go_wp2_with fail
                  go_ret
                  exact ⟨rfl, upB (upB (W := w2.alloc (.cells #[.int .i64 1, .int .i64 0, .int .i64 0] 30)) HA3.out HV.out) hb4⟩
            · have g3 : (er == 0) = false := by simpa using he0
              have g4 : (er != 0) = true := by simpa using he0
              clear hr he0
              go_wp2_with fail
              go_ret
              exact ⟨rfl, HA2.out.alloc HA2.out.size _⟩
  · have e1 : (ch == 0) = false := by simp [hc]
    have e2 : (ch != 0) = true := by simp [hc]
    clear hc hch
    go_wp2_with fail
    go_ret
    exact ⟨rfl, hA1⟩
end Go.Proofs.Ytodkcnhdiddbkaa.Wk
