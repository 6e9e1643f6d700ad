/- Split in the layer, walked. Conditions: the weights read as the list. -/
import Derived.Test.YtjipcopfggnlkaaDoorSr
import Derived.Deep.OwnRows
set_option linter.unusedSimpArgs false
set_option linter.unusedVariables false
namespace Go.Proofs.YtjipcopfggnlkaaDoor.Mt
open Go
/-- the first i of n places hold what f gives, the others 0 -/
def pre (f : Nat → Nat) (n i : Nat) : List Int := (List.range n).map (fun j => if j < i then ((f j : Nat) : Int) else 0)
theorem pre_len (f : Nat → Nat) (n i : Nat) : (pre f n i).length = n := by simp [pre]
theorem pre_at (f : Nat → Nat) {n i j : Nat} (h : j < n) : iat (pre f n i) j = if j < i then ((f j : Nat) : Int) else 0 := by
  unfold iat pre
  rw [List.getD_eq_getElem?_getD, List.getElem?_map, List.getElem?_range h]
  rfl
theorem pre_set (f : Nat → Nat) {n i : Nat} (h : i < n) : (pre f n i).set i ((f i : Nat) : Int) = pre f n (i + 1) := by
  apply list_ext_iat
  · rw [List.length_set, pre_len, pre_len]
  · intro j hj
    rw [List.length_set, pre_len] at hj
    rw [iat_set (by rw [pre_len]; exact h), pre_at _ hj, pre_at _ hj]
    by_cases hij : i = j
    · subst hij; rw [if_pos rfl, if_pos (by omega)]
    · rw [if_neg hij]
      by_cases h2 : j < i
      · rw [if_pos h2, if_pos (by omega)]
      · rw [if_neg h2, if_neg (by omega)]
theorem pre_bump (f : Nat → Nat) (n : Nat) (o : List Nat) : pre f n n = bump f n o 0 := by
  apply list_ext_iat
  · rw [pre_len, bump_len]
  · intro j hj
    rw [pre_len] at hj
    rw [pre_at _ hj, bump_at _ _ _ _ hj, if_pos hj]
    simp
theorem pre_zero (f : Nat → Nat) (n : Nat) : pre f n 0 = pre (fun _ => 0) n 0 := by
  apply list_ext_iat
  · rw [pre_len, pre_len]
  · intro j hj
    rw [pre_len] at hj
    rw [pre_at _ hj, pre_at _ hj, if_neg (by omega), if_neg (by omega)]
theorem sp_sign {T : Int} {ws : List Int} (h : T < 0 ∨ fitB T = false) : spE T ws = 13 := if_pos h
theorem sp_len {T : Int} {ws : List Int} (h : ¬ (T < 0 ∨ fitB T = false)) (h1 : 1024 < ws.length) : spE T ws = 3 := by unfold spE; rw [if_neg h, if_pos h1]
theorem sp_bad {T : Int} {ws : List Int} (h : ¬ (T < 0 ∨ fitB T = false)) (h1 : ¬ 1024 < ws.length) (h2 : ¬ wOk ws) : spE T ws = 1 := by unfold spE; rw [if_neg h, if_neg h1, if_pos h2]
theorem sp_zero {T : Int} {ws : List Int} (h : ¬ (T < 0 ∨ fitB T = false)) (h1 : ¬ 1024 < ws.length) (h2 : wOk ws) (h3 : su ws ws.length = 0) : spE T ws = 1 := by unfold spE; rw [if_neg h, if_neg h1, if_neg (fun h9 => h9 h2), if_pos h3]
theorem sp_good {T : Int} {ws : List Int} (h : ¬ (T < 0 ∨ fitB T = false)) (h1 : ¬ 1024 < ws.length) (h2 : wOk ws) (h3 : su ws ws.length ≠ 0) : spE T ws = 0 := by unfold spE; rw [if_neg h, if_neg h1, if_neg (fun h9 => h9 h2), if_neg h3]
theorem wn_le {ws : List Int} {i : Nat} (hi : i < ws.length) : wn ws i ≤ sm (wn ws) ws.length := by
  have h := sm_le (wn ws) (show i + 1 ≤ ws.length by omega)
  rw [sm] at h
  omega
theorem hi_lt {t a S : Nat} (ht : t < 18446744073709551616) (h : a ≤ S) (hS : 0 < S) : t * a / 18446744073709551616 < S := by
  rw [Nat.div_lt_iff_lt_mul (by decide), Nat.mul_comm S]
  exact Nat.lt_of_le_of_lt (Nat.mul_le_mul_left t h) (Nat.mul_lt_mul_of_pos_right ht hS)
end Go.Proofs.YtjipcopfggnlkaaDoor.Mt
namespace Go.Proofs.YtjipcopfggnlkaaDoor.Wk
open Go.RowKit Go.Deep
open Go.Proofs.YtjipcopfggnlkaaDoor.Mt
theorem int_info : (Tryd.prog.info? 3).map (fun i => (i.zero, i.size, i.bytes)) = some (some (.int .i64 0), 1, 8) := by kernel_rfl
theorem u64_info : (Tryd.prog.info? 52).map (fun i => (i.zero, i.size, i.bytes)) = some (some (.int .u64 0), 1, 8) := by kernel_rfl
theorem make_i (f : Nat → Nat) (n : Nat) (h : n ≤ 2000) (w : World) : (Instr.makeSlice 22 (.int .i64 (n : Int)) (.int .i64 (n : Int))).run Tryd.prog w = .ok (.slice (some ⟨w.heap.size, 0, none⟩) n n) (w.alloc (.cells (vk .i64 (pre f n 0)).toArray 3)) := by
  rw [run_make_row' (P := Tryd.prog) 22 3 (.int .i64 0) 8 Tryd.underlying22 int_info rfl .i64 .i64 n (by omega) (by omega) w]
  congr 3
  apply Array.ext
  · simp [madeCells, vk, pre]
  · intro j h1 h2
    simp [madeCells, vk, pre, Nat.mod_one]
theorem make_u (f : Nat → Nat) (n : Nat) (h : n ≤ 2000) (w : World) : (Instr.makeSlice 60 (.int .i64 (n : Int)) (.int .i64 (n : Int))).run Tryd.prog w = .ok (.slice (some ⟨w.heap.size, 0, none⟩) n n) (w.alloc (.cells (vk .u64 (pre f n 0)).toArray 52)) := by
  rw [run_make_row' (P := Tryd.prog) 60 52 (.int .u64 0) 8 Tryd.underlying60 u64_info rfl .i64 .i64 n (by omega) (by omega) w]
  congr 3
  apply Array.ext
  · simp [madeCells, vk, pre]
  · intro j h1 h2
    simp [madeCells, vk, pre, Nat.mod_one]
def SpR (T : Int) (ws : List Int) (n : Nat) (w : World) (e : Ending) (w' : World) : Prop :=
  Below w.heap.size w w' ∧ ((spE T ws ≠ 0 ∧ e = .returned (.tuple #[.slice none 0 0, .int .i64 (spE T ws)])) ∨
    (spE T ws = 0 ∧ ∃ t S o g, SpOk T ws t S ∧ OrdOk (rf t S ws) n o ∧ e = .returned (.tuple #[.slice (some ⟨g, 0, none⟩) n n, .int .i64 0]) ∧ Rk .i64 w' w'.heap.size (some ⟨g, 0, none⟩) n (bump (qf t S ws) n o (t - sm (qf t S ws) n))))
set_option maxHeartbeats 8000000 in
set_option maxRecDepth 100000 in
theorem split20 (T : Int) (A : Option Addr) (n c : Nat) (ws : List Int) (w : World) (h : Rk .i64 w w.heap.size A n ws) (hT : In64 T) : Calls Tryd.prog 20 #[.int .i64 T, .slice A n c] w (SpR T ws n w) := by
  have HZ := Lib.hid h
  have HLN : Hid (ws.length = n) := Lib.hid h.1
  have hn9 := h.2.1
  clear h
  go_enter Tryd.func20, Tryd.ntmps20
  by_cases h0 : T < 0
  · have d1 : decide (T < 0) = true := decide_eq_true h0
    have hE := sp_sign (ws := ws) (.inl h0)
    have HE := Lib.hid hE
    clear hE
    go_wp2_with fail
    go_ret2
    exact ⟨Below.refl _ _, .inl ⟨by rw [HE.out]; decide, by rw [HE.out]; rfl⟩⟩
  · have d1 : decide (T < 0) = false := decide_eq_false h0
    go_wp2_with fail
    refine (fits16 T w).mono ?_
    rintro e w1 ⟨rfl, hw⟩
    rw [hw]
    clear hw d1
    rcases fot (fitB T) with hf | hf
    · have HE := Lib.hid (sp_sign (T := T) (ws := ws) (.inr hf))
      rw [hf]
      clear hf
      go_wp2_with fail
      go_ret2
      exact ⟨Below.refl _ _, .inl ⟨by rw [HE.out]; decide, by rw [HE.out]; rfl⟩⟩
    · have HS0 : Hid (¬ (T < 0 ∨ fitB T = false)) := Lib.hid (fun h => by
        rcases h with h | h
        · omega
        · rw [hf] at h; cases h)
      have hTf := (fit_iff T).1 hf
      obtain ⟨t, rfl⟩ : ∃ t : Nat, T = (t : Int) := ⟨T.toNat, by omega⟩
      rw [hf]
      clear hf h0
      by_cases hbig : 1024 < n
      · have d1 : decide ((1024 : Int) < (n : Int)) = true := decide_eq_true (by omega)
        have HE := Lib.hid (sp_len (ws := ws) HS0.out (by rw [HLN.out]; exact hbig))
        go_wp2_with fail
        go_ret2
        exact ⟨Below.refl _ _, .inl ⟨by rw [HE.out]; decide, by rw [HE.out]; rfl⟩⟩
      · have d1 : decide ((1024 : Int) < (n : Int)) = false := decide_eq_false (by omega)
        have HS1 : Hid (¬ 1024 < ws.length) := Lib.hid (by rw [HLN.out]; exact hbig)
        go_wp2_with fail
        clear d1
        go_loopw [6, 8, 33] (fun sv _ iv wr => ∃ (i s : Nat), i ≤ n ∧ iv = .int .i64 i ∧ sv = .int .i64 (s : Int) ∧ s ≤ 1125899906842624 ∧ Hid ((s : Int) = su ws i) ∧ Hid (∀ j, j < i → 0 ≤ iat ws j ∧ iat ws j ≤ 1125899906842624 - su ws j) ∧ wr = w) (fun _ _ iv _ => n - (intOf iv).toNat)
        case atStart => exact ⟨0, 0, by omega, rfl, rfl, by omega, Lib.hid rfl, Lib.hid (fun j hj => by omega), rfl⟩
        case round =>
          obtain ⟨i, s, hi, rfl, rfl, hsM, HS, HOK, hwr⟩ := hrel
          have hwr2 := hwr.symm
          clear hwr
          subst hwr2
          by_cases hlt : i < n
          · have hltI : (i : Int) < (n : Int) := by omega
            have W1 : IntKind.i64.wrap ((i : Int) + 1) = (i : Int) + 1 := IntWalk.i64_in _ (by omega)
            obtain ⟨b, off, rfl, hbB, hcell⟩ := HZ.out.get hlt
            have hxr := i64_r (HZ.out.2.2.2 i)
            obtain ⟨x, hx⟩ : ∃ x, iat ws i = x := ⟨_, rfl⟩
            rw [hx] at hcell hxr
            have HX := Lib.hid hx
            clear hx
            by_cases hx0 : x < 0
            · have e1 : decide (x < 0) = true := decide_eq_true hx0
              have HE := Lib.hid (sp_bad (ws := ws) HS0.out HS1.out (fun hw => by have := (hw i (by rw [HLN.out]; exact hlt)).1; rw [HX.out] at this; omega))
              go_wp2_with fail
              go_ret2
              exact ⟨Below.refl _ _, .inl ⟨by rw [HE.out]; decide, by rw [HE.out]; rfl⟩⟩
            · have e1 : decide (x < 0) = false := decide_eq_false hx0
              obtain ⟨a, rfl⟩ : ∃ a : Nat, x = (a : Int) := ⟨x.toNat, by omega⟩
              obtain ⟨rm, hrm⟩ : ∃ r, 1125899906842624 - s = r := ⟨_, rfl⟩
              have W2 : IntKind.i64.wrap (1125899906842624 - (s : Int)) = (rm : Int) := by rw [show (1125899906842624 : Int) - (s : Int) = (rm : Int) by omega]; exact IntWalk.i64_in _ (by omega)
              by_cases hxb : rm < a
              · have e2 : (rm : Int) < (a : Int) := by omega
                have HE := Lib.hid (sp_bad (ws := ws) HS0.out HS1.out (fun hw => by have := (hw i (by rw [HLN.out]; exact hlt)).2; rw [HX.out, ← HS.out] at this; omega))
                clear hrm
                go_wp2_with fail
                go_ret2
                exact ⟨Below.refl _ _, .inl ⟨by rw [HE.out]; decide, by rw [HE.out]; rfl⟩⟩
              · have e2 : ¬ (rm : Int) < (a : Int) := by omega
                obtain ⟨s2, hs2⟩ : ∃ r, s + a = r := ⟨_, rfl⟩
                have W3 : IntKind.i64.wrap ((s : Int) + (a : Int)) = (s2 : Int) := by rw [show (s : Int) + (a : Int) = (s2 : Int) by omega]; exact IntWalk.i64_in _ (by omega)
                have HS2 : Hid ((s2 : Int) = su ws (i + 1)) := Lib.hid (by rw [su, ← HS.out, HX.out]; omega)
                have HOK2 : Hid (∀ j, j < i + 1 → 0 ≤ iat ws j ∧ iat ws j ≤ 1125899906842624 - su ws j) := Lib.hid (fun j hj => by
                  rcases Nat.lt_or_ge j i with h9 | h9
                  · exact HOK.out j h9
                  · rw [show j = i by omega, HX.out, ← HS.out]; omega)
                have hs2M : s2 ≤ 1125899906842624 := by omega
                clear hrm hs2
                go_wp2_with fail
                go_roundw
                case rel => exact ⟨i + 1, s2, by omega, by go_num, rfl, hs2M, HS2, HOK2, by trivial⟩
                case measure => simp [intOf]; omega
          · have hltI : ¬ (i : Int) < (n : Int) := by omega
            obtain rfl : i = n := by omega
            have HW : Hid (wOk ws) := Lib.hid (fun j hj => HOK.out j (by rw [HLN.out] at hj; exact hj))
            have HSU : Hid (su ws ws.length = (s : Int)) := Lib.hid (by rw [HLN.out]; exact HS.out.symm)
            clear HS HOK hltI
            by_cases hs0 : s = 0
            · have e1 : ((s : Int) == 0) = true := by simp [hs0]
              have HE := Lib.hid (sp_zero (ws := ws) HS0.out HS1.out HW.out (by rw [HSU.out]; omega))
              go_wp2_with fail
              go_ret2
              exact ⟨Below.refl _ _, .inl ⟨by rw [HE.out]; decide, by rw [HE.out]; rfl⟩⟩
            · have e1 : ((s : Int) == 0) = false := by simp [hs0]
              have hE := sp_good (ws := ws) HS0.out HS1.out HW.out (by rw [HSU.out]; omega)
              have HE := Lib.hid hE
              obtain ⟨t', S, hsp⟩ := spE_ok hE
              obtain rfl : t = t' := by have := hsp.tt; omega
              obtain rfl : s = S := by have h1 := su_wn ws.length hsp.ok.pos; rw [HSU.out, ← hsp.ss] at h1; omega
              have HSP := Lib.hid hsp
              have hn0 : 0 < i := by
                rcases Nat.eq_zero_or_pos i with h9 | h9
                · exfalso
                  have := hsp.ss
                  rw [HLN.out, h9] at this
                  exact hs0 this
                · exact h9
              clear hE hsp
              obtain ⟨g, hg⟩ : ∃ g, w.heap.size = g := ⟨_, rfl⟩
              have HG := Lib.hid hg
              have hmk1 := fun w' => make_i (fun _ => 0) i (by omega) w'
              have hmk2 := fun w' => make_u (fun _ => 0) i (by omega) w'
              have HX1 : Hid (Bx (w.alloc (.cells (vk .i64 (pre (fun _ => 0) i 0)).toArray 3)) g 3 (vk .i64 (pre (qf t s ws) i 0)).toArray) := Lib.hid (by rw [pre_zero (qf t s ws)]; exact Bx.newAt hg)
              have HX2 : Hid (Bx ((w.alloc (.cells (vk .i64 (pre (fun _ => 0) i 0)).toArray 3)).alloc (.cells (vk .u64 (pre (fun _ => 0) i 0)).toArray 52)) (g + 1) 52 (vk .u64 (pre (rf t s ws) i 0)).toArray) := Lib.hid (by rw [pre_zero (rf t s ws)]; exact Bx.newAt (by simp; omega))
              have HX3 : Hid (Bx (((w.alloc (.cells (vk .i64 (pre (fun _ => 0) i 0)).toArray 3)).alloc (.cells (vk .u64 (pre (fun _ => 0) i 0)).toArray 52)).alloc (.cells #[.slice (some ⟨g + 1, 0, none⟩) i i] 60)) (g + 2) 60 #[.slice (some ⟨g + 1, 0, none⟩) i i]) := Lib.hid (Bx.newAt (by simp; omega))
              have HX4 : Hid (Bx ((((w.alloc (.cells (vk .i64 (pre (fun _ => 0) i 0)).toArray 3)).alloc (.cells (vk .u64 (pre (fun _ => 0) i 0)).toArray 52)).alloc (.cells #[.slice (some ⟨g + 1, 0, none⟩) i i] 60)).alloc (.cells (vk .i64 (pre (fun _ => 0) i 0)).toArray 3)) (g + 3) 3 (vk .i64 (pre (fun j => j) i 0)).toArray) := Lib.hid (by rw [pre_zero (fun j => j)]; exact Bx.newAt (by simp; omega))
              have HB4 : Hid (Below w.heap.size w ((((w.alloc (.cells (vk .i64 (pre (fun _ => 0) i 0)).toArray 3)).alloc (.cells (vk .u64 (pre (fun _ => 0) i 0)).toArray 52)).alloc (.cells #[.slice (some ⟨g + 1, 0, none⟩) i i] 60)).alloc (.cells (vk .i64 (pre (fun _ => 0) i 0)).toArray 3))) := Lib.hid ((((b1 w _).alloc (by simp) _).alloc (by simp; omega) _).alloc (by simp; omega) _)
              go_wp2_with fail
              have HX1' := HX1.out.next (((b1 _ (.cells (vk .u64 (pre (fun _ => 0) i 0)).toArray 52)).alloc (by simp) (.cells #[.slice (some ⟨g + 1, 0, none⟩) i i] 60)).alloc (by first | (simp; done) | (simp; omega)) (.cells (vk .i64 (pre (fun _ => 0) i 0)).toArray 3))
              have HX2' := HX2.out.next ((b1 _ (.cells #[.slice (some ⟨g + 1, 0, none⟩) i i] 60)).alloc (by simp) (.cells (vk .i64 (pre (fun _ => 0) i 0)).toArray 3))
              have HX3' := HX3.out.next (b1 _ (.cells (vk .i64 (pre (fun _ => 0) i 0)).toArray 3))
              have HST : Hid (Bx ((((w.alloc (.cells (vk .i64 (pre (fun _ => 0) i 0)).toArray 3)).alloc (.cells (vk .u64 (pre (fun _ => 0) i 0)).toArray 52)).alloc (.cells #[.slice (some ⟨g + 1, 0, none⟩) i i] 60)).alloc (.cells (vk .i64 (pre (fun _ => 0) i 0)).toArray 3)) g 3 (vk .i64 (pre (qf t s ws) i 0)).toArray ∧ Bx ((((w.alloc (.cells (vk .i64 (pre (fun _ => 0) i 0)).toArray 3)).alloc (.cells (vk .u64 (pre (fun _ => 0) i 0)).toArray 52)).alloc (.cells #[.slice (some ⟨g + 1, 0, none⟩) i i] 60)).alloc (.cells (vk .i64 (pre (fun _ => 0) i 0)).toArray 3)) (g + 1) 52 (vk .u64 (pre (rf t s ws) i 0)).toArray ∧ Bx ((((w.alloc (.cells (vk .i64 (pre (fun _ => 0) i 0)).toArray 3)).alloc (.cells (vk .u64 (pre (fun _ => 0) i 0)).toArray 52)).alloc (.cells #[.slice (some ⟨g + 1, 0, none⟩) i i] 60)).alloc (.cells (vk .i64 (pre (fun _ => 0) i 0)).toArray 3)) (g + 2) 60 #[.slice (some ⟨g + 1, 0, none⟩) i i]) := Lib.hid ⟨HX1', HX2', HX3'⟩
              clear HX1 HX2 HX3 HX1' HX2' HX3' hmk1 hmk2 e1
              go_loopw [9, 13, 14, 15, 16, 17, 18, 63] (fun lv _ _ _ _ _ _ iv wr => ∃ (j lf : Nat), j ≤ i ∧ iv = .int .i64 j ∧ lv = .int .i64 (lf : Int) ∧ lf ≤ t ∧ Hid (lf = t - sm (qf t s ws) j) ∧ Hid (Bx wr g 3 (vk .i64 (pre (qf t s ws) i j)).toArray ∧ Bx wr (g + 1) 52 (vk .u64 (pre (rf t s ws) i j)).toArray ∧ Bx wr (g + 2) 60 #[.slice (some ⟨g + 1, 0, none⟩) i i]) ∧ Hid (Bx wr (g + 3) 3 (vk .i64 (pre (fun j => j) i j)).toArray) ∧ Hid (Below w.heap.size w wr)) (fun _ _ _ _ _ _ _ iv _ => i - (intOf iv).toNat)
              case atStart => exact ⟨0, t, by omega, rfl, rfl, Nat.le_refl _, Lib.hid (by rw [sm, Nat.sub_zero]), HST, HX4, HB4⟩
              case round =>
                obtain ⟨j, lf, hj, rfl, rfl, hlf, HLF, HXS, HX4, HB⟩ := hrel
                clear HST HB4
                by_cases hlt : j < i
                · have hltI : (j : Int) < (i : Int) := by omega
                  have W1 : IntKind.i64.wrap ((j : Int) + 1) = (j : Int) + 1 := IntWalk.i64_in _ (by omega)
                  have HZ1 := Lib.hid (HZ.out.up HB.out)
                  obtain ⟨b, off, rfl, hbB, hcell⟩ := HZ1.out.get hlt
                  have hwx := HSP.out.ok j (by rw [HLN.out]; exact hlt)
                  obtain ⟨a, ha⟩ : ∃ a : Nat, iat ws j = (a : Int) := ⟨(iat ws j).toNat, by omega⟩
                  have haw : wn ws j = a := by unfold wn; omega
                  have hle := wn_le (ws := ws) (i := j) (by rw [HLN.out]; exact hlt)
                  rw [← HSP.out.ss, haw] at hle
                  rw [ha] at hcell
                  have hsle := HSP.out.sle
                  have hspos := HSP.out.pos
                  have U1 := u64_in t (by omega)
                  have U2 := u64_in a (by omega)
                  have U3 := u64_in s (by omega)
                  obtain ⟨q, hq⟩ : ∃ q, qf t s ws j = q := ⟨_, rfl⟩
                  obtain ⟨r, hr⟩ : ∃ r, rf t s ws j = r := ⟨_, rfl⟩
                  have hqd : t * a / s = q := by rw [← hq]; unfold qf; rw [haw]
                  have hrd : t * a % s = r := by rw [← hr]; unfold rf; rw [haw]
                  have hqt : q ≤ t := by rw [← hqd]; exact Nat.div_le_of_le_mul (by rw [Nat.mul_comm s]; exact Nat.mul_le_mul_left t hle)
                  have hql : q ≤ lf := by
                    have h1 := HSP.out.q_le (k := j + 1) (by rw [HLN.out]; omega)
                    rw [sm, hq] at h1
                    rw [HLF.out]
                    omega
                  have HQJ := Lib.hid hq
                  have HRJ := Lib.hid hr
                  have hr64 : r < 18446744073709551616 := by rw [← hrd]; exact Nat.lt_of_lt_of_le (Nat.mod_lt _ hspos) (by omega)
                  obtain ⟨hi2, hhi⟩ : ∃ x, t * a / 18446744073709551616 = x := ⟨_, rfl⟩
                  obtain ⟨lo, hlo⟩ : ∃ x, t * a % 18446744073709551616 = x := ⟨_, rfl⟩
                  have hlo64 : lo < 18446744073709551616 := by rw [← hlo]; exact Nat.mod_lt _ (by decide)
                  have hhis : hi2 < s := by rw [← hhi]; exact hi_lt (by omega) hle hspos
                  have hab : hi2 * 18446744073709551616 + lo = t * a := by rw [← hhi, ← hlo, Nat.mul_comm]; exact Nat.div_add_mod _ _
                  have HQD : Hid ((hi2 * 18446744073709551616 + lo) / s = q) := Lib.hid (by rw [hab]; exact hqd)
                  have HRD : Hid ((hi2 * 18446744073709551616 + lo) % s = r) := Lib.hid (by rw [hab]; exact hrd)
                  have HHI := Lib.hid hhi
                  have HLO := Lib.hid hlo
                  clear hq hr hqd hrd hhi hlo hab ha haw hwx
                  go_wp2_with fail
                  refine (Any.bits_Mul64 Tryd.laysMul t a (by omega) (by omega) _).mono ?_
                  rintro e w2 ⟨rfl, hw⟩
                  rw [hw, HHI.out, HLO.out]
                  clear hw
                  go_wp2_with fail
                  refine (div31 hi2 lo s q r _ hhis hlo64 (by omega) HQD.out HRD.out).mono ?_
                  rintro e w2 ⟨rfl, hb⟩
                  have HXS2 : Hid (Bx w2 g 3 (vk .i64 (pre (qf t s ws) i j)).toArray ∧ Bx w2 (g + 1) 52 (vk .u64 (pre (rf t s ws) i j)).toArray ∧ Bx w2 (g + 2) 60 #[.slice (some ⟨g + 1, 0, none⟩) i i]) := Lib.hid ⟨HXS.out.1.next hb, HXS.out.2.1.next hb, HXS.out.2.2.next hb⟩
                  have HX42 := Lib.hid (HX4.out.next hb)
                  have HB2 := Lib.hid (upB HB.out hb)
                  clear hb hcell HXS HX4 HB HZ1
                  have cv := (HXS2.out.2.2.cell 0).trans rfl
                  have fp := HXS2.out.1.free j
                  have fr := HXS2.out.2.1.free j
                  have fo := HX42.out.free j
                  have cp := HXS2.out.1.kcell (i := j) (by rw [pre_len]; exact hlt)
                  have cr := HXS2.out.2.1.kcell (i := j) (by rw [pre_len]; exact hlt)
                  have co := HX42.out.kcell (i := j) (by rw [pre_len]; exact hlt)
                  have l1 := HXS2.out.1.lt
                  have l2 := HXS2.out.2.1.lt
                  have l3 := HXS2.out.2.2.lt
                  have l4 := HX42.out.lt
                  have W2 : IntKind.i64.wrap (q : Int) = (q : Int) := IntWalk.i64_in _ (by omega)
                  obtain ⟨lf2, hlf2⟩ : ∃ l, lf - q = l := ⟨_, rfl⟩
                  have W3 : IntKind.i64.wrap ((lf : Int) - (q : Int)) = (lf2 : Int) := by rw [show (lf : Int) - (q : Int) = (lf2 : Int) by omega]; exact IntWalk.i64_in _ (by omega)
                  go_wp2_with fail
                  have a1 := (HXS2.out.1.kput j (q : Int))
                  rw [← HQJ.out, pre_set (qf t s ws) hlt, HQJ.out] at a1
                  have b1 := (HXS2.out.2.1.far (show g + 1 ≠ g by omega) j (.int .i64 (q : Int))).kput j (r : Int)
                  rw [← HRJ.out, pre_set (rf t s ws) hlt, HRJ.out] at b1
                  have e1 := ((HX42.out.far (show g + 3 ≠ g by omega) j (.int .i64 (q : Int))).far (show g + 3 ≠ g + 1 by omega) j (.int .u64 (r : Int))).kput j (j : Int)
                  rw [show (j : Int) = (((fun j : Nat => j) j : Nat) : Int) from rfl, pre_set (fun j => j) hlt] at e1
                  have HXS3 : Hid (Bx ((((w2.setCell ⟨g, j, none⟩ (.int .i64 (q : Int))).setCell ⟨g + 1, j, none⟩ (.int .u64 (r : Int))).setCell ⟨g + 1 + 1 + 1, j, none⟩ (.int .i64 (j : Int))).drew) g 3 (vk .i64 (pre (qf t s ws) i (j + 1))).toArray ∧ Bx ((((w2.setCell ⟨g, j, none⟩ (.int .i64 (q : Int))).setCell ⟨g + 1, j, none⟩ (.int .u64 (r : Int))).setCell ⟨g + 1 + 1 + 1, j, none⟩ (.int .i64 (j : Int))).drew) (g + 1) 52 (vk .u64 (pre (rf t s ws) i (j + 1))).toArray ∧ Bx ((((w2.setCell ⟨g, j, none⟩ (.int .i64 (q : Int))).setCell ⟨g + 1, j, none⟩ (.int .u64 (r : Int))).setCell ⟨g + 1 + 1 + 1, j, none⟩ (.int .i64 (j : Int))).drew) (g + 2) 60 #[.slice (some ⟨g + 1, 0, none⟩) i i]) := Lib.hid
                    ⟨((a1.far (show g ≠ g + 1 by omega) j (.int .u64 (r : Int))).far (show g ≠ g + 1 + 1 + 1 by omega) j (.int .i64 (j : Int))).next (Below.refl _ _).drew, (b1.far (show g + 1 ≠ g + 1 + 1 + 1 by omega) j (.int .i64 (j : Int))).next (Below.refl _ _).drew, (((HXS2.out.2.2.far (show g + 2 ≠ g by omega) j (.int .i64 (q : Int))).far (show g + 2 ≠ g + 1 by omega) j (.int .u64 (r : Int))).far (show g + 2 ≠ g + 1 + 1 + 1 by omega) j (.int .i64 (j : Int))).next (Below.refl _ _).drew⟩
                  have HX43 : Hid (Bx ((((w2.setCell ⟨g, j, none⟩ (.int .i64 (q : Int))).setCell ⟨g + 1, j, none⟩ (.int .u64 (r : Int))).setCell ⟨g + 1 + 1 + 1, j, none⟩ (.int .i64 (j : Int))).drew) (g + 3) 3 (vk .i64 (pre (fun j => j) i (j + 1))).toArray) := Lib.hid (e1.next (Below.refl _ _).drew)
                  have HB3 : Hid (Below w.heap.size w ((((w2.setCell ⟨g, j, none⟩ (.int .i64 (q : Int))).setCell ⟨g + 1, j, none⟩ (.int .u64 (r : Int))).setCell ⟨g + 1 + 1 + 1, j, none⟩ (.int .i64 (j : Int))).drew)) := Lib.hid ((((HB2.out.setCell (p := ⟨g, j, none⟩) (by show w.heap.size ≤ g; rw [HG.out]; exact Nat.le_refl _) _).setCell (p := ⟨g + 1, j, none⟩) (by show w.heap.size ≤ g + 1; rw [HG.out]; omega) _).setCell (p := ⟨g + 1 + 1 + 1, j, none⟩) (by show w.heap.size ≤ g + 1 + 1 + 1; rw [HG.out]; omega) _).drew)
                  have HLF2 : Hid (lf2 = t - sm (qf t s ws) (j + 1)) := Lib.hid (by rw [sm, HQJ.out, ← hlf2, HLF.out, Nat.sub_add_eq])
                  clear a1 b1 e1
                  first | (go_region) | fail
                  clear cv fp fr fo cp cr co HXS2 HX42 HB2
                  go_wp2_with fail
                  go_roundw
                  case rel => exact ⟨j + 1, lf2, by omega, by go_num, rfl, by omega, HLF2, HXS3, HX43, HB3⟩
                  case measure => simp [intOf]; omega
                · have hltI : ¬ (j : Int) < (i : Int) := by omega
                  obtain rfl : j = i := by omega
                  have hmf : ∀ (fn : Fn) (first cap : Array Value) (w : World), (Instr.makeFunc fn first cap).run Tryd.prog w = .ok (.func fn first cap) w := fun _ _ _ _ => rfl
                  have hsrt := sort35 (rf t s ws) j (g + 1 + 1) (g + 1) (g + 1 + 1 + 1) j wr hn0 (by omega) HXS.out.2.2 (fun k hk => by
                    have h1 := HXS.out.2.1.kcell (i := k) (by rw [pre_len]; exact hk)
                    rw [pre_at _ hk, if_pos hk] at h1
                    exact h1) HXS.out.2.1.lt (fun k hk => by
                    have h1 := HX4.out.kcell (i := k) (by rw [pre_len]; exact hk)
                    rw [pre_at _ hk, if_pos hk] at h1
                    exact h1) (fun k => HX4.out.free k) HX4.out.lt (by omega) (by omega)
                  have HSRT := Lib.hid hsrt
                  have hll := HSP.out.left_le
                  rw [HLN.out, ← HLF.out] at hll
                  clear hsrt
                  go_wp2_with fail
                  refine HSRT.out.mono ?_
                  rintro e w3 ⟨rfl, o, hord, hcells, hex⟩
                  have HO := Lib.hid hord
                  have HPT : Hid (Bx w3 g 3 (vk .i64 (bump (qf t s ws) j o 0)).toArray) := Lib.hid (by
                    have h1 := hex.bx (show g ≠ g + 1 + 1 + 1 by omega) HXS.out.1
                    rw [pre_bump] at h1
                    exact h1)
                  have HOL := Lib.hid hord.len
                  have HOC : Hid (∀ k (h : k < o.length), w3.cell? ⟨g + 1 + 1 + 1, k, none⟩ = some (.int .i64 ((o[k] : Nat) : Int))) := Lib.hid hcells
                  have HB3 : Hid (Below w.heap.size w w3) := Lib.hid (HB.out.trans (hex.low (by rw [HG.out]; omega) HB.out.size))
                  clear hord hcells hex HSRT HXS HX4 HB hltI
                  have p1 : (0 : Int) ≤ (lf : Int) := by omega
                  have p2 : (lf : Int) ≤ (j : Int) := by omega
                  have l3 : g + 1 + 1 + 1 < w3.heap.size := by
                    have h1 := HOC.out 0 (by rw [HOL.out]; exact hn0)
                    rcases Nat.lt_or_ge (g + 1 + 1 + 1) w3.heap.size with h2 | h2
                    · exact h2
                    · unfold World.cell? at h1
                      rw [Array.getElem?_eq_none h2] at h1
                      cases h1
                  have HL3 := Lib.hid l3
                  go_wp2_with fail
                  go_loopw [20, 109] (fun _ iv wq => ∃ k : Nat, k ≤ lf ∧ iv = .int .i64 k ∧ Hid (Bx wq g 3 (vk .i64 (bump (qf t s ws) j o k)).toArray) ∧ Hid (∀ k (h : k < o.length), wq.cell? ⟨g + 1 + 1 + 1, k, none⟩ = some (.int .i64 ((o[k] : Nat) : Int))) ∧ Hid (Below w.heap.size w wq)) (fun _ iv _ => lf - (intOf iv).toNat)
                  case atStart => exact ⟨0, by omega, rfl, HPT, HOC, HB3⟩
                  case round =>
                    obtain ⟨k, hk, rfl, HPT, HOC, HB⟩ := hrel
                    by_cases hkl : k < lf
                    · have hkI : (k : Int) < (lf : Int) := by omega
                      have W1 : IntKind.i64.wrap ((k : Int) + 1) = (k : Int) + 1 := IntWalk.i64_in _ (by omega)
                      have hko : k < o.length := by rw [HOL.out]; omega
                      have hstep := bump_step (qf := qf t s ws) HO.out hko
                      have hoc := HOC.out k hko
                      have hpj : o[k] < j := HO.out.mem.1 (List.getElem_mem hko)
                      obtain ⟨p, hp⟩ : ∃ p, o[k] = p := ⟨_, rfl⟩
                      rw [hp] at hstep hoc hpj
                      have hba := bump_at (qf t s ws) j o k hpj
                      have hqt : qf t s ws p ≤ t := by
                        unfold qf
                        refine Nat.div_le_of_le_mul ?_
                        rw [Nat.mul_comm s]
                        refine Nat.mul_le_mul_left t ?_
                        have h9 := wn_le (ws := ws) (i := p) (by rw [HLN.out]; exact hpj)
                        rw [← HSP.out.ss] at h9
                        exact h9
                      obtain ⟨y, hy⟩ : ∃ y, iat (bump (qf t s ws) j o k) p = y := ⟨_, rfl⟩
                      have hyb : 0 ≤ y ∧ y ≤ 1125899906842625 := by
                        rw [← hy, hba]
                        split <;> omega
                      have cp := HPT.out.kcell (i := p) (by rw [bump_len]; exact hpj)
                      rw [hy] at cp hstep
                      have fp := HPT.out.free p
                      have l1 := HPT.out.lt
                      have hpI : (p : Int) < (j : Int) := by omega
                      have W2 : IntKind.i64.wrap (y + 1) = y + 1 := IntWalk.i64_in _ (by omega)
                      have HPT2 : Hid (Bx (wr.setCell ⟨g, p, none⟩ (.int .i64 (y + 1))) g 3 (vk .i64 (bump (qf t s ws) j o (k + 1))).toArray) := Lib.hid (by rw [hstep]; exact HPT.out.kput p (y + 1))
                      have HOC2 : Hid (∀ k (h : k < o.length), (wr.setCell ⟨g, p, none⟩ (.int .i64 (y + 1))).cell? ⟨g + 1 + 1 + 1, k, none⟩ = some (.int .i64 ((o[k] : Nat) : Int))) := Lib.hid (fun k h => by
                        rw [World.cell?_setCell_other _ _ _ _ (by simp)]
                        exact HOC.out k h)
                      have HB2 : Hid (Below w.heap.size w (wr.setCell ⟨g, p, none⟩ (.int .i64 (y + 1)))) := Lib.hid (HB.out.setCell (p := ⟨g, p, none⟩) (by show w.heap.size ≤ g; rw [HG.out]; exact Nat.le_refl _) _)
                      clear hstep hba hy hp
                      go_wp2_with fail
                      go_roundw
                      case rel => exact ⟨k + 1, by omega, by go_num, HPT2, HOC2, HB2⟩
                      case measure => simp [intOf]; omega
                    · have hkI : ¬ (k : Int) < (lf : Int) := by omega
                      obtain rfl : k = lf := by omega
                      go_wp2_with fail
                      go_ret2
                      refine ⟨HB.out, .inr ⟨HE.out, t, s, o, g, HSP.out, HO.out, rfl, ?_⟩⟩
                      have h1 := Rk.block HPT.out (by rw [bump_len]; omega) (fun m => by
                        by_cases hm : m < j
                        · rw [bump_at _ _ _ _ hm]
                          refine i64_w ?_
                          have hqt : qf t s ws m ≤ t := by
                            unfold qf
                            refine Nat.div_le_of_le_mul ?_
                            rw [Nat.mul_comm s]
                            refine Nat.mul_le_mul_left t ?_
                            have h9 := wn_le (ws := ws) (i := m) (by rw [HLN.out]; exact hm)
                            rw [← HSP.out.ss] at h9
                            exact h9
                          unfold In64
                          split <;> omega
                        · have : iat (bump (qf t s ws) j o k) m = 0 := by
                            unfold iat
                            rw [List.getD_eq_getElem?_getD, List.getElem?_eq_none (by rw [bump_len]; omega)]
                            rfl
                          rw [this]
                          decide)
                      rw [bump_len, HLF.out] at h1
                      exact h1
end Go.Proofs.YtjipcopfggnlkaaDoor.Wk
