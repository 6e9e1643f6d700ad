/- The fields of a line, in the layer and in its reference. No condition. -/
import Derived.Test.YtcgcccieccicnaaDoorLn
set_option linter.unusedSimpArgs false
set_option linter.unusedVariables false
namespace Go.Proofs.YtcgcccieccicnaaDoor.Mt
open Go
def Okf (s : ByteArray) (i : Nat) : Prop := ∀ j, j < i → (32 ≤ bt s j ∧ bt s j ≤ 126) ∧ (bt s j = 32 → frm s 32 j ≠ j)
def Fok (s : ByteArray) : Prop := Okf s s.size ∧ frm s 32 s.size ≠ s.size
noncomputable def flL (s : ByteArray) : List ByteArray := by
  classical
  exact if 512 < s.size then [] else if s.size = 0 then [] else if Fok s then pcs s 32 s.size ++ [s.extract (frm s 32 s.size) s.size] else []
noncomputable def flE (s : ByteArray) : Int := by
  classical
  exact if 512 < s.size then 4 else if s.size = 0 then 0 else if Fok s then 0 else 5
theorem fl_big {s : ByteArray} (h : 512 < s.size) : flL s = [] ∧ flE s = 4 := by unfold flL flE; rw [if_pos h, if_pos h]; exact ⟨rfl, rfl⟩
theorem fl_nil {s : ByteArray} (h : s.size = 0) : flL s = [] ∧ flE s = 0 := by
  have hb : ¬ 512 < s.size := by omega
  unfold flL flE
  rw [if_neg hb, if_neg hb, if_pos h, if_pos h]
  exact ⟨rfl, rfl⟩
theorem fl_bad {s : ByteArray} (h1 : ¬ 512 < s.size) (h2 : s.size ≠ 0) (h : ¬ Fok s) : flL s = [] ∧ flE s = 5 := by unfold flL flE; rw [if_neg h1, if_neg h1, if_neg h2, if_neg h2, if_neg h, if_neg h]; exact ⟨rfl, rfl⟩
theorem fl_ok {s : ByteArray} (h1 : ¬ 512 < s.size) (h2 : s.size ≠ 0) (h : Fok s) : flL s = pcs s 32 s.size ++ [s.extract (frm s 32 s.size) s.size] ∧ flE s = 0 := by unfold flL flE; rw [if_neg h1, if_neg h1, if_neg h2, if_neg h2, if_pos h, if_pos h]; exact ⟨rfl, rfl⟩
theorem Okf.next {s : ByteArray} {i : Nat} (h : Okf s i) (h1 : 32 ≤ bt s i ∧ bt s i ≤ 126) (h2 : bt s i = 32 → frm s 32 i ≠ i) : Okf s (i + 1) := fun j hj => by
  rcases Nat.lt_or_ge j i with h3 | h3
  · exact h j h3
  · obtain rfl : j = i := by omega
    exact ⟨h1, h2⟩
theorem not_ok {s : ByteArray} {i : Nat} (hi : i < s.size) (h : ¬ ((32 ≤ bt s i ∧ bt s i ≤ 126) ∧ (bt s i = 32 → frm s 32 i ≠ i))) : ¬ Fok s := fun h2 => h (h2.1 i hi)
end Go.Proofs.YtcgcccieccicnaaDoor.Mt
namespace Go.Proofs.YtcgcccieccicnaaDoor.Wk
open Go.RowKit
open Go.Proofs.YtcgcccieccicnaaDoor.Mt
set_option maxHeartbeats 4000000 in
set_option maxRecDepth 100000 in
theorem fields16 (s : ByteArray) (w : World) : Calls Tryd.prog 16 #[.string s] w (LnR (flL s) (flE s) w) := by
  obtain ⟨n, hn⟩ : ∃ n, s.size = n := ⟨_, rfl⟩
  have HN := Lib.hid hn
  have hsz : ((s.size : Nat) : Int) = (n : Int) := by omega
  obtain ⟨i0, hi0, hz0, hs0, hb0'⟩ := info_parts str_info
  by_cases hbig : 512 < n
  · have hbI : (512 : Int) < (n : Int) := by omega
    have HE := Lib.hid (fl_big (s := s) (by omega))
    clear hn
    go_enter Tryd.func16, Tryd.ntmps16
    go_wp2_with fail
    go_ret2
    exact ⟨none, 0, by rw [HE.out.1, HE.out.2]; rfl, by rw [HE.out.1]; exact rs_none _ _, Below.refl _ _, by rw [HE.out.1]; exact Nat.le_refl _⟩
  · have hbI : decide ((512 : Int) < (n : Int)) = false := decide_eq_false (by omega)
    by_cases h0 : n = 0
    · have HE := Lib.hid (fl_nil (s := s) (by omega))
      have he : s = { data := #[] } := by
        apply ByteArray.ext
        exact Array.eq_empty_of_size_eq_zero (show s.size = 0 by omega)
      have e0b : s.toList = [] := by rw [he, ByteArray.toList_eq]
      have e0 : s.toList.isEmpty = true := by rw [e0b]; rfl
      clear he hn
      go_enter Tryd.func16, Tryd.ntmps16
      go_wp2_with fail
      go_ret2
      exact ⟨none, 0, by rw [HE.out.1, HE.out.2]; rfl, by rw [HE.out.1]; exact rs_none _ _, Below.refl _ _, by rw [HE.out.1]; exact Nat.le_refl _⟩
    · have HBAD : Hid (¬ Fok s → flL s = [] ∧ flE s = 5) := Lib.hid (fl_bad (by omega) (by omega))
      have HOKK : Hid (Fok s → flL s = pcs s 32 s.size ++ [s.extract (frm s 32 s.size) s.size] ∧ flE s = 0) := Lib.hid (fl_ok (by omega) (by omega))
      have e0b : ¬ s.toList = [] := by
        intro h
        have h2 := congrArg List.length h
        rw [ByteArray.toList_eq, Array.length_toList] at h2
        have h3 : s.size = 0 := h2
        omega
      have e0 : s.toList.isEmpty = false := by
        cases h : s.toList with
        | nil => exact absurd h e0b
        | cons => rfl
      clear hn
      go_enter Tryd.func16, Tryd.ntmps16
      go_wp2_with fail
      clear hbI e0 e0b
      go_loopw [4, 5] (fun v fv wr => ∃ pos : Nat, pos ≤ n ∧ fv = .int .i64 ((frm s 32 pos : Nat) : Int) ∧ Hid (Okf s pos) ∧ Hid (Os (w.heap.size + 1) wr v (pcs s 32 pos)) ∧ wr.heap[w.heap.size]? = some (.stringIter s pos) ∧ Hid (Below w.heap.size w wr)) (fun _ _ wr => n - wr.iterPos w.heap.size)
      case atStart => exact ⟨0, Nat.zero_le _, rfl, Lib.hid (fun j hj => by omega), Lib.hid (Os.nil _ _), World.iter_heap w s 0, Lib.hid (b1 _ _)⟩
      case round =>
        obtain ⟨pos, hpos, rfl, HD, HO, hit, HB⟩ := hrel
        have hgl : w.heap.size < wr.heap.size := (Array.getElem?_eq_some_iff.1 hit).1
        by_cases hlt : pos < n
        · have hlt2 : Hid (pos < s.size) := Lib.hid (by rw [HN.out]; exact hlt)
          have HNO := Lib.hid (not_ok (s := s) (i := pos) hlt2.out)
          by_cases h128 : bt s pos < 128
          · have hnx : ∀ ty, (Instr.next (.pointer (some ⟨w.heap.size, 0, none⟩)) true ty).run Tryd.prog wr = _ := fun ty => next_ascii wr w.heap.size s pos hit hlt2.out h128 ty
            have hit2 := Lib.iterAt_heap wr w.heap.size s pos (pos + 1) hit
            have HB2 := Lib.hid (Lib.below_iterAt HB.out (k := w.heap.size) (Nat.le_refl _) s (pos + 1))
            have HO2 : Hid (Os (w.heap.size + 1) (wr.iterAt w.heap.size s (pos + 1)) _ (pcs s 32 pos)) := Lib.hid (HO.out.iterAt (by omega))
            have hgl2 : w.heap.size < (wr.iterAt w.heap.size s (pos + 1)).heap.size := by rw [Lib.iterAt_size]; exact hgl
            by_cases hlo : bt s pos < 32
            · have HE := Lib.hid (HBAD.out (HNO.out (fun h => by omega)))
              obtain ⟨x, hx⟩ : ∃ x, bt s pos = x := ⟨_, rfl⟩
              rw [hx] at hnx hlo
              clear hx h128
              go_wp2_with fail
              go_ret2
              exact ⟨none, 0, by rw [HE.out.1, HE.out.2]; rfl, by rw [HE.out.1]; exact rs_none _ _, HB2.out, by rw [HE.out.1]; exact Nat.le_refl _⟩
            · by_cases hhi : 126 < bt s pos
              · have HE := Lib.hid (HBAD.out (HNO.out (fun h => by omega)))
                obtain ⟨x, hx⟩ : ∃ x, bt s pos = x := ⟨_, rfl⟩
                rw [hx] at hnx hlo hhi
                have q1 : decide (x < 32) = false := decide_eq_false hlo
                clear hx h128
                go_wp2_with fail
                go_ret2
                exact ⟨none, 0, by rw [HE.out.1, HE.out.2]; rfl, by rw [HE.out.1]; exact rs_none _ _, HB2.out, by rw [HE.out.1]; exact Nat.le_refl _⟩
              · by_cases h32 : bt s pos = 32
                · rw [h32] at hnx
                  by_cases hpf : pos = frm s 32 pos
                  · have HE := Lib.hid (HBAD.out (HNO.out (fun h => h.2 h32 hpf.symm)))
                    have e5 : ((pos : Int) == ((frm s 32 pos : Nat) : Int)) = true := by simp; omega
                    clear hpf h32
                    go_wp2_with fail
                    go_ret2
                    exact ⟨none, 0, by rw [HE.out.1, HE.out.2]; rfl, by rw [HE.out.1]; exact rs_none _ _, HB2.out, by rw [HE.out.1]; exact Nat.le_refl _⟩
                  · have HD2 := Lib.hid (HD.out.next (by omega) (fun _ h => hpf h.symm))
                    have HMH : Hid (∀ W : World, W.iterPos w.heap.size = pos + 1 → n - W.iterPos w.heap.size < n - wr.iterPos w.heap.size) := Lib.hid (fun W hW => by rw [hW]; simp only [World.iterPos, hit]; omega)
                    have HS := Lib.hid (pcs_yes (s := s) (c := 32) (i := pos) h32)
                    have HF := Lib.hid (frm_yes (s := s) (c := 32) (i := pos) h32)
                    have hfl := frm_le s 32 pos
                    obtain ⟨f, hf⟩ : ∃ f, frm s 32 pos = f := ⟨_, rfl⟩
                    rw [hf] at hfl HS hpf ⊢
                    obtain ⟨u, hu⟩ : ∃ u, s.extract f pos = u := ⟨_, rfl⟩
                    rw [hu] at HS
                    have hf0 : (0 : Int) ≤ (f : Int) := by omega
                    have hfp : (f : Int) ≤ (pos : Int) := by omega
                    have hpn : (pos : Int) ≤ ((s.size : Nat) : Int) := by rw [hsz]; omega
                    have e5 : ((pos : Int) == (f : Int)) = false := by simp; omega
                    have C4 : Hid ((pcs s 32 pos).length + 1 ≤ maxLen) := Lib.hid (by have := pcs_len s 32 pos; unfold maxLen; omega)
                    have C5 : Hid (((pcs s 32 pos).length + 1) * 16 ≤ 140737488355328) := Lib.hid (by have := pcs_len s 32 pos; omega)
                    clear hf
                    generalize wr.iterAt w.heap.size s (pos + 1) = w3 at hnx hit2 HB2 HO2 hgl2
                    have W1 : IntKind.i64.wrap ((pos : Int) + 1) = (pos : Int) + 1 := IntWalk.i64_in _ (by omega)
                    clear h32 h128 hlo hhi hpf
                    go_wp2_with (first | (go_loud (at_builtin; refine wpList_append_own _ rfl _ _ 24 rfl (w.heap.size + 1) 9 i0 (.string ⟨#[]⟩) 1 16 Tryd.underlying24 hi0 hz0 hs0 hb0' rfl (by omega) _ _ _ rfl (HO2.out.alloc _) ⟨_, 0, none⟩ 1 1 [.string u] rfl rfl (new_cell _ _ _ _ (by simp)) (one_str u) C4.out C5.out (by simp; omega) ?_)) | fail)
                    intro v' w9 hown hgrow _
                    have HO9 : Hid (Os (w.heap.size + 1) w9 v' (pcs s 32 (pos + 1))) := Lib.hid (by rw [HS.out]; unfold Os; rw [List.length_append, vst_app]; exact hown)
                    have HB9 : Hid (Below w.heap.size w w9) := Lib.hid ((HB2.out.alloc HB2.out.size (.cells #[.string u] 9)).grown hgrow (by simp; omega) (fun k hk => by have := (HO2.out.lt k hk).1; omega))
                    have hit9 : w9.heap[w.heap.size]? = some (.stringIter s (pos + 1)) := by
                      have h1 := hgrow.block w.heap.size (by simp; omega) (fun e => by have := (HO2.out.lt _ e.symm).1; omega)
                      rw [h1, heap_alloc_old _ _ hgl2]; exact hit2
                    clear hown hgrow
                    go_wp2_with fail
                    go_roundw
                    case rel => exact ⟨pos + 1, by omega, by rw [HF.out]; first | rfl | go_num, HD2, HO9, hit9, HB9⟩
                    case measure => exact HMH.out w9 (by simp only [World.iterPos, hit9])
                · have HD2 := Lib.hid (HD.out.next (by omega) (fun h => absurd h h32))
                  have HS := Lib.hid (pcs_no (s := s) (c := 32) (i := pos) h32)
                  have HF := Lib.hid (frm_no (s := s) (c := 32) (i := pos) h32)
                  obtain ⟨x, hx⟩ : ∃ x, bt s pos = x := ⟨_, rfl⟩
                  rw [hx] at hnx hlo hhi h32
                  have q1 : decide (x < 32) = false := decide_eq_false hlo
                  have q2 : decide (126 < x) = false := decide_eq_false hhi
                  have q3 : (x == 32) = false := by simp [h32]
                  clear hx h128 h32
                  go_wp2_with fail
                  go_roundw
                  case rel => exact ⟨pos + 1, by omega, by rw [HF.out], HD2, by rw [HS.out]; exact HO2, hit2, HB2⟩
                  case measure =>
                    simp only [World.iterPos, hit2, hit]
                    omega
          · obtain ⟨x, p, hc1, hc2, hp1, hp2, hp3, hnx⟩ := next_high (P := Tryd.prog) wr w.heap.size s pos hit hlt2.out (by omega)
            have HE := Lib.hid (HBAD.out (HNO.out (fun h => by omega)))
            have HB2 := Lib.hid (Lib.below_iterAt HB.out (k := w.heap.size) (Nat.le_refl _) s p)
            have q1 : decide (x < 32) = false := decide_eq_false (by omega)
            have q2 : 126 < x := by omega
            clear h128 hp3
            go_wp2_with fail
            go_ret2
            exact ⟨none, 0, by rw [HE.out.1, HE.out.2]; rfl, by rw [HE.out.1]; exact rs_none _ _, HB2.out, by rw [HE.out.1]; exact Nat.le_refl _⟩
        · have hnx : ∀ ty, (Instr.next (.pointer (some ⟨w.heap.size, 0, none⟩)) true ty).run Tryd.prog wr = _ := fun ty => Lib.run_next_end_at wr w.heap.size s pos ty hit (by rw [HN.out]; exact hlt)
          have hp : pos = n := by omega
          subst hp
          have hfn := frm_le s 32 pos
          by_cases hpf : frm s 32 pos = pos
          · have HE := Lib.hid (HBAD.out (fun h => h.2 (by rw [HN.out]; exact hpf)))
            have e5 : (((frm s 32 pos : Nat) : Int) == (pos : Int)) = true := by simp [hpf]
            clear hpf
            go_wp2_with fail
            go_ret2
            exact ⟨none, 0, by rw [HE.out.1, HE.out.2]; rfl, by rw [HE.out.1]; exact rs_none _ _, HB.out, by rw [HE.out.1]; exact Nat.le_refl _⟩
          · have HE := Lib.hid (HOKK.out ⟨by rw [HN.out]; exact HD.out, by rw [HN.out]; exact hpf⟩)
            rw [HN.out] at HE
            have e5 : (((frm s 32 pos : Nat) : Int) == (pos : Int)) = false := by simp; omega
            obtain ⟨f, hf⟩ : ∃ f, frm s 32 pos = f := ⟨_, rfl⟩
            rw [hf] at hfn e5 HE ⊢
            have hf0 : (0 : Int) ≤ (f : Int) := by omega
            have hfI : (f : Int) ≤ ((s.size : Nat) : Int) := by rw [hsz]; omega
            obtain ⟨u, hu⟩ : ∃ u, s.extract f pos = u := ⟨_, rfl⟩
            have hu2 : s.extract f s.size = u := by rw [HN.out]; exact hu
            rw [hu] at HE
            have C4 : Hid ((pcs s 32 pos).length + 1 ≤ maxLen) := Lib.hid (by have := pcs_len s 32 pos; unfold maxLen; omega)
            have C5 : Hid (((pcs s 32 pos).length + 1) * 16 ≤ 140737488355328) := Lib.hid (by have := pcs_len s 32 pos; omega)
            have hbs := HB.out.size
            clear hf hu hpf
            go_wp2_with (first | (go_loud (at_builtin; refine wpList_append_own _ rfl _ _ 24 rfl (w.heap.size + 1) 9 i0 (.string ⟨#[]⟩) 1 16 Tryd.underlying24 hi0 hz0 hs0 hb0' rfl (by omega) _ _ _ rfl (HO.out.alloc _) ⟨_, 0, none⟩ 1 1 [.string u] rfl rfl (new_cell _ _ _ _ (by simp)) (one_str u) C4.out C5.out (by simp; omega) ?_)) | fail)
            intro v' w9 hown hgrow _
            have HO9 : Hid (Os (w.heap.size + 1) w9 v' (flL s)) := Lib.hid (by rw [HE.out.1]; unfold Os; rw [List.length_append, vst_app]; exact hown)
            have HB9 : Hid (Below w.heap.size w w9) := Lib.hid ((HB.out.alloc HB.out.size (.cells #[.string u] 9)).grown hgrow (by simp; omega) (fun k hk => by have := (HO.out.lt k hk).1; omega))
            clear hown hgrow
            obtain ⟨A, c, rfl, hlc, hr⟩ := HO9.out.out (by have := congrArg List.length HE.out.1; rw [List.length_append] at this; have := pcs_len s 32 pos; simp at *; omega)
            have HR := Lib.hid hr; have HLC := Lib.hid hlc; clear hlc
            clear hr
            go_wp2_with fail
            go_ret2
            exact ⟨A, c, by rw [HE.out.2]; rfl, HR.out, HB9.out, HLC.out⟩
set_option maxHeartbeats 4000000 in
set_option maxRecDepth 100000 in
theorem fields17 (s : ByteArray) (w : World) : Calls Tryd.prog 17 #[.string s] w (LnR (flL s) (flE s) w) := by
  obtain ⟨n, hn⟩ : ∃ n, s.size = n := ⟨_, rfl⟩
  have HN := Lib.hid hn
  have hsz : ((s.size : Nat) : Int) = (n : Int) := by omega
  obtain ⟨i0, hi0, hz0, hs0, hb0'⟩ := info_parts str_info
  by_cases hbig : 512 < n
  · have hbI : (512 : Int) < (n : Int) := by omega
    have HE := Lib.hid (fl_big (s := s) (by omega))
    clear hn
    go_enter Tryd.func17, Tryd.ntmps17
    go_wp2_with fail
    go_ret2
    exact ⟨none, 0, by rw [HE.out.1, HE.out.2]; rfl, by rw [HE.out.1]; exact rs_none _ _, Below.refl _ _, by rw [HE.out.1]; exact Nat.le_refl _⟩
  · have hbI : decide ((512 : Int) < (n : Int)) = false := decide_eq_false (by omega)
    by_cases h0 : n = 0
    · have HE := Lib.hid (fl_nil (s := s) (by omega))
      have he : s = { data := #[] } := by
        apply ByteArray.ext
        exact Array.eq_empty_of_size_eq_zero (show s.size = 0 by omega)
      have e0b : s.toList = [] := by rw [he, ByteArray.toList_eq]
      have e0 : s.toList.isEmpty = true := by rw [e0b]; rfl
      clear he hn
      go_enter Tryd.func17, Tryd.ntmps17
      go_wp2_with fail
      go_ret2
      exact ⟨none, 0, by rw [HE.out.1, HE.out.2]; rfl, by rw [HE.out.1]; exact rs_none _ _, Below.refl _ _, by rw [HE.out.1]; exact Nat.le_refl _⟩
    · have HBAD : Hid (¬ Fok s → flL s = [] ∧ flE s = 5) := Lib.hid (fl_bad (by omega) (by omega))
      have HOKK : Hid (Fok s → flL s = pcs s 32 s.size ++ [s.extract (frm s 32 s.size) s.size] ∧ flE s = 0) := Lib.hid (fl_ok (by omega) (by omega))
      have e0b : ¬ s.toList = [] := by
        intro h
        have h2 := congrArg List.length h
        rw [ByteArray.toList_eq, Array.length_toList] at h2
        have h3 : s.size = 0 := h2
        omega
      have e0 : s.toList.isEmpty = false := by
        cases h : s.toList with
        | nil => exact absurd h e0b
        | cons => rfl
      clear hn
      go_enter Tryd.func17, Tryd.ntmps17
      go_wp2_with fail
      clear hbI e0 e0b
      go_loopw [4, 5, 6] (fun v fv iv wr => ∃ (pos f : Nat) (L : List ByteArray), pos ≤ n + 1 ∧ f ≤ n + 1 ∧ L.length ≤ n + 1 ∧ iv = .int .i64 pos ∧ fv = .int .i64 f ∧ Hid (pos ≤ n → Okf s pos ∧ L = pcs s 32 pos ∧ f = frm s 32 pos) ∧ Hid (pos = n + 1 → Fok s ∧ L = flL s) ∧ Hid (Os w.heap.size wr v L) ∧ Hid (Below w.heap.size w wr)) (fun _ _ iv _ => n + 1 - (intOf iv).toNat)
      case atStart => exact ⟨0, 0, [], by omega, by omega, by simp, rfl, rfl, Lib.hid (fun _ => ⟨fun j hj => by omega, rfl, rfl⟩), Lib.hid (fun h => by omega), Lib.hid (Os.nil _ _), Lib.hid (Below.refl _ _)⟩
      case round =>
        obtain ⟨pos, f, L, hpos, hfb, hLb, rfl, rfl, HA, HZ, HO, HB⟩ := hrel
        have hbs := HB.out.size
        have W1 : IntKind.i64.wrap ((pos : Int) + 1) = (pos : Int) + 1 := IntWalk.i64_in _ (by omega)
        have hp0 : (0 : Int) ≤ (pos : Int) := by omega
        have hf0 : (0 : Int) ≤ (f : Int) := by omega
        have C4 : Hid (L.length + 1 ≤ maxLen) := Lib.hid (by unfold maxLen; omega)
        have C5 : Hid ((L.length + 1) * 16 ≤ 140737488355328) := Lib.hid (by omega)
        by_cases hle : pos ≤ n
        · have q0 : (pos : Int) ≤ (n : Int) := by omega
          have HA1 := Lib.hid (HA.out hle).1
          have HA2 := Lib.hid (HA.out hle).2.1
          have HA3 := Lib.hid (HA.out hle).2.2
          have hfp' : f ≤ pos := by rw [HA3.out]; exact frm_le s 32 pos
          have hfp : (f : Int) ≤ (pos : Int) := by omega
          have hpn : (pos : Int) ≤ ((s.size : Nat) : Int) := by rw [hsz]; omega
          by_cases hlt : pos < n
          · have hltI : (pos : Int) < (n : Int) := by omega
            have e6 : ((pos : Int) == (n : Int)) = false := by simp; omega
            have hks : pos < s.size := by rw [HN.out]; exact hlt
            have hbt := bt_at hks
            have HNO := Lib.hid (not_ok (s := s) (i := pos) hks)
            by_cases hlo : bt s pos < 32
            · have HE := Lib.hid (HBAD.out (HNO.out (fun h => by omega)))
              obtain ⟨x, hx⟩ : ∃ x, bt s pos = x := ⟨_, rfl⟩
              rw [hx] at hbt hlo
              clear hx
              go_wp2_with fail
              go_ret2
              exact ⟨none, 0, by rw [HE.out.1, HE.out.2]; rfl, by rw [HE.out.1]; exact rs_none _ _, HB.out, by rw [HE.out.1]; exact Nat.le_refl _⟩
            · by_cases hhi : 126 < bt s pos
              · have HE := Lib.hid (HBAD.out (HNO.out (fun h => by omega)))
                obtain ⟨x, hx⟩ : ∃ x, bt s pos = x := ⟨_, rfl⟩
                rw [hx] at hbt hlo hhi
                have q1 : decide (x < 32) = false := decide_eq_false hlo
                clear hx
                go_wp2_with fail
                go_ret2
                exact ⟨none, 0, by rw [HE.out.1, HE.out.2]; rfl, by rw [HE.out.1]; exact rs_none _ _, HB.out, by rw [HE.out.1]; exact Nat.le_refl _⟩
              · by_cases h32 : bt s pos = 32
                · by_cases hpf : pos = f
                  · have HE := Lib.hid (HBAD.out (HNO.out (fun h => h.2 h32 (by rw [← HA3.out]; exact hpf.symm))))
                    have e5 : ((pos : Int) == (f : Int)) = true := by simp [hpf]
                    rw [h32] at hbt
                    clear hpf h32 hlo hhi
                    go_wp2_with fail
                    go_ret2
                    exact ⟨none, 0, by rw [HE.out.1, HE.out.2]; rfl, by rw [HE.out.1]; exact rs_none _ _, HB.out, by rw [HE.out.1]; exact Nat.le_refl _⟩
                  · have HD2 := Lib.hid (HA1.out.next (by omega) (fun _ h => hpf (by rw [HA3.out]; exact h.symm)))
                    have e5 : ((pos : Int) == (f : Int)) = false := by simp; omega
                    have HS := Lib.hid (pcs_yes (s := s) (c := 32) (i := pos) h32)
                    have HF := Lib.hid (frm_yes (s := s) (c := 32) (i := pos) h32)
                    rw [← HA2.out, ← HA3.out] at HS
                    obtain ⟨u, hu⟩ : ∃ u, s.extract f pos = u := ⟨_, rfl⟩
                    rw [hu] at HS
                    rw [h32] at hbt
                    clear h32 hlo hhi hpf
                    go_wp2_with (first | (go_loud (at_builtin; refine wpList_append_own _ rfl _ _ 24 rfl w.heap.size 9 i0 (.string ⟨#[]⟩) 1 16 Tryd.underlying24 hi0 hz0 hs0 hb0' rfl (by omega) _ _ _ rfl (HO.out.alloc _) ⟨_, 0, none⟩ 1 1 [.string u] rfl rfl (new_cell _ _ _ _ (by simp)) (one_str u) C4.out C5.out (by simp; omega) ?_)) | fail)
                    intro v' w9 hown hgrow _
                    have HO9 : Hid (Os w.heap.size w9 v' (L ++ [u])) := Lib.hid (by unfold Os; rw [List.length_append, vst_app]; exact hown)
                    have HB9 : Hid (Below w.heap.size w w9) := Lib.hid ((HB.out.alloc HB.out.size (.cells #[.string u] 9)).grown hgrow (by simp; omega) (fun k hk => by have := (HO.out.lt k hk).1; omega))
                    have HLb2 : Hid ((L ++ [u]).length ≤ n + 1) := Lib.hid (by rw [List.length_append, HA2.out]; have := pcs_len s 32 pos; simp; omega)
                    clear hown hgrow
                    go_wp2_with fail
                    go_roundw
                    case rel => exact ⟨pos + 1, pos + 1, L ++ [u], by omega, by omega, HLb2.out, by go_num, by go_num, Lib.hid (fun _ => ⟨HD2.out, HS.out.symm, HF.out.symm⟩), Lib.hid (fun h => by omega), HO9, HB9⟩
                    case measure => simp [intOf]; omega
                · have HD2 := Lib.hid (HA1.out.next (by omega) (fun h => absurd h h32))
                  have HS := Lib.hid (pcs_no (s := s) (c := 32) (i := pos) h32)
                  have HF := Lib.hid (frm_no (s := s) (c := 32) (i := pos) h32)
                  obtain ⟨x, hx⟩ : ∃ x, bt s pos = x := ⟨_, rfl⟩
                  rw [hx] at hbt hlo hhi h32
                  have q1 : decide (x < 32) = false := decide_eq_false hlo
                  have q2 : decide (126 < x) = false := decide_eq_false hhi
                  have q3 : (x == 32) = false := by simp [h32]
                  clear hx h32
                  go_wp2_with fail
                  go_roundw
                  case rel => exact ⟨pos + 1, f, L, by omega, by omega, hLb, by go_num, rfl, Lib.hid (fun _ => ⟨HD2.out, by rw [HS.out]; exact HA2.out, by rw [HF.out]; exact HA3.out⟩), Lib.hid (fun h => by omega), HO, HB⟩
                  case measure => simp [intOf]; omega
          · have hp : pos = n := by omega
            have q1 : decide ((pos : Int) < (n : Int)) = false := decide_eq_false (by omega)
            have e6 : ((pos : Int) == (n : Int)) = true := by simp; omega
            by_cases hpf : pos = f
            · have HE := Lib.hid (HBAD.out (fun h => h.2 (by rw [HN.out, ← hp, ← HA3.out]; exact hpf.symm)))
              have e5 : ((pos : Int) == (f : Int)) = true := by simp [hpf]
              clear hpf hp
              go_wp2_with fail
              go_ret2
              exact ⟨none, 0, by rw [HE.out.1, HE.out.2]; rfl, by rw [HE.out.1]; exact rs_none _ _, HB.out, by rw [HE.out.1]; exact Nat.le_refl _⟩
            · have HFK : Hid (Fok s) := Lib.hid ⟨by rw [HN.out, ← hp]; exact HA1.out, by rw [HN.out, ← hp, ← HA3.out]; omega⟩
              have HE := Lib.hid (HOKK.out HFK.out)
              rw [HN.out, ← hp, ← HA2.out, ← HA3.out] at HE
              have e5 : ((pos : Int) == (f : Int)) = false := by simp; omega
              obtain ⟨u, hu⟩ : ∃ u, s.extract f pos = u := ⟨_, rfl⟩
              rw [hu] at HE
              have hpn1 : pos + 1 = n + 1 := by omega
              clear hpf hp
              go_wp2_with (first | (go_loud (at_builtin; refine wpList_append_own _ rfl _ _ 24 rfl w.heap.size 9 i0 (.string ⟨#[]⟩) 1 16 Tryd.underlying24 hi0 hz0 hs0 hb0' rfl (by omega) _ _ _ rfl (HO.out.alloc _) ⟨_, 0, none⟩ 1 1 [.string u] rfl rfl (new_cell _ _ _ _ (by simp)) (one_str u) C4.out C5.out (by simp; omega) ?_)) | fail)
              intro v' w9 hown hgrow _
              have HO9 : Hid (Os w.heap.size w9 v' (L ++ [u])) := Lib.hid (by unfold Os; rw [List.length_append, vst_app]; exact hown)
              have HB9 : Hid (Below w.heap.size w w9) := Lib.hid ((HB.out.alloc HB.out.size (.cells #[.string u] 9)).grown hgrow (by simp; omega) (fun k hk => by have := (HO.out.lt k hk).1; omega))
              have HLb2 : Hid ((L ++ [u]).length ≤ n + 1) := Lib.hid (by rw [List.length_append, HA2.out]; have := pcs_len s 32 pos; simp; omega)
              clear hown hgrow
              go_wp2_with fail
              go_roundw
              case rel => exact ⟨pos + 1, pos + 1, L ++ [u], by omega, by omega, HLb2.out, by go_num, by go_num, Lib.hid (fun h => by omega), Lib.hid (fun _ => ⟨HFK.out, HE.out.1.symm⟩), HO9, HB9⟩
              case measure => simp [intOf]; omega
        · have q0 : decide ((pos : Int) ≤ (n : Int)) = false := decide_eq_false (by omega)
          have HF := Lib.hid (HZ.out (by omega))
          have HE := Lib.hid (HOKK.out HF.out.1)
          have HL := Lib.hid HF.out.2
          rw [HL.out] at HO
          obtain ⟨A, c, rfl, hlc, hr⟩ := HO.out.out (by rw [← HL.out]; omega)
          have HR := Lib.hid hr; have HLC := Lib.hid hlc; clear hlc
          clear hr
          go_wp2_with fail
          go_ret2
          exact ⟨A, c, by rw [HE.out.2]; rfl, HR.out, HB.out, HLC.out⟩
end Go.Proofs.YtcgcccieccicnaaDoor.Wk
