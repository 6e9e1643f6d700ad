/- The lines of a text, in the layer and in its reference. No condition. -/
import Derived.Test.YtcgcccieccicnaaDoorRw
set_option linter.unusedSimpArgs false
set_option linter.unusedVariables false
namespace Go.Proofs.YtcgcccieccicnaaDoor.Mt
open Go
def lnL (s : ByteArray) : List ByteArray := if 65536 < s.size then [] else pcs s 10 s.size ++ (if frm s 10 s.size < s.size then [s.extract (frm s 10 s.size) s.size] else [])
def lnE (s : ByteArray) : Int := if 65536 < s.size then 4 else 0
end Go.Proofs.YtcgcccieccicnaaDoor.Mt
namespace Go.Proofs.YtcgcccieccicnaaDoor.Wk
open Go.RowKit
open Go.Proofs.YtcgcccieccicnaaDoor.Mt
def LnR (L : List ByteArray) (er : Int) (w : World) (e : Ending) (w' : World) : Prop := ∃ A c, e = .returned (.tuple #[.slice A L.length c, .int .i64 er]) ∧ Rs w' w'.heap.size A L.length L ∧ Below w.heap.size w w' ∧ L.length ≤ c
set_option maxHeartbeats 2000000 in
set_option maxRecDepth 100000 in
theorem lines23 (s : ByteArray) (w : World) : Calls Tryd.prog 23 #[.string s] w (LnR (lnL s) (lnE s) w) := by
  by_cases hbig : 65536 < s.size
  · have hbI : (65536 : Int) < ((s.size : Nat) : Int) := by omega
    have HL : Hid (lnL s = []) := Lib.hid (if_pos hbig)
    have HE : Hid (lnE s = 4) := Lib.hid (if_pos hbig)
    go_enter Tryd.func23, Tryd.ntmps23
    go_wp2_with fail
    go_ret2
    exact ⟨none, 0, by rw [HL.out, HE.out]; rfl, by rw [HL.out]; exact rs_none _ _, Below.refl _ _, by rw [HL.out]; exact Nat.le_refl _⟩
  · have hbI : decide ((65536 : Int) < ((s.size : Nat) : Int)) = false := decide_eq_false (by omega)
    have HE : Hid (lnE s = 0) := Lib.hid (if_neg hbig)
    obtain ⟨i0, hi0, hz0, hs0, hb0'⟩ := info_parts str_info
    obtain ⟨n, hn⟩ : ∃ n, s.size = n := ⟨_, rfl⟩
    have HN := Lib.hid hn
    have hsz : ((s.size : Nat) : Int) = (n : Int) := by omega
    rw [hn] at hbig
    clear hn
    go_enter Tryd.func23, Tryd.ntmps23
    go_wp2_with fail
    clear hbI
    go_loopw [4, 5] (fun v fv wr => ∃ pos : Nat, pos ≤ n ∧ fv = .int .i64 ((frm s 10 pos : Nat) : Int) ∧ Hid (Os (w.heap.size + 1) wr v (pcs s 10 pos)) ∧ wr.heap[w.heap.size]? = some (.stringIter s pos) ∧ Hid (Below w.heap.size w wr)) (fun _ _ wr => n - wr.iterPos w.heap.size)
    case atStart => exact ⟨0, Nat.zero_le _, rfl, Lib.hid (Os.nil _ _), World.iter_heap w s 0, Lib.hid (b1 _ _)⟩
    case round =>
      obtain ⟨pos, hpos, rfl, HO, hit, HB⟩ := hrel
      have hgl : w.heap.size < wr.heap.size := (Array.getElem?_eq_some_iff.1 hit).1
      by_cases hlt : pos < n
      · have hlt2 : Hid (pos < s.size) := Lib.hid (by rw [HN.out]; exact hlt)
        by_cases h128 : bt s pos < 128
        · have hnx : ∀ ty, (Instr.next (.pointer (some ⟨w.heap.size, 0, none⟩)) true ty).run Tryd.prog wr = _ := fun ty => next_ascii wr w.heap.size s pos hit hlt2.out h128 ty
          have hit2 := Lib.iterAt_heap wr w.heap.size s pos (pos + 1) hit
          have HB2 := Lib.hid (Lib.below_iterAt HB.out (k := w.heap.size) (Nat.le_refl _) s (pos + 1))
          have HO2 : Hid (Os (w.heap.size + 1) (wr.iterAt w.heap.size s (pos + 1)) _ (pcs s 10 pos)) := Lib.hid (HO.out.iterAt (by omega))
          have hgl2 : w.heap.size < (wr.iterAt w.heap.size s (pos + 1)).heap.size := by rw [Lib.iterAt_size]; exact hgl
          by_cases h10 : bt s pos = 10
          · have HMM : ∀ W : World, W.iterPos w.heap.size = pos + 1 → n - W.iterPos w.heap.size < n - wr.iterPos w.heap.size := fun W hW => by rw [hW]; simp only [World.iterPos, hit]; omega
            have HMH := Lib.hid HMM
            rw [h10] at hnx
            have HS := Lib.hid (pcs_yes (s := s) (c := 10) (i := pos) h10)
            have HF := Lib.hid (frm_yes (s := s) (c := 10) (i := pos) h10)
            have hfl := frm_le s 10 pos
            obtain ⟨f, hf⟩ : ∃ f, frm s 10 pos = f := ⟨_, rfl⟩
            rw [hf] at hfl HS ⊢
            obtain ⟨u, hu⟩ : ∃ u, s.extract f pos = u := ⟨_, rfl⟩
            rw [hu] at HS
            have hf0 : (0 : Int) ≤ (f : Int) := by omega
            have hfp : (f : Int) ≤ (pos : Int) := by omega
            have hpn : (pos : Int) ≤ ((s.size : Nat) : Int) := by rw [hsz]; omega
            have C4 : Hid ((pcs s 10 pos).length + 1 ≤ maxLen) := Lib.hid (by have := pcs_len s 10 pos; unfold maxLen; omega)
            have C5 : Hid (((pcs s 10 pos).length + 1) * 16 ≤ 140737488355328) := Lib.hid (by have := pcs_len s 10 pos; omega)
            clear hf
            generalize wr.iterAt w.heap.size s (pos + 1) = w3 at hnx hit2 HB2 HO2 hgl2
            have W1 : IntKind.i64.wrap ((pos : Int) + 1) = (pos : Int) + 1 := IntWalk.i64_in _ (by omega)
            clear h10 h128 HMM
            go_wp2_with (first | (go_loud (at_builtin; refine wpList_append_own _ rfl _ _ 24 rfl (w.heap.size + 1) 9 i0 (.string ⟨#[]⟩) 1 16 Tryd.underlying24 hi0 hz0 hs0 hb0' rfl (by omega) _ _ _ rfl (HO2.out.alloc _) ⟨_, 0, none⟩ 1 1 [.string u] rfl rfl (new_cell _ _ _ _ (by simp)) (one_str u) C4.out C5.out (by simp; omega) ?_)) | fail)
            intro v' w9 hown hgrow _
            have HO9 : Hid (Os (w.heap.size + 1) w9 v' (pcs s 10 (pos + 1))) := Lib.hid (by rw [HS.out]; unfold Os; rw [List.length_append, vst_app]; exact hown)
            have HB9 : Hid (Below w.heap.size w w9) := Lib.hid ((HB2.out.alloc HB2.out.size (.cells #[.string u] 9)).grown hgrow (by simp; omega) (fun k hk => by have := (HO2.out.lt k hk).1; omega))
            have hit9 : w9.heap[w.heap.size]? = some (.stringIter s (pos + 1)) := by
              have h1 := hgrow.block w.heap.size (by simp; omega) (fun e => by have := (HO2.out.lt _ e.symm).1; omega)
              rw [h1, heap_alloc_old _ _ hgl2]; exact hit2
            clear hown hgrow
            go_wp2_with fail
            go_roundw
            case rel => exact ⟨pos + 1, by omega, by rw [HF.out]; first | rfl | go_num, HO9, hit9, HB9⟩
            case measure => exact HMH.out w9 (by simp only [World.iterPos, hit9])
          · have HS := Lib.hid (pcs_no (s := s) (c := 10) (i := pos) h10)
            have HF := Lib.hid (frm_no (s := s) (c := 10) (i := pos) h10)
            have q1 : (bt s pos == 10) = false := by simp [h10]
            obtain ⟨c, hc⟩ : ∃ c, bt s pos = c := ⟨_, rfl⟩
            rw [hc] at hnx q1
            clear h10 h128 hc
            go_wp2_with fail
            go_roundw
            case rel => exact ⟨pos + 1, by omega, by rw [HF.out], by rw [HS.out]; exact HO2, hit2, HB2⟩
            case measure =>
              simp only [World.iterPos, hit2, hit]
              omega
        · obtain ⟨c, p, hc1, hc2, hp1, hp2, hp3, hnx⟩ := next_high (P := Tryd.prog) wr w.heap.size s pos hit hlt2.out (by omega)
          have q1 : (c == 10) = false := by simp; omega
          obtain ⟨hr1, hr2⟩ := run_no (s := s) (c := 10) (p := pos) (q := p) (by omega) (fun j a b => by have := hp3 j a b; omega)
          have HS := Lib.hid hr2
          have HF := Lib.hid hr1
          have hit2 := Lib.iterAt_heap wr w.heap.size s pos p hit
          have HB2 := Lib.hid (Lib.below_iterAt HB.out (k := w.heap.size) (Nat.le_refl _) s p)
          have HO2 : Hid (Os (w.heap.size + 1) (wr.iterAt w.heap.size s p) _ (pcs s 10 pos)) := Lib.hid (HO.out.iterAt (by omega))
          have hpn : Hid (p ≤ n) := Lib.hid (by rw [← HN.out]; exact hp2)
          clear hr1 hr2 hp3 hp2 h128
          go_wp2_with fail
          go_roundw
          case rel => exact ⟨p, hpn.out, by rw [HF.out], by rw [HS.out]; exact HO2, hit2, HB2⟩
          case measure =>
            simp only [World.iterPos, hit2, hit]
            omega
      · have hnx : ∀ ty, (Instr.next (.pointer (some ⟨w.heap.size, 0, none⟩)) true ty).run Tryd.prog wr = _ := fun ty => Lib.run_next_end_at wr w.heap.size s pos ty hit (by rw [HN.out]; exact hlt)
        have hp : pos = n := by omega
        subst hp
        have hfn := frm_le s 10 pos
        by_cases hlast : frm s 10 pos < pos
        · have q1 : ((frm s 10 pos : Nat) : Int) < (pos : Int) := by omega
          have HL : Hid (lnL s = pcs s 10 pos ++ [s.extract (frm s 10 pos) pos]) := Lib.hid (by unfold lnL; rw [HN.out, if_neg hbig, if_pos hlast])
          obtain ⟨f, hf⟩ : ∃ f, frm s 10 pos = f := ⟨_, rfl⟩
          rw [hf] at hfn q1 HL ⊢
          have hf0 : (0 : Int) ≤ (f : Int) := by omega
          have hfI : (f : Int) ≤ ((s.size : Nat) : Int) := by rw [hsz]; omega
          obtain ⟨u, hu⟩ : ∃ u, s.extract f pos = u := ⟨_, rfl⟩
          have hu2 : s.extract f s.size = u := by rw [HN.out]; exact hu
          rw [hu] at HL
          have C4 : Hid ((pcs s 10 pos).length + 1 ≤ maxLen) := Lib.hid (by have := pcs_len s 10 pos; unfold maxLen; omega)
          have C5 : Hid (((pcs s 10 pos).length + 1) * 16 ≤ 140737488355328) := Lib.hid (by have := pcs_len s 10 pos; omega)
          have hbs := HB.out.size
          clear hf hu
          go_wp2_with (first | (go_loud (at_builtin; refine wpList_append_own _ rfl _ _ 24 rfl (w.heap.size + 1) 9 i0 (.string ⟨#[]⟩) 1 16 Tryd.underlying24 hi0 hz0 hs0 hb0' rfl (by omega) _ _ _ rfl (HO.out.alloc _) ⟨_, 0, none⟩ 1 1 [.string u] rfl rfl (new_cell _ _ _ _ (by simp)) (one_str u) C4.out C5.out (by simp; omega) ?_)) | fail)
          intro v' w9 hown hgrow _
          have HO9 : Hid (Os (w.heap.size + 1) w9 v' (lnL s)) := Lib.hid (by rw [HL.out]; unfold Os; rw [List.length_append, vst_app]; exact hown)
          have HB9 : Hid (Below w.heap.size w w9) := Lib.hid ((HB.out.alloc HB.out.size (.cells #[.string u] 9)).grown hgrow (by simp; omega) (fun k hk => by have := (HO.out.lt k hk).1; omega))
          clear hown hgrow
          obtain ⟨A, c, rfl, hlc, hr⟩ := HO9.out.out (by have := congrArg List.length HL.out; rw [List.length_append] at this; have := pcs_len s 10 pos; simp at *; omega)
          have HR := Lib.hid hr; have HLC := Lib.hid hlc; clear hlc
          clear hr
          go_wp2_with fail
          go_ret2
          exact ⟨A, c, by rw [HE.out]; rfl, HR.out, HB9.out, HLC.out⟩
        · have q1 : decide (((frm s 10 pos : Nat) : Int) < (pos : Int)) = false := decide_eq_false (by omega)
          have HL : Hid (lnL s = pcs s 10 pos) := Lib.hid (by unfold lnL; rw [HN.out, if_neg hbig, if_neg hlast, List.append_nil])
          rw [← HL.out] at HO
          obtain ⟨A, c, rfl, hlc, hr⟩ := HO.out.out (by rw [HL.out]; have := pcs_len s 10 pos; omega)
          have HR := Lib.hid hr; have HLC := Lib.hid hlc; clear hlc
          clear hr
          go_wp2_with fail
          go_ret2
          exact ⟨A, c, by rw [HE.out]; rfl, HR.out, HB.out, HLC.out⟩
set_option maxHeartbeats 2000000 in
set_option maxRecDepth 100000 in
theorem lines24 (s : ByteArray) (w : World) : Calls Tryd.prog 24 #[.string s] w (LnR (lnL s) (lnE s) w) := by
  by_cases hbig : 65536 < s.size
  · have hbI : (65536 : Int) < ((s.size : Nat) : Int) := by omega
    have HL : Hid (lnL s = []) := Lib.hid (if_pos hbig)
    have HE : Hid (lnE s = 4) := Lib.hid (if_pos hbig)
    go_enter Tryd.func24, Tryd.ntmps24
    go_wp2_with fail
    go_ret2
    exact ⟨none, 0, by rw [HL.out, HE.out]; rfl, by rw [HL.out]; exact rs_none _ _, Below.refl _ _, by rw [HL.out]; exact Nat.le_refl _⟩
  · have hbI : decide ((65536 : Int) < ((s.size : Nat) : Int)) = false := decide_eq_false (by omega)
    have HE : Hid (lnE s = 0) := Lib.hid (if_neg hbig)
    obtain ⟨i0, hi0, hz0, hs0, hb0'⟩ := info_parts str_info
    obtain ⟨n, hn⟩ : ∃ n, s.size = n := ⟨_, rfl⟩
    have HN := Lib.hid hn
    have hsz : ((s.size : Nat) : Int) = (n : Int) := by omega
    rw [hn] at hbig
    clear hn
    go_enter Tryd.func24, Tryd.ntmps24
    go_wp2_with fail
    clear hbI
    go_loopw [4, 5, 6] (fun v fv iv wr => ∃ pos : Nat, pos ≤ n ∧ iv = .int .i64 pos ∧ fv = .int .i64 ((frm s 10 pos : Nat) : Int) ∧ Hid (Os w.heap.size wr v (pcs s 10 pos)) ∧ Hid (Below w.heap.size w wr)) (fun _ _ iv _ => n - (intOf iv).toNat)
    case atStart => exact ⟨0, Nat.zero_le _, rfl, rfl, Lib.hid (Os.nil _ _), Lib.hid (Below.refl _ _)⟩
    case round =>
      obtain ⟨pos, hpos, rfl, rfl, HO, HB⟩ := hrel
      by_cases hlt : pos < n
      · have hltI : (pos : Int) < (n : Int) := by omega
        have hks : pos < s.size := by rw [HN.out]; exact hlt
        have hbt := bt_at hks
        have hp0 : (0 : Int) ≤ (pos : Int) := by omega
        have W1 : IntKind.i64.wrap ((pos : Int) + 1) = (pos : Int) + 1 := IntWalk.i64_in _ (by omega)
        by_cases h10 : bt s pos = 10
        · rw [h10] at hbt
          have hbs := HB.out.size
          have HS := Lib.hid (pcs_yes (s := s) (c := 10) (i := pos) h10)
          have HF := Lib.hid (frm_yes (s := s) (c := 10) (i := pos) h10)
          have hfl := frm_le s 10 pos
          obtain ⟨f, hf⟩ : ∃ f, frm s 10 pos = f := ⟨_, rfl⟩
          rw [hf] at hfl HS ⊢
          obtain ⟨u, hu⟩ : ∃ u, s.extract f pos = u := ⟨_, rfl⟩
          rw [hu] at HS
          have hf0 : (0 : Int) ≤ (f : Int) := by omega
          have hfp : (f : Int) ≤ (pos : Int) := by omega
          have hpn : (pos : Int) ≤ ((s.size : Nat) : Int) := by rw [hsz]; omega
          have C4 : Hid ((pcs s 10 pos).length + 1 ≤ maxLen) := Lib.hid (by have := pcs_len s 10 pos; unfold maxLen; omega)
          have C5 : Hid (((pcs s 10 pos).length + 1) * 16 ≤ 140737488355328) := Lib.hid (by have := pcs_len s 10 pos; omega)
          clear hf
          clear h10
          go_wp2_with (first | (go_loud (at_builtin; refine wpList_append_own _ rfl _ _ 24 rfl w.heap.size 9 i0 (.string ⟨#[]⟩) 1 16 Tryd.underlying24 hi0 hz0 hs0 hb0' rfl (by omega) _ _ _ rfl (HO.out.alloc _) ⟨_, 0, none⟩ 1 1 [.string u] rfl rfl (new_cell _ _ _ _ (by simp)) (one_str u) C4.out C5.out (by simp; omega) ?_)) | fail)
          intro v' w9 hown hgrow _
          have HO9 : Hid (Os w.heap.size w9 v' (pcs s 10 (pos + 1))) := Lib.hid (by rw [HS.out]; unfold Os; rw [List.length_append, vst_app]; exact hown)
          have HB9 : Hid (Below w.heap.size w w9) := Lib.hid ((HB.out.alloc HB.out.size (.cells #[.string u] 9)).grown hgrow (by simp; omega) (fun k hk => by have := (HO.out.lt k hk).1; omega))
          clear hown hgrow
          go_wp2_with fail
          go_roundw
          case rel => exact ⟨pos + 1, by omega, by go_num, by rw [HF.out]; first | rfl | go_num, HO9, HB9⟩
          case measure => simp [intOf]; omega
        · have HS := Lib.hid (pcs_no (s := s) (c := 10) (i := pos) h10)
          have HF := Lib.hid (frm_no (s := s) (c := 10) (i := pos) h10)
          have q1 : (bt s pos == 10) = false := by simp [h10]
          obtain ⟨c, hc⟩ : ∃ c, bt s pos = c := ⟨_, rfl⟩
          rw [hc] at hbt q1
          clear h10 hc
          go_wp2_with fail
          go_roundw
          case rel => exact ⟨pos + 1, by omega, by go_num, by rw [HF.out], by rw [HS.out]; exact HO, HB⟩
          case measure => simp [intOf]; omega
      · have hltI : ¬ (pos : Int) < (n : Int) := by omega
        have hp : pos = n := by omega
        subst hp
        have hfn := frm_le s 10 pos
        by_cases hlast : frm s 10 pos < pos
        · have q1 : ((frm s 10 pos : Nat) : Int) < (pos : Int) := by omega
          have HL : Hid (lnL s = pcs s 10 pos ++ [s.extract (frm s 10 pos) pos]) := Lib.hid (by unfold lnL; rw [HN.out, if_neg hbig, if_pos hlast])
          obtain ⟨f, hf⟩ : ∃ f, frm s 10 pos = f := ⟨_, rfl⟩
          rw [hf] at hfn q1 HL ⊢
          have hf0 : (0 : Int) ≤ (f : Int) := by omega
          have hfI : (f : Int) ≤ ((s.size : Nat) : Int) := by rw [hsz]; omega
          obtain ⟨u, hu⟩ : ∃ u, s.extract f pos = u := ⟨_, rfl⟩
          have hu2 : s.extract f s.size = u := by rw [HN.out]; exact hu
          rw [hu] at HL
          have C4 : Hid ((pcs s 10 pos).length + 1 ≤ maxLen) := Lib.hid (by have := pcs_len s 10 pos; unfold maxLen; omega)
          have C5 : Hid (((pcs s 10 pos).length + 1) * 16 ≤ 140737488355328) := Lib.hid (by have := pcs_len s 10 pos; omega)
          have hbs := HB.out.size
          clear hf hu
          go_wp2_with (first | (go_loud (at_builtin; refine wpList_append_own _ rfl _ _ 24 rfl w.heap.size 9 i0 (.string ⟨#[]⟩) 1 16 Tryd.underlying24 hi0 hz0 hs0 hb0' rfl (by omega) _ _ _ rfl (HO.out.alloc _) ⟨_, 0, none⟩ 1 1 [.string u] rfl rfl (new_cell _ _ _ _ (by simp)) (one_str u) C4.out C5.out (by simp; omega) ?_)) | fail)
          intro v' w9 hown hgrow _
          have HO9 : Hid (Os w.heap.size w9 v' (lnL s)) := Lib.hid (by rw [HL.out]; unfold Os; rw [List.length_append, vst_app]; exact hown)
          have HB9 : Hid (Below w.heap.size w w9) := Lib.hid ((HB.out.alloc HB.out.size (.cells #[.string u] 9)).grown hgrow (by simp; omega) (fun k hk => by have := (HO.out.lt k hk).1; omega))
          clear hown hgrow
          obtain ⟨A, c, rfl, hlc, hr⟩ := HO9.out.out (by have := congrArg List.length HL.out; rw [List.length_append] at this; have := pcs_len s 10 pos; simp at *; omega)
          have HR := Lib.hid hr; have HLC := Lib.hid hlc; clear hlc
          clear hr
          go_wp2_with fail
          go_ret2
          exact ⟨A, c, by rw [HE.out]; rfl, HR.out, HB9.out, HLC.out⟩
        · have q1 : decide (((frm s 10 pos : Nat) : Int) < (pos : Int)) = false := decide_eq_false (by omega)
          have HL : Hid (lnL s = pcs s 10 pos) := Lib.hid (by unfold lnL; rw [HN.out, if_neg hbig, if_neg hlast, List.append_nil])
          rw [← HL.out] at HO
          obtain ⟨A, c, rfl, hlc, hr⟩ := HO.out.out (by rw [HL.out]; have := pcs_len s 10 pos; omega)
          have HR := Lib.hid hr; have HLC := Lib.hid hlc; clear hlc
          clear hr
          go_wp2_with fail
          go_ret2
          exact ⟨A, c, by rw [HE.out]; rfl, HR.out, HB.out, HLC.out⟩
end Go.Proofs.YtcgcccieccicnaaDoor.Wk
