/- Chains of digests, in the layer and in its reference; few. Condition: the slice reads as lists of bytes; no more than 4096 of them. -/
import Derived.Test.YtbhdghopdhehdaaRt
set_option linter.unusedSimpArgs false
set_option linter.unusedVariables false
namespace Go.Proofs.Ytbhdghopdhehdaa.Mt
def lat (ls : List (List Int)) (i : Nat) : List Int := ls.getD i []
/-- are the first k short? -/
def fwk (ls : List (List Int)) : Nat → Bool
  | 0 => true
  | k + 1 => fwk ls k && decide ((lat ls k).length ≤ 100)
theorem fwk_yes {ls : List (List Int)} {k : Nat} (h : fwk ls k = true) (h2 : (lat ls k).length ≤ 100) : fwk ls (k + 1) = true := by simp [fwk, h, h2]
theorem fwk_no {ls : List (List Int)} {k : Nat} (h2 : ¬ (lat ls k).length ≤ 100) : ∀ d, fwk ls (k + 1 + d) = false := by
  intro d
  induction d with
  | zero => simp [fwk, h2]
  | succ d ih => rw [← Nat.add_assoc, fwk, ih]; rfl
def fwS (ls : List (List Int)) : Bool := decide (ls.length ≤ 100) && fwk ls ls.length
/-- the last digest behind k elements, and all of them -/
def cv (start : Int) (ls : List (List Int)) : Nat → Int
  | 0 => start
  | k + 1 => jn (cv start ls k) (hs (lat ls k))
def cl (start : Int) (ls : List (List Int)) : Nat → List Int
  | 0 => []
  | k + 1 => cl start ls k ++ [cv start ls (k + 1)]
theorem cv_next (start : Int) (ls : List (List Int)) (k : Nat) : cv start ls (k + 1) = jn (cv start ls k) (hs (lat ls k)) := rfl
theorem cl_next (start : Int) (ls : List (List Int)) (k : Nat) : cl start ls (k + 1) = cl start ls k ++ [cv start ls (k + 1)] := rfl
theorem cl_len (start : Int) (ls : List (List Int)) (k : Nat) : (cl start ls k).length = k := by
  induction k with
  | zero => rfl
  | succ k ih => rw [cl_next]; simp [ih]
theorem cl_in (start : Int) (ls : List (List Int)) (k : Nat) : ∀ x ∈ cl start ls k, 0 ≤ x ∧ x ≤ 18446744073709551615 := by
  induction k with
  | zero => intro x hx; simp [cl] at hx
  | succ k ih =>
    intro x hx
    rw [cl_next] at hx
    rcases List.mem_append.1 hx with h1 | h1
    · exact ih x h1
    · have : x = cv start ls (k + 1) := by simpa using h1
      rw [this, cv_next]; exact jn_in _ _
end Go.Proofs.Ytbhdghopdhehdaa.Mt
namespace Go.Proofs.Ytbhdghopdhehdaa.Wk
open Go.RowKit
open Go.Proofs.Ytbhdghopdhehdaa.Mt
/-- a slice of slices of bytes reads as the lists ls -/
def Rss (w : World) (B : Nat) (A : Option Addr) (n : Nat) (ls : List (List Int)) : Prop :=
  ls.length = n ∧ n ≤ 9223372036854775807 ∧ (0 < n → ∃ b off, A = some ⟨b, off, none⟩ ∧ b < B ∧ ∀ i, i < n → ∃ Ai ni ci, w.cell? ⟨b, off + i, none⟩ = some (.slice Ai ni ci) ∧ Rk .u8 w B Ai ni (lat ls i))
theorem Rk.wide {k : IntKind} {w : World} {B B' : Nat} {A : Option Addr} {n : Nat} {zs : List Int} (h : Rk k w B A n zs) (hB : B ≤ B') : Rk k w B' A n zs :=
  ⟨h.1, h.2.1, fun h0 => by obtain ⟨b, off, e, hlt, hc⟩ := h.2.2.1 h0; exact ⟨b, off, e, by omega, hc⟩, h.2.2.2⟩
theorem Rss.get {w w' : World} {A : Option Addr} {n : Nat} {ls : List (List Int)} (h : Rss w w.heap.size A n ls) (hb : Below w.heap.size w w') {i : Nat} (hi : i < n) : ∃ b off Ai ni ci, A = some ⟨b, off, none⟩ ∧ b < w.heap.size ∧ w'.cell? ⟨b, off + i, none⟩ = some (.slice Ai ni ci) ∧ Rk .u8 w' w'.heap.size Ai ni (lat ls i) := by
  obtain ⟨b, off, e, hlt, hc⟩ := h.2.2 (by omega)
  obtain ⟨Ai, ni, ci, h1, h2⟩ := hc i hi
  exact ⟨b, off, Ai, ni, ci, e, hlt, (hb.cell (p := ⟨b, _, none⟩) hlt).trans h1, (h2.below hb (Nat.le_refl _)).wide hb.size⟩
set_option maxRecDepth 100000 in
theorem few16 (A : Option Addr) (n c : Nat) (ls : List (List Int)) (w : World) (h : Rss w w.heap.size A n ls) :
    Calls Try.prog 16 #[.slice A n c] w fun e w' => e = .returned (.bool (fwS ls)) ∧ w = w' := by
  have hn := h.2.1
  have HL := Lib.hid h.1
  have HR := Lib.hid h
  clear h
  by_cases h0 : 100 < n
  · have hI : (100 : Int) < (n : Int) := by omega
    have HE : Hid (fwS ls = false) := Lib.hid (by rw [fwS, HL.out]; simp; omega)
    go_enter Try.func16, Try.ntmps16
    go_wp2_with fail
    go_ret
    exact ⟨by rw [HE.out]; rfl, rfl⟩
  · have hI : decide ((100 : Int) < (n : Int)) = false := decide_eq_false (by omega)
    go_enter Try.func16, Try.ntmps16
    go_wp2_with fail
    go_loop [3] (fun i => ∃ k : Nat, k ≤ n ∧ i = .int .i64 k ∧ Hid (fwk ls k = true)) (fun i => n - (intOf i).toNat)
    case atStart => exact ⟨0, Nat.zero_le _, rfl, Lib.hid rfl⟩
    case round =>
      obtain ⟨k, hk, rfl, HF⟩ := hrel
      by_cases hlt : k < n
      · have hltI : (k : Int) < (n : Int) := by omega
        obtain ⟨b, off, Ai, ni, ci, rfl, _, d1, hr⟩ := HR.out.get (Below.refl _ _) hlt
        have HN := Lib.hid hr.1
        clear hr
        by_cases hs : 100 < ni
        · have hsI : (100 : Int) < (ni : Int) := by omega
          have HE : Hid (fwS ls = false) := Lib.hid (by
            have := fwk_no (ls := ls) (k := k) (by rw [HN.out]; omega) (n - (k + 1))
            rw [show k + 1 + (n - (k + 1)) = n by omega] at this
            rw [fwS, HL.out, this]; simp)
          go_wp2_with fail
          go_ret
          exact ⟨by rw [HE.out]; rfl, rfl⟩
        · have hsI : decide ((100 : Int) < (ni : Int)) = false := decide_eq_false (by omega)
          have HF2 := Lib.hid (fwk_yes HF.out (by rw [HN.out]; omega))
          go_wp2_with fail
          go_round
          case rel => exact ⟨k + 1, by omega, by go_num, HF2⟩
          case measure => simp [intOf]; omega
      · have hltI : ¬ (k : Int) < (n : Int) := by omega
        have HE : Hid (fwS ls = true) := Lib.hid (by
          have e : k = n := by omega
          rw [fwS, HL.out, ← e, HF.out]; simp; omega)
        go_wp2_with fail
        go_ret
        exact ⟨by rw [HE.out]; rfl, rfl⟩
set_option maxHeartbeats 1000000 in
set_option maxRecDepth 100000 in
theorem chain18o (start : Int) (A : Option Addr) (n c : Nat) (ls : List (List Int)) (w : World) (h : Rss w w.heap.size A n ls) (hn4 : n ≤ 4096) (hst : 0 ≤ start ∧ start ≤ 18446744073709551615) :
    Calls Try.prog 18 #[.int .u64 start, .slice A n c] w fun e w' => ∃ v, e = .returned v ∧ Ow .u64 23 w.heap.size w w' v (cl start ls n) := by
  have hn := h.2.1
  have HL := Lib.hid h.1
  have HR := Lib.hid h
  clear h
  obtain ⟨i0, hi0, hz0, hs0, hb0'⟩ := info_parts u64_info
  obtain ⟨wm, hrun, hown, hg⟩ := run_make_own (P := Try.prog) (w := w) w.heap.size 31 23 i0 (.int .u64 0) 1 Try.underlying31 hi0 hz0 hs0 .i64 .i64 n (by rw [hb0']; omega) (by unfold maxLen; omega) (Nat.le_refl _)
  have HM : Hid (Ow .u64 23 w.heap.size w wm (.slice (some ⟨w.heap.size, 0, none⟩) 0 n) []) := Lib.hid ⟨Nat.le_refl _, (Below.refl _ _).grown hg (Nat.le_refl _) (fun k hk => by cases hk), hown⟩
  clear hown hg
  go_enter Try.func18, Try.ntmps18
  go_wp2_with fail
  clear hrun
  go_loopw [0, 5, 13] (fun x v i wr => ∃ k : Nat, k ≤ n ∧ i = .int .i64 k ∧ x = .int .u64 (cv start ls k) ∧ Hid (0 ≤ cv start ls k ∧ cv start ls k ≤ 18446744073709551615) ∧ Hid (Ow .u64 23 w.heap.size w wr v (cl start ls k))) (fun _ _ i _ => n - (intOf i).toNat)
  case atStart => exact ⟨0, Nat.zero_le _, rfl, rfl, Lib.hid hst, HM⟩
  case round =>
    obtain ⟨k, hk, rfl, rfl, HX, HO⟩ := hrel
    by_cases hlt : k < n
    · have hltI : (k : Int) < (n : Int) := by omega
      obtain ⟨b, off, Ai, ni, ci, rfl, hbb, d1, hr⟩ := HR.out.get HO.out.2.1 hlt
      have HH := Lib.hid hr
      clear hr
      have HN := Lib.hid (cv_next start ls k)
      have HD := Lib.hid (cl_next start ls k)
      have HY : Hid (0 ≤ hs (lat ls k) ∧ hs (lat ls k) ≤ 18446744073709551615) := Lib.hid (hk_in _ _)
      obtain ⟨x, hx⟩ : ∃ x, cv start ls k = x := ⟨_, rfl⟩
      rw [hx] at HN HX ⊢
      clear hx
      go_wp2_with fail
      refine (hash11 Ai ni ci (lat ls k) _ HH.out).mono ?_
      rintro e w2 ⟨rfl, rfl⟩
      obtain ⟨y, hy⟩ : ∃ y, hs (lat ls k) = y := ⟨_, rfl⟩
      rw [hy] at HN HY ⊢
      clear hy HH
      go_wp2_with fail
      refine (join13 x y _ HX.out HY.out).mono ?_
      rintro e w2 ⟨rfl, hb⟩
      have HO2 := Lib.hid (HO.out.below hb)
      clear hb d1 HO
      rw [← HN.out]
      have HX2 : Hid (0 ≤ cv start ls (k + 1) ∧ cv start ls (k + 1) ≤ 18446744073709551615) := Lib.hid (by rw [HN.out]; exact jn_in _ _)
      obtain ⟨z, hz⟩ : ∃ z, cv start ls (k + 1) = z := ⟨_, rfl⟩
      have HZ := Lib.hid hz
      rw [hz] at HD HN HX2 ⊢
      clear hz
      have hoo := HO2.out.2.2
      rw [cl_len] at hoo
      have HOO := Lib.hid hoo
      have hsz := HO2.out.size
      clear hoo
      have C4 : Hid (k + 1 ≤ maxLen) := Lib.hid (by unfold maxLen; omega)
      have C5 : Hid ((k + 1) * 8 ≤ 140737488355328) := Lib.hid (by omega)
      go_wp2_with (at_builtin; refine wpList_append_own _ rfl _ _ 31 rfl w.heap.size 23 i0 (.int .u64 0) 1 8 Try.underlying31 hi0 hz0 hs0 hb0' rfl (by omega) _ _ _ rfl (HOO.out.alloc _) ⟨_, 0, none⟩ 1 1 [.int .u64 z] rfl rfl (new_cell _ _ _ _ (by simp)) (one_int .u64 z) C4.out C5.out (by simp; omega) ?_)
      intro v' w9 hown hgrow _
      have HO9 := Lib.hid (HO2.out.app (cl_len start ls k) hown hgrow)
      clear hown hgrow HOO HO2
      rw [← HD.out] at HO9
      go_wp2_with fail
      go_roundw
      case rel => exact ⟨k + 1, by omega, by go_num, by rw [HZ.out], by rw [HZ.out]; exact HX2, HO9⟩
      case measure => simp [intOf]; omega
    · have hltI : ¬ (k : Int) < (n : Int) := by omega
      obtain rfl : k = n := by omega
      go_wp2_with fail
      go_ret
      first | exact HO.out | exact ⟨_, rfl, HO.out⟩
theorem chain18 (start : Int) (A : Option Addr) (n c : Nat) (ls : List (List Int)) (w : World) (h : Rss w w.heap.size A n ls) (hn4 : n ≤ 4096) (hst : 0 ≤ start ∧ start ≤ 18446744073709551615) :
    Calls Try.prog 18 #[.int .u64 start, .slice A n c] w fun e w' => ∃ A' c', e = .returned (.slice A' n c') ∧ Rk .u64 w' w'.heap.size A' n (cl start ls n) ∧ Below w.heap.size w w' := by
  refine (chain18o start A n c ls w h hn4 hst).mono fun e w' ⟨v, h1, h2⟩ => ?_
  obtain ⟨A9, c9, rfl, hrk⟩ := Rk.owned h2.2.2 (by rw [cl_len]; have := h.2.1; omega) (fun q => u64_w ((u64_mem (cl_in start ls n)) q))
  rw [cl_len] at hrk h1
  exact ⟨A9, c9, h1, hrk, h2.2.1⟩
set_option maxHeartbeats 1000000 in
set_option maxRecDepth 100000 in
theorem chain19 (start : Int) (A : Option Addr) (n c : Nat) (ls : List (List Int)) (w : World) (h : Rss w w.heap.size A n ls) (hn4 : n ≤ 4096) (hst : 0 ≤ start ∧ start ≤ 18446744073709551615) :
    Calls Try.prog 19 #[.int .u64 start, .slice A n c] w fun e w' => ∃ A' c', e = .returned (.slice A' n c') ∧ Rk .u64 w' w'.heap.size A' n (cl start ls n) ∧ Below w.heap.size w w' := by
  have hn := h.2.1
  have HL := Lib.hid h.1
  have HR := Lib.hid h
  clear h
  obtain ⟨i0, hi0, hz0, hs0, hb0'⟩ := info_parts u64_info
  go_enter Try.func19, Try.ntmps19
  go_wp2_with fail
  go_loopw [5, 6, 7] (fun v x i wr => ∃ k : Nat, k ≤ n ∧ i = .int .i64 k ∧ x = .int .u64 (cv start ls k) ∧ Hid (0 ≤ cv start ls k ∧ cv start ls k ≤ 18446744073709551615) ∧ Hid (Ow .u64 23 w.heap.size w wr v (cl start ls k))) (fun _ _ i _ => n - (intOf i).toNat)
  case atStart => exact ⟨0, Nat.zero_le _, rfl, rfl, Lib.hid hst, Lib.hid (Ow.nil (Nat.le_refl _))⟩
  case round =>
    obtain ⟨k, hk, rfl, rfl, HX, HO⟩ := hrel
    by_cases hlt : k < n
    · have hltI : (k : Int) < (n : Int) := by omega
      obtain ⟨b, off, Ai, ni, ci, rfl, hbb, d1, hr⟩ := HR.out.get HO.out.2.1 hlt
      have HH := Lib.hid hr
      clear hr
      have HN := Lib.hid (cv_next start ls k)
      have HD := Lib.hid (cl_next start ls k)
      have HY : Hid (0 ≤ hs (lat ls k) ∧ hs (lat ls k) ≤ 18446744073709551615) := Lib.hid (hk_in _ _)
      obtain ⟨x, hx⟩ : ∃ x, cv start ls k = x := ⟨_, rfl⟩
      rw [hx] at HN HX ⊢
      clear hx
      go_wp2_with fail
      refine (hash12 Ai ni ci (lat ls k) _ HH.out).mono ?_
      rintro e w2 ⟨rfl, rfl⟩
      obtain ⟨y, hy⟩ : ∃ y, hs (lat ls k) = y := ⟨_, rfl⟩
      rw [hy] at HN HY ⊢
      clear hy HH
      go_wp2_with fail
      refine (join14 x y _ HX.out HY.out).mono ?_
      rintro e w2 ⟨rfl, hb⟩
      have HO2 := Lib.hid (HO.out.below hb)
      clear hb d1 HO
      rw [← HN.out]
      have HX2 : Hid (0 ≤ cv start ls (k + 1) ∧ cv start ls (k + 1) ≤ 18446744073709551615) := Lib.hid (by rw [HN.out]; exact jn_in _ _)
      obtain ⟨z, hz⟩ : ∃ z, cv start ls (k + 1) = z := ⟨_, rfl⟩
      have HZ := Lib.hid hz
      rw [hz] at HD HN HX2 ⊢
      clear hz
      have hoo := HO2.out.2.2
      rw [cl_len] at hoo
      have HOO := Lib.hid hoo
      have hsz := HO2.out.size
      clear hoo
      have C4 : Hid (k + 1 ≤ maxLen) := Lib.hid (by unfold maxLen; omega)
      have C5 : Hid ((k + 1) * 8 ≤ 140737488355328) := Lib.hid (by omega)
      go_wp2_with (at_builtin; refine wpList_append_own _ rfl _ _ 31 rfl w.heap.size 23 i0 (.int .u64 0) 1 8 Try.underlying31 hi0 hz0 hs0 hb0' rfl (by omega) _ _ _ rfl (HOO.out.alloc _) ⟨_, 0, none⟩ 1 1 [.int .u64 z] rfl rfl (new_cell _ _ _ _ (by simp)) (one_int .u64 z) C4.out C5.out (by simp; omega) ?_)
      intro v' w9 hown hgrow _
      have HO9 := Lib.hid (HO2.out.app (cl_len start ls k) hown hgrow)
      clear hown hgrow HOO HO2
      rw [← HD.out] at HO9
      go_wp2_with fail
      go_roundw
      case rel => exact ⟨k + 1, by omega, by go_num, by rw [HZ.out], by rw [HZ.out]; exact HX2, HO9⟩
      case measure => simp [intOf]; omega
    · have hltI : ¬ (k : Int) < (n : Int) := by omega
      obtain rfl : k = n := by omega
      obtain ⟨A9, c9, rfl, hrk⟩ := Rk.owned HO.out.2.2 (by rw [cl_len]; omega) (fun q => u64_w ((u64_mem (cl_in start ls k)) q))
      rw [cl_len] at hrk
      have HRK := Lib.hid hrk
      have HB := Lib.hid HO.out.2.1
      clear hrk HO
      rw [cl_len]
      go_wp2_with fail
      go_ret
      first | exact ⟨_, ⟨_, rfl⟩, HRK.out, HB.out⟩ | exact ⟨_, _, rfl, HRK.out, HB.out⟩
end Go.Proofs.Ytbhdghopdhehdaa.Wk
