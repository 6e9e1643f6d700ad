/- The check of a transponder number, both sides. No condition. -/
import Derived.Test.YtgelodnkfajgjaaGreatDoorProg
import Derived.Below
import Derived.BigQuiet
import Derived.Deep.AppendLies
import Derived.Deep.Onto
import Derived.Deep.QuietTactic
import Derived.Deep.RegionHeld3
import Derived.Handy
import Derived.IntWalk
import Derived.Laws.AppendOwn
import Derived.Laws.Bits64
import Derived.Laws.OwnMore
import Derived.Laws.RangeAny
import Derived.Laws.Rows
import Derived.Lib.Hide
import Derived.Lib.OthersKept
import Derived.LoopTactic
import Derived.Outline
import Derived.OwnWalk
import Derived.StillTailTactics
import Derived.WalkKit
import Derived.WalkSmall
set_option linter.unusedSimpArgs false
set_option linter.unusedVariables false
set_option linter.unusedSimpArgs false
set_option linter.unusedVariables false
namespace Go.Proofs.YtgelodnkfajgjaaGreatDoor.Tm
open Go
def bt (s : ByteArray) (i : Nat) : Int := if h : i < s.size then ((s[i]'h).toNat : Int) else 0
theorem bt_at {s : ByteArray} {i : Nat} (h : i < s.size) : ((s[i]'h).toNat : Int) = bt s i := by unfold bt; rw [dif_pos h]
theorem bt_in (s : ByteArray) (i : Nat) : 0 ≤ bt s i ∧ bt s i ≤ 255 := by
  unfold bt
  split
  · next h =>
    have := (s[i]'h).toNat_lt
    omega
  · omega
def Dg (b : Int) : Prop := 48 ≤ b ∧ b ≤ 57
instance (b : Int) : Decidable (Dg b) := by unfold Dg; infer_instance
def lu (i : Nat) (d : Int) : Int := if i % 2 = 1 then d else if 4 < d then 2 * d - 9 else 2 * d
theorem lu_in {i : Nat} {d : Int} (h : 0 ≤ d ∧ d ≤ 9) : 0 ≤ lu i d ∧ lu i d ≤ 9 := by
  unfold lu
  split
  · omega
  · split <;> omega
def sm (s : ByteArray) : Nat → Int
  | 0 => 0
  | k + 1 => sm s k + lu k (bt s k - 48)
def Dgs (s : ByteArray) (k : Nat) : Prop := ∀ i, i < k → Dg (bt s i)
instance (s : ByteArray) (k : Nat) : Decidable (Dgs s k) := by unfold Dgs; infer_instance
theorem Dgs.next {s : ByteArray} {k : Nat} (h : Dgs s k) (hd : Dg (bt s k)) : Dgs s (k + 1) := fun i hi => by
  rcases Nat.lt_or_ge i k with h1 | h1
  · exact h i h1
  · obtain rfl : i = k := by omega
    exact hd
theorem sm_in {s : ByteArray} : ∀ {k : Nat}, Dgs s k → 0 ≤ sm s k ∧ sm s k ≤ 9 * (k : Int) := by
  intro k
  induction k with
  | zero => intro _; simp [sm]
  | succ k ih =>
    intro h
    have h1 := ih (fun i hi => h i (by omega))
    have h2 := h k (by omega)
    unfold Dg at h2
    have h3 := lu_in (i := k) (d := bt s k - 48) (by omega)
    rw [sm]
    omega
def Tg (s : ByteArray) : Prop := s.size = 12 ∧ Dgs s 12 ∧ sm s 12 % 10 = 0
instance (s : ByteArray) : Decidable (Tg s) := by unfold Tg; infer_instance
def ck (s : ByteArray) : Int := if Tg s then 0 else 18
theorem ck_yes {s : ByteArray} (h : Tg s) : ck s = 0 := if_pos h
theorem ck_no {s : ByteArray} (h : ¬ Tg s) : ck s = 18 := if_neg h
def smB (s : ByteArray) : Int := if Dgs s s.size then sm s s.size else -1
theorem mod10 {x : Int} (h : 0 ≤ x) : Int.tmod x 10 = x % 10 := Int.tmod_eq_emod_of_nonneg h
theorem next_digit {P : Program} (w : World) (k : Nat) (s : ByteArray) (pos : Nat) (hk : w.heap[k]? = some (.stringIter s pos)) (h : pos < s.size) (hd : Dg (bt s pos)) (ty : TypeId) :
    (Instr.next (.pointer (some ⟨k, 0, none⟩)) true ty).run P w = .ok (.tuple #[.bool true, .int .i64 pos, .int .i32 (bt s pos)]) (w.iterAt k s (pos + 1)) := by
  have e := bt_at h
  unfold Dg at hd
  rw [Lib.run_next_ascii_at w k s pos ty hk h (by omega), ← e]
theorem next_other {P : Program} (w : World) (k : Nat) (s : ByteArray) (pos : Nat) (hk : w.heap[k]? = some (.stringIter s pos)) (h : pos < s.size) (hd : ¬ Dg (bt s pos)) :
    ∃ (c : Int) (p : Nat), ¬ Dg c ∧ 0 ≤ c ∧ c ≤ 2147483647 ∧ ∀ ty, (Instr.next (.pointer (some ⟨k, 0, none⟩)) true ty).run P w = .ok (.tuple #[.bool true, .int .i64 pos, .int .i32 c]) (w.iterAt k s p) := by
  refine ⟨((Utf8.decode s pos).1 : Int), pos + (Utf8.decode s pos).2, ?_, by omega, ?_, fun ty => Lib.run_next_any_at w k s pos ty hk h⟩
  · have e := bt_at h
    by_cases ha : (s[pos]'h).toNat < 128
    · rw [decode_ascii s pos h ha]
      simp only
      rw [e]; exact hd
    · have := (decode_high s pos h (by omega)).1
      unfold Dg
      omega
  · have := decode_le s pos
    omega
end Go.Proofs.YtgelodnkfajgjaaGreatDoor.Tm
set_option linter.unusedSimpArgs false
set_option linter.unusedVariables false
namespace Go.Proofs.YtgelodnkfajgjaaGreatDoor.Tm
def iat (l : List Int) (i : Nat) : Int := l.getD i 0
end Go.Proofs.YtgelodnkfajgjaaGreatDoor.Tm
namespace Go.Proofs.YtgelodnkfajgjaaGreatDoor.Tk
open Go.RowKit
open Go.Proofs.YtgelodnkfajgjaaGreatDoor.Tm
theorem b1 (w : World) (o1 : Obj) : Below w.heap.size w (w.alloc o1) := (Below.refl _ _).alloc (Nat.le_refl _) _
def Bx (w : World) (g : Nat) (t : TypeId) (cs : Array Value) : Prop := w.heap[g]? = some (.cells cs t (0, 0))
theorem Bx.lt {w : World} {g : Nat} {t : TypeId} {cs : Array Value} (h : Bx w g t cs) : g < w.heap.size := by
  rcases Nat.lt_or_ge g w.heap.size with hlt | hge
  · exact hlt
  · unfold Bx at h; rw [Array.getElem?_eq_none hge] at h; cases h
theorem Bx.next {w w' : World} {g : Nat} {t : TypeId} {cs : Array Value} (h : Bx w g t cs) (hb : Below w.heap.size w w') : Bx w' g t cs := (hb.block g h.lt).trans h
theorem Bx.cell {w : World} {g : Nat} {t : TypeId} {cs : Array Value} (h : Bx w g t cs) (i : Nat) : w.cell? ⟨g, i, none⟩ = cs[i]? := cell_of_row w g i cs t (0, 0) h
theorem Bx.alloc {w : World} {g : Nat} {t : TypeId} {cs : Array Value} (h : Bx w g t cs) (o : Obj) : Bx (w.alloc o) g t cs := h.next (b1 _ _)
def Rk (k : IntKind) (w : World) (B : Nat) (A : Option Addr) (n : Nat) (zs : List Int) : Prop :=
  zs.length = n ∧ n ≤ 9223372036854775807 ∧ (0 < n → ∃ b off, A = some ⟨b, off, none⟩ ∧ b < B ∧ ∀ i, i < n → w.cell? ⟨b, off + i, none⟩ = some (.int k (iat zs i))) ∧ ∀ i, (Lit.int k (iat zs i)).wf = true
section
variable {k : IntKind} {w w' : World} {B B' : Nat} {A : Option Addr} {n : Nat} {zs : List Int}
end
def vk (k : IntKind) (l : List Int) : List Value := l.map (Value.int k)
theorem vk_at (k : IntKind) (l : List Int) (i : Nat) (h : i < l.length) : (vk k l)[i]? = some (.int k (iat l i)) := by simp [vk, iat, h]
theorem Bx.kcell {k : IntKind} {w : World} {g : Nat} {t : TypeId} {l : List Int} (h : Bx w g t (vk k l).toArray) {i : Nat} (hi : i < l.length) : w.cell? ⟨g, i, none⟩ = some (.int k (iat l i)) := by
  rw [h.cell]; simpa using vk_at k l i hi
theorem Rk.block {k : IntKind} {w : World} {g : Nat} {t : TypeId} {zs : List Int} (h : Bx w g t (vk k zs).toArray) (hl : zs.length ≤ 9223372036854775807) (hw : ∀ i, (Lit.int k (iat zs i)).wf = true) : Rk k w w.heap.size (some ⟨g, 0, none⟩) zs.length zs :=
  ⟨rfl, hl, fun _ => ⟨g, 0, rfl, h.lt, fun i hi => by rw [Nat.zero_add]; exact h.kcell hi⟩, hw⟩
end Go.Proofs.YtgelodnkfajgjaaGreatDoor.Tk
set_option linter.unusedSimpArgs false
set_option linter.unusedVariables false
namespace Go.Proofs.YtgelodnkfajgjaaGreatDoor.Tk
open Go.RowKit
open Go.Proofs.YtgelodnkfajgjaaGreatDoor.Tm
theorem tm2 {i : Nat} : Int.tmod (i : Int) 2 = ((i % 2 : Nat) : Int) := by rw [Int.tmod_eq_emod_of_nonneg (by omega)]; omega
theorem weigh25 (i : Nat) (d : Int) (w : World) (hi : i ≤ 4096) (hd : 0 ≤ d ∧ d ≤ 9) : Calls Tryz.prog 63 #[.int .i64 i, .int .i64 d] w fun e w' => e = .returned (.int .i64 (lu i d)) ∧ Below w.heap.size w w' := by
  obtain ⟨r, hr⟩ : ∃ r : Int, Int.tmod (i : Int) 2 = r := ⟨_, rfl⟩
  have hr2 := tm2 (i := i)
  have W0 : IntKind.i64.wrap r = r := IntWalk.i64_in _ (by omega)
  have W1 : IntKind.i64.wrap (2 * d) = 2 * d := IntWalk.i64_in _ (by omega)
  have W2 : IntKind.i64.wrap (2 * d - 9) = 2 * d - 9 := IntWalk.i64_in _ (by omega)
  by_cases h1 : i % 2 = 1
  · have HE := Lib.hid (show lu i d = d by unfold lu; rw [if_pos h1])
    have e1 : (r == 1) = true := by simp; omega
    clear hr2 h1
    go_enter Tryz.func63, Tryz.ntmps63
    go_wp2_with fail
    go_ret
    exact ⟨by rw [HE.out]; rfl, Below.refl _ _⟩
  · have e1 : (r == 1) = false := by simp; omega
    by_cases h4 : 4 < d
    · have HE := Lib.hid (show lu i d = 2 * d - 9 by unfold lu; rw [if_neg h1, if_pos h4])
      clear hr2 h1
      go_enter Tryz.func63, Tryz.ntmps63
      go_wp2_with fail
      go_ret
      exact ⟨by first | (rw [HE.out]; done) | (rw [HE.out]; rfl), Below.refl _ _⟩
    · have HE := Lib.hid (show lu i d = 2 * d by unfold lu; rw [if_neg h1, if_neg h4])
      have h4' : decide (4 < d) = false := decide_eq_false h4
      clear hr2 h1
      go_enter Tryz.func63, Tryz.ntmps63
      go_wp2_with fail
      go_ret
      exact ⟨by first | (rw [HE.out]; done) | (rw [HE.out]; rfl), Below.refl _ _⟩
set_option maxHeartbeats 2000000 in
set_option maxRecDepth 100000 in
theorem check15 (s : ByteArray) (w : World) : Calls Tryz.prog 27 #[.string s] w fun e w' => e = .returned (.int .i64 (ck s)) ∧ Below w.heap.size w w' := by
  by_cases h12 : s.size = 12
  · have e12 : (((s.size : Nat) : Int) != 12) = false := by rw [h12]; rfl
    have HS := Lib.hid h12
    clear h12
    go_enter Tryz.func27, Tryz.ntmps27
    go_wp2_with fail
    clear e12
    go_loopw [3] (fun sv wr => ∃ pos : Nat, pos ≤ 12 ∧ sv = .int .i64 (sm s pos) ∧ Hid (Dgs s pos) ∧ wr.heap[w.heap.size]? = some (.stringIter s pos) ∧ Hid (Below w.heap.size w wr)) (fun _ wr => 12 - wr.iterPos w.heap.size)
    case atStart => exact ⟨0, by omega, rfl, Lib.hid (fun i hi => by omega), World.iter_heap w s 0, Lib.hid (b1 _ _)⟩
    case round =>
      obtain ⟨pos, hpos, rfl, HD, hit, HB⟩ := hrel
      have hsz : w.heap.size < wr.heap.size := (Array.getElem?_eq_some_iff.1 hit).1
      have hin := sm_in HD.out
      by_cases hlt : pos < 12
      · have hlt2 : Hid (pos < s.size) := Lib.hid (by rw [HS.out]; exact hlt)
        by_cases hd : Dg (bt s pos)
        · have hnx : ∀ ty, (Instr.next (.pointer (some ⟨w.heap.size, 0, none⟩)) true ty).run Tryz.prog wr = _ := fun ty => next_digit wr w.heap.size s pos hit hlt2.out hd ty
          have HD2 := Lib.hid (HD.out.next hd)
          have HE : Hid (sm s (pos + 1) = sm s pos + lu pos (bt s pos - 48)) := Lib.hid rfl
          have hl := lu_in (i := pos) (d := bt s pos - 48) (by unfold Dg at hd; omega)
          have hit2 := Lib.iterAt_heap wr w.heap.size s pos (pos + 1) hit
          have HB2 := Lib.hid (Lib.below_iterAt HB.out (k := w.heap.size) (Nat.le_refl _) s (pos + 1))
          obtain ⟨x, hx⟩ : ∃ x, bt s pos = x := ⟨_, rfl⟩
          obtain ⟨f, hf⟩ : ∃ f, sm s pos = f := ⟨_, rfl⟩
          rw [hx] at hd hnx HE hl
          rw [hf] at hin HE ⊢
          unfold Dg at hd
          obtain ⟨d, hdd⟩ : ∃ d, x - 48 = d := ⟨_, rfl⟩
          rw [hdd] at HE hl
          have W1 : IntKind.i32.wrap (x - 48) = d := by rw [hdd]; exact IntWalk.i32_in _ (by omega)
          have W2 : IntKind.i64.wrap d = d := IntWalk.i64_in _ (by omega)
          have W3 : IntKind.i64.wrap (f + lu pos d) = f + lu pos d := IntWalk.i64_in _ (by omega)
          have q1 : decide (x < 48) = false := decide_eq_false (by omega)
          have q2 : decide (57 < x) = false := decide_eq_false (by omega)
          have hdr : 0 ≤ d ∧ d ≤ 9 := by omega
          clear hx hf hdd hin hl hd
          go_wp2_with fail
          refine (weigh25 pos d _ (by omega) hdr).mono ?_
          rintro e w3 ⟨rfl, hb⟩
          have hit3 := (hb.block w.heap.size (by rw [Lib.iterAt_size]; exact hsz)).trans hit2
          replace HB2 := Lib.hid (HB2.out.trans (hb.mono (by rw [Lib.iterAt_size]; omega)))
          clear hb hnx hit2
          go_wp2_with fail
          go_roundw
          case rel => exact ⟨pos + 1, by omega, by rw [HE.out], HD2, hit3, HB2⟩
          case measure =>
            simp only [World.iterPos, hit3, hit]
            omega
        · obtain ⟨c, p', hc1, hc2, hc3, hnx⟩ := next_other (P := Tryz.prog) wr w.heap.size s pos hit hlt2.out hd
          have HE := Lib.hid (ck_no (s := s) (fun h => hd (h.2.1 pos hlt)))
          have HB2 := Lib.hid (Lib.below_iterAt HB.out (k := w.heap.size) (Nat.le_refl _) s p')
          clear hd
          by_cases q : c < 48
          · go_wp2_with fail
            go_ret
            exact ⟨by rw [HE.out]; rfl, HB2.out⟩
          · have q1 : decide (c < 48) = false := decide_eq_false q
            have q2 : 57 < c := by unfold Dg at hc1; omega
            go_wp2_with fail
            go_ret
            exact ⟨by rw [HE.out]; rfl, HB2.out⟩
      · have hnx : ∀ ty, (Instr.next (.pointer (some ⟨w.heap.size, 0, none⟩)) true ty).run Tryz.prog wr = _ := fun ty => Lib.run_next_end_at wr w.heap.size s pos ty hit (by rw [HS.out]; exact hlt)
        have hp : pos = 12 := by omega
        subst hp
        obtain ⟨f, hf⟩ : ∃ f, sm s 12 = f := ⟨_, rfl⟩
        have HFF := Lib.hid hf
        rw [hf] at hin ⊢
        clear hf
        obtain ⟨r, hr⟩ : ∃ r, Int.tmod f 10 = r := ⟨_, rfl⟩
        have hr2 := mod10 hin.1
        rw [hr] at hr2
        have W1 : IntKind.i64.wrap r = r := IntWalk.i64_in _ (by omega)
        by_cases h0 : r = 0
        · have e1 : (r != 0) = false := by simp [h0]
          have HE := Lib.hid (ck_yes (s := s) ⟨HS.out, HD.out, by rw [HFF.out, ← hr2]; exact h0⟩)
          clear h0 hr2
          go_wp2_with fail
          go_ret
          exact ⟨by rw [HE.out]; rfl, HB.out⟩
        · have e1 : (r != 0) = true := by simp [h0]
          have HE := Lib.hid (ck_no (s := s) (fun h => h0 (by have := h.2.2; rw [HFF.out, ← hr2] at this; exact this)))
          clear h0 hr2
          go_wp2_with fail
          go_ret
          exact ⟨by rw [HE.out]; rfl, HB.out⟩
  · have e12 : (((s.size : Nat) : Int) != 12) = true := by simp; omega
    have HE := Lib.hid (ck_no (s := s) (fun h => h12 h.1))
    clear h12
    go_enter Tryz.func27, Tryz.ntmps27
    go_wp2_with fail
    go_ret
    exact ⟨by rw [HE.out]; rfl, Below.refl _ _⟩
end Go.Proofs.YtgelodnkfajgjaaGreatDoor.Tk
set_option linter.unusedSimpArgs false
set_option linter.unusedVariables false
namespace Go.Proofs.YtgelodnkfajgjaaGreatDoor.Tm
open Go
end Go.Proofs.YtgelodnkfajgjaaGreatDoor.Tm
namespace Go.Proofs.YtgelodnkfajgjaaGreatDoor.Tk
open Go.RowKit
open Go.Proofs.YtgelodnkfajgjaaGreatDoor.Tm
set_option maxHeartbeats 2000000 in
set_option maxRecDepth 100000 in
theorem sum26 (s : ByteArray) (w : World) (hs : s.size ≤ 4096) : Calls Tryz.prog 69 #[.string s] w fun e w' => e = .returned (.int .i64 (smB s)) ∧ Below w.heap.size w w' := by
  obtain ⟨n, hn⟩ : ∃ n, s.size = n := ⟨_, rfl⟩
  have HN := Lib.hid hn
  have hn2 : n ≤ 4096 := by omega
  have hsz : ((s.size : Nat) : Int) = (n : Int) := by omega
  go_enter Tryz.func69, Tryz.ntmps69
  go_wp2_with fail
  go_loopw [3, 4] (fun fv iv wr => ∃ k : Nat, k ≤ n ∧ fv = .int .i64 (sm s k) ∧ iv = .int .i64 k ∧ Hid (Dgs s k) ∧ Hid (Below w.heap.size w wr)) (fun _ iv _ => n - (intOf iv).toNat)
  case atStart => exact ⟨0, Nat.zero_le _, rfl, rfl, Lib.hid (fun i hi => by omega), Lib.hid (Below.refl _ _)⟩
  case round =>
    obtain ⟨k, hk, rfl, rfl, HD, HB⟩ := hrel
    have hin := sm_in HD.out
    by_cases hlt : k < n
    · have hltI : (k : Int) < (n : Int) := by omega
      have hks : k < s.size := by omega
      have hbt := bt_at hks
      have hbr := bt_in s k
      have hd0 : Dg (bt s k) → Hid (Dgs s (k + 1)) := fun h => Lib.hid (HD.out.next h)
      have HE : Hid (sm s (k + 1) = sm s k + lu k (bt s k - 48)) := Lib.hid rfl
      have HNO : Hid (¬ Dg (bt s k) → smB s = -1) := Lib.hid (fun h => if_neg (fun h2 => h (h2 k (by omega))))
      obtain ⟨x, hx⟩ : ∃ x, bt s k = x := ⟨_, rfl⟩
      obtain ⟨f, hf⟩ : ∃ f, sm s k = f := ⟨_, rfl⟩
      rw [hx] at hbt hbr hd0 HE HNO
      rw [hf] at hin HE ⊢
      clear hx hf
      have hk0 : (0 : Int) ≤ (k : Int) := by omega
      by_cases hlo : x < 48
      · have HX := Lib.hid (HNO.out (by unfold Dg; omega))
        clear hd0 HE
        go_wp2_with fail
        go_ret
        exact ⟨by rw [HX.out]; rfl, HB.out⟩
      · have q1 : decide (x < 48) = false := decide_eq_false hlo
        by_cases hhi : 57 < x
        · have HX := Lib.hid (HNO.out (by unfold Dg; omega))
          clear hd0 HE
          go_wp2_with fail
          go_ret
          exact ⟨by rw [HX.out]; rfl, HB.out⟩
        · have q2 : decide (57 < x) = false := decide_eq_false hhi
          have HD2 := hd0 (by unfold Dg; omega)
          obtain ⟨d, hdd⟩ : ∃ d, x - 48 = d := ⟨_, rfl⟩
          rw [hdd] at HE
          have W1 : IntKind.u8.wrap (x - 48) = d := by rw [hdd]; exact IntWalk.u8_in _ (by omega)
          have W2 : IntKind.i64.wrap d = d := IntWalk.i64_in _ (by omega)
          have W3 : IntKind.i64.wrap (2 * d) = 2 * d := IntWalk.i64_in _ (by omega)
          have W4 : IntKind.i64.wrap (2 * d - 9) = 2 * d - 9 := IntWalk.i64_in _ (by omega)
          obtain ⟨r, hr⟩ : ∃ r : Int, Int.tmod (k : Int) 2 = r := ⟨_, rfl⟩
          have hr2 := tm2 (i := k)
          rw [hr] at hr2
          have W0 : IntKind.i64.wrap r = r := IntWalk.i64_in _ (by omega)
          by_cases h1 : k % 2 = 1
          · have HL := Lib.hid (show lu k d = d by unfold lu; rw [if_pos h1])
            have e1 : (r == 0) = false := by simp; omega
            have q3 : decide (9 < d) = false := decide_eq_false (by omega)
            have W5 : IntKind.i64.wrap (f + d) = f + d := IntWalk.i64_in _ (by omega)
            clear hr2 h1 hdd hin hlo hhi HNO hd0
            go_wp2_with fail
            go_roundw
            case rel => exact ⟨k + 1, by omega, by rw [HE.out, HL.out], by go_num, HD2, HB⟩
            case measure => simp [intOf]; omega
          · have e1 : (r == 0) = true := by simp; omega
            by_cases h4 : 4 < d
            · have HL := Lib.hid (show lu k d = 2 * d - 9 by unfold lu; rw [if_neg h1, if_pos h4])
              have q3 : 9 < 2 * d := by omega
              have W5 : IntKind.i64.wrap (f + (2 * d - 9)) = f + (2 * d - 9) := IntWalk.i64_in _ (by omega)
              clear hr2 h1 hdd hin hlo hhi HNO hd0 h4
              go_wp2_with fail
              go_roundw
              case rel => exact ⟨k + 1, by omega, by rw [HE.out, HL.out], by go_num, HD2, HB⟩
              case measure => simp [intOf]; omega
            · have HL := Lib.hid (show lu k d = 2 * d by unfold lu; rw [if_neg h1, if_neg h4])
              have q3 : decide (9 < 2 * d) = false := decide_eq_false (by omega)
              have W5 : IntKind.i64.wrap (f + 2 * d) = f + 2 * d := IntWalk.i64_in _ (by omega)
              clear hr2 h1 hdd hin hlo hhi HNO hd0 h4
              go_wp2_with fail
              go_roundw
              case rel => exact ⟨k + 1, by omega, by rw [HE.out, HL.out], by go_num, HD2, HB⟩
              case measure => simp [intOf]; omega
    · have hltI : ¬ (k : Int) < (n : Int) := by omega
      have hkn : k = n := by omega
      subst hkn
      have HX : Hid (smB s = sm s k) := Lib.hid (by unfold smB; rw [HN.out, if_pos HD.out])
      go_wp2_with fail
      go_ret
      exact ⟨by first | (rw [HX.out]; done) | (rw [HX.out]; rfl), HB.out⟩
theorem check16 (s : ByteArray) (w : World) : Calls Tryz.prog 32 #[.string s] w fun e w' => e = .returned (.int .i64 (ck s)) ∧ Below w.heap.size w w' := by
  by_cases h12 : s.size = 12
  · have e12 : (((s.size : Nat) : Int) != 12) = false := by rw [h12]; rfl
    obtain ⟨t, ht⟩ : ∃ t, smB s = t := ⟨_, rfl⟩
    have HT := Lib.hid ht
    have HS := Lib.hid h12
    clear ht h12
    go_enter Tryz.func32, Tryz.ntmps32
    go_wp2_with fail
    refine (sum26 s _ (by rw [HS.out]; omega)).mono ?_
    rintro e w1 ⟨rfl, hb⟩
    rw [HT.out]
    have HB := Lib.hid hb
    clear hb e12
    by_cases hd : Dgs s 12
    · have hts : t = sm s 12 := by rw [← HT.out]; unfold smB; rw [HS.out, if_pos hd]
      have hin := sm_in hd
      have HTS := Lib.hid hts
      rw [← hts] at hin
      clear hts
      have q1 : decide (t < 0) = false := decide_eq_false (by omega)
      obtain ⟨r, hr⟩ : ∃ r, Int.tmod t 10 = r := ⟨_, rfl⟩
      have hr2 := mod10 hin.1
      rw [hr] at hr2
      have W1 : IntKind.i64.wrap r = r := IntWalk.i64_in _ (by omega)
      by_cases h0 : r = 0
      · have e1 : (r != 0) = false := by simp [h0]
        have HE := Lib.hid (ck_yes (s := s) ⟨HS.out, hd, by rw [← HTS.out, ← hr2]; exact h0⟩)
        clear h0 hr2 hd
        go_wp2_with fail
        go_ret
        exact ⟨by rw [HE.out]; rfl, HB.out⟩
      · have e1 : (r != 0) = true := by simp [h0]
        have HE := Lib.hid (ck_no (s := s) (fun h => h0 (by have := h.2.2; rw [← HTS.out, ← hr2] at this; exact this)))
        clear h0 hr2 hd
        go_wp2_with fail
        go_ret
        exact ⟨by rw [HE.out]; rfl, HB.out⟩
    · have hts : t = -1 := by rw [← HT.out]; unfold smB; rw [HS.out, if_neg hd]
      have HE := Lib.hid (ck_no (s := s) (fun h => hd h.2.1))
      clear hd
      subst hts
      go_wp2_with fail
      go_ret
      exact ⟨by rw [HE.out]; rfl, HB.out⟩
  · have e12 : (((s.size : Nat) : Int) != 12) = true := by simp; omega
    have HE := Lib.hid (ck_no (s := s) (fun h => h12 h.1))
    clear h12
    go_enter Tryz.func32, Tryz.ntmps32
    go_wp2_with fail
    go_ret
    exact ⟨by rw [HE.out]; rfl, Below.refl _ _⟩
end Go.Proofs.YtgelodnkfajgjaaGreatDoor.Tk
