/- The join of two digests, in the reference. Condition: both are 64-bit numbers. -/
import Derived.Test.YtbhdghopdhehdaaJn
set_option linter.unusedSimpArgs false
set_option linter.unusedVariables false
namespace Go.Proofs.Ytbhdghopdhehdaa.Mt
def byk (x : Int) (k : Nat) : List Int := (List.range k).map (byt x)
theorem byk_next (x : Int) (k : Nat) : byk x (k + 1) = byk x k ++ [byt x k] := by simp [byk, List.range_succ]
theorem byk_len (x : Int) (k : Nat) : (byk x k).length = k := by simp [byk]
theorem byk_all (x : Int) : byk x 8 = by8 x := rfl
def pwx (k : Nat) : Int := if k < 8 then pw k else 0
theorem pwx_lt {k : Nat} (h : k < 8) : pwx k = pw k := by rw [pwx, if_pos h]
theorem pwx_next {k : Nat} (h : k < 8) : pw k / 256 = pwx (k + 1) := by
  rcases Nat.lt_or_ge k 7 with h1 | h1
  · rw [pwx_lt (by omega)]; exact pw_next h1
  · have : k = 7 := by omega
    subst this; decide
end Go.Proofs.Ytbhdghopdhehdaa.Mt
namespace Go.Proofs.Ytbhdghopdhehdaa.Wk
open Go.RowKit
open Go.Proofs.Ytbhdghopdhehdaa.Mt
theorem new_cell (W : World) (x : Value) (t : TypeId) (n : Nat) (h : n = W.heap.size) : ∀ j u, [x][j]? = some u → (W.alloc (.cells #[x] t)).cell? ((⟨n, 0, none⟩ : Addr).add j) = some u := by
  subst h; exact cell_one_new _ _ _
theorem one_int (k : IntKind) (x : Int) : ∀ u ∈ [Value.int k x], u.oneCell' = true := by
  intro u hu; simp at hu; subst hu; rfl
/-- nothing below base that was in w0 is written, and v owns its row of numbers, from base on -/
def Ow (k : IntKind) (t : TypeId) (base : Nat) (w0 wr : World) (v : Value) (xs : List Int) : Prop := base ≤ w0.heap.size ∧ Below base w0 wr ∧ wr.ownsRow base t 1 v xs.length (vk k xs)
section
variable {k : IntKind} {t : TypeId} {base : Nat} {w0 wr w1 : World} {v : Value} {xs : List Int}
theorem Ow.nil (h : base ≤ w0.heap.size) : Ow k t base w0 w0 (.slice none 0 0) [] := ⟨h, Below.refl _ _, World.ownsRow_nil _ _ _ _⟩
theorem Ow.size (h : Ow k t base w0 wr v xs) : base ≤ wr.heap.size := Nat.le_trans h.1 h.2.1.size
theorem Ow.below (h : Ow k t base w0 wr v xs) (hb : Below wr.heap.size wr w1) : Ow k t base w0 w1 v xs := ⟨h.1, h.2.1.trans (hb.mono h.size), own_below h.2.2 hb⟩
theorem Ow.app {v' : Value} {x : Int} {n : Nat} (h : Ow k t base w0 wr v xs) (hn : xs.length = n) {o : Obj} (ho : w1.ownsRow base t 1 v' (n + 1) (vk k xs ++ [Value.int k x])) (hg : (wr.alloc o).grownBy w1 v.ownBlock) : Ow k t base w0 w1 v' (xs ++ [x]) := by
  subst hn
  have hlt := h.2.2.lt
  refine ⟨h.1, (h.2.1.alloc h.size o).grown hg (by have := h.size; simp; omega) (fun k hk => (hlt k hk).1), by simpa [vk] using ho⟩
end
theorem u8_info : (Try.prog.info? 5).map (fun i => (i.zero, i.size, i.bytes)) = some (some (.int .u8 0), 1, 1) := by kernel_rfl
set_option maxHeartbeats 1000000 in
set_option maxRecDepth 100000 in
theorem bytes29 (base : Nat) (v : Value) (xs : List Int) (x : Int) (w0 w : World) (h : Ow .u8 5 base w0 w v xs) (hl : xs.length ≤ 8) (hx : 0 ≤ x ∧ x ≤ 18446744073709551615) :
    Calls Try.prog 29 #[v, .int .u64 x] w fun e w' => ∃ v', e = .returned v' ∧ Ow .u8 5 base w0 w' v' (xs ++ by8 x) := by
  have HO0 := Lib.hid h
  clear h
  obtain ⟨i0, hi0, hz0, hs0, hb0'⟩ := info_parts u8_info
  go_enter Try.func29, Try.ntmps29
  go_wp2_with fail
  go_loopw [0, 5, 6] (fun u p i wr => ∃ k : Nat, k ≤ 8 ∧ i = .int .i64 k ∧ p = .int .u64 (pwx k) ∧ Hid (Ow .u8 5 base w0 wr u (xs ++ byk x k))) (fun _ _ i _ => 8 - (intOf i).toNat)
  case atStart => exact ⟨0, Nat.zero_le _, rfl, rfl, Lib.hid (by simpa [byk] using HO0.out)⟩
  case round =>
    obtain ⟨k, hk', rfl, rfl, HO⟩ := hrel
    by_cases hlt : k < 8
    · have hltI : (k : Int) < 8 := by omega
      have hp := pw_in hlt
      have HN := Lib.hid (pwx_next hlt)
      rw [pwx_lt hlt]
      have HD := Lib.hid (byk_next x k)
      have HBY : Hid (x / pw k % 256 = byt x k) := Lib.hid rfl
      have hby := byt_in x k
      have hq0 := IntWalk.tdiv_le x (pw k) hx.1 hp.1
      obtain ⟨p, hpp⟩ : ∃ p, pw k = p := ⟨_, rfl⟩
      rw [hpp] at hp HN HBY hq0 ⊢
      clear hpp
      have E1 := IntWalk.u64_quo x p (by omega)
      have E5 := IntWalk.u64_quo p 256 (by omega)
      obtain ⟨q, hqq⟩ : ∃ q, x / p = q := ⟨_, rfl⟩
      rw [hqq] at E1 HBY hq0
      clear hqq
      obtain ⟨y, hyy⟩ : ∃ y, byt x k = y := ⟨_, rfl⟩
      rw [hyy] at HBY HD hby
      clear hyy
      have E2 : q.tmod 256 = y := by rw [IntWalk.rem_in _ _ hq0.1]; exact HBY.out
      have E3 : IntKind.u8.wrap y = y := IntWalk.u8_in _ (by omega)
      have E4 : IntKind.u64.wrap y = y := IntWalk.u64_in _ (by omega)
      have hp0 : ¬ p = 0 := by omega
      have hp1 : (p == 0) = false := by simp [hp0]
      obtain ⟨m, hm⟩ : ∃ m, (xs ++ byk x k).length = m := ⟨_, rfl⟩
      have hmm : m ≤ 16 := by rw [← hm, List.length_append, byk_len]; omega
      have hoo := HO.out.2.2
      rw [hm] at hoo
      have HOO := Lib.hid hoo
      have HM := Lib.hid hm
      have hsz := HO.out.size
      clear hoo hm
      have C4 : Hid (m + 1 ≤ maxLen) := Lib.hid (by unfold maxLen; omega)
      have C5 : Hid ((m + 1) * 1 ≤ 140737488355328) := Lib.hid (by omega)
      go_wp2_with (at_builtin; refine wpList_append_own _ rfl _ _ 22 rfl base 5 i0 (.int .u8 0) 1 1 Try.underlying22 hi0 hz0 hs0 hb0' rfl (by omega) _ _ _ rfl (HOO.out.alloc _) ⟨_, 0, none⟩ 1 1 [.int .u8 y] rfl rfl (new_cell _ _ _ _ (by simp)) (one_int .u8 y) C4.out C5.out (by simp; omega) ?_)
      intro v' w9 hown hgrow _
      have HO9 := Lib.hid (HO.out.app HM.out hown hgrow)
      clear hown hgrow HOO HO
      go_wp2_with fail
      go_roundw
      case rel => exact ⟨k + 1, by omega, by go_num, by rw [HN.out], by rw [HD.out, ← List.append_assoc]; exact HO9⟩
      case measure => simp [intOf]; omega
    · have hltI : ¬ (k : Int) < 8 := by omega
      obtain rfl : k = 8 := by omega
      go_wp2_with fail
      go_ret
      exact ⟨_, rfl, HO.out⟩
set_option maxRecDepth 100000 in
theorem join14 (a b : Int) (w : World) (ha : 0 ≤ a ∧ a ≤ 18446744073709551615) (hb : 0 ≤ b ∧ b ≤ 18446744073709551615) :
    Calls Try.prog 14 #[.int .u64 a, .int .u64 b] w fun e w' => e = .returned (.int .u64 (jn a b)) ∧ Below w.heap.size w w' := by
  go_enter Try.func14, Try.ntmps14
  go_wp2_with fail
  refine (bytes29 w.heap.size _ [] a w w (Ow.nil (Nat.le_refl _)) (by simp) ha).mono ?_
  rintro e w1 ⟨v1, rfl, h1⟩
  go_wp2_with fail
  refine (bytes29 w.heap.size _ _ b w w1 h1 (by simp [by8]) hb).mono ?_
  rintro e w2 ⟨v2, rfl, h2⟩
  have h2 : Ow .u8 5 w.heap.size w w2 v2 (jb a b) := h2
  have h3 := Rk.owned h2.2.2 (by rw [jb_len]; omega) (fun i => u8_w (jb_in a b i))
  rw [jb_len] at h3
  obtain ⟨A2, c2, rfl, hr⟩ := h3
  have hr2 := Lib.hid hr
  clear hr
  go_wp2_with fail
  refine (hash12 A2 16 c2 (jb a b) _ hr2.out).mono ?_
  rintro e w3 ⟨rfl, rfl⟩
  go_wp2_with fail
  go_ret
  exact ⟨rfl, h2.2.1⟩
end Go.Proofs.Ytbhdghopdhehdaa.Wk
