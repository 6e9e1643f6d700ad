/- The proof of a leaf, in the layer and in its reference. Conditions: the slice reads as numbers; no more than 4096 of them. -/
import Derived.Test.YtbhdghopdhehdaaRt
set_option linter.unusedSimpArgs false
set_option linter.unusedVariables false
namespace Go.Proofs.Ytbhdghopdhehdaa.Mt
/-- where node i is on level k -/
def ix (i : Nat) : Nat → Nat
  | 0 => i
  | k + 1 => ix i k / 2
theorem ix_next (i k : Nat) : ix i (k + 1) = ix i k / 2 := rfl
theorem ix_lt {i n : Nat} (h : i < n) (k : Nat) : ix i k < abn n k := by
  induction k with
  | zero => exact h
  | succ k ih => rw [ix_next, abn_next]; unfold ab; omega
/-- the siblings on the first k levels -/
def pfk (l : List Int) (i : Nat) : Nat → List Int
  | 0 => []
  | k + 1 => if ix i k % 2 = 1 then pfk l i k ++ [iat (upn l k) (ix i k - 1)] else if ix i k + 1 < abn l.length k then pfk l i k ++ [iat (upn l k) (ix i k + 1)] else pfk l i k
theorem pf_odd {l : List Int} {i k : Nat} (h : ix i k % 2 = 1) : pfk l i (k + 1) = pfk l i k ++ [iat (upn l k) (ix i k - 1)] := by rw [pfk, if_pos h]
theorem pf_even {l : List Int} {i k : Nat} (h : ¬ ix i k % 2 = 1) (h2 : ix i k + 1 < abn l.length k) : pfk l i (k + 1) = pfk l i k ++ [iat (upn l k) (ix i k + 1)] := by rw [pfk, if_neg h, if_pos h2]
theorem pf_alone {l : List Int} {i k : Nat} (h : ¬ ix i k % 2 = 1) (h2 : ¬ ix i k + 1 < abn l.length k) : pfk l i (k + 1) = pfk l i k := by rw [pfk, if_neg h, if_neg h2]
theorem pf_len (l : List Int) (i k : Nat) : (pfk l i k).length ≤ k := by
  induction k with
  | zero => simp [pfk]
  | succ k ih =>
    rw [pfk]
    split
    · simp; omega
    · split
      · simp; omega
      · omega
theorem upn_in {l : List Int} (h : U64 l) (k : Nat) : U64 (upn l k) := by
  induction k with
  | zero => exact h
  | succ k ih => exact up_in ih
theorem pf_in {l : List Int} (h : U64 l) (i k : Nat) : ∀ x ∈ pfk l i k, 0 ≤ x ∧ x ≤ 18446744073709551615 := by
  induction k with
  | zero => intro x hx; simp [pfk] at hx
  | succ k ih =>
    intro x hx
    rw [pfk] at hx
    split at hx
    · rcases List.mem_append.1 hx with h1 | h1
      · exact ih x h1
      · have : x = iat (upn l k) (ix i k - 1) := by simpa using h1
        rw [this]; exact upn_in h k _
    · split at hx
      · rcases List.mem_append.1 hx with h1 | h1
        · exact ih x h1
        · have : x = iat (upn l k) (ix i k + 1) := by simpa using h1
          rw [this]; exact upn_in h k _
      · exact ih x hx
def prS (l : List Int) (i : Int) : List Int × Int := if i < 0 ∨ (l.length : Int) ≤ i then ([], 2) else (pfk l i.toNat (ht l.length), 0)
end Go.Proofs.Ytbhdghopdhehdaa.Mt
namespace Go.Proofs.Ytbhdghopdhehdaa.Wk
open Go.RowKit
open Go.Proofs.Ytbhdghopdhehdaa.Mt
theorem xor1n (j : Nat) : j ^^^ 1 = if j % 2 = 1 then j - 1 else j + 1 := by
  have h1 : (j ^^^ 1) / 2 = j / 2 := by rw [Nat.xor_div_two]; simp
  have h2 : (j ^^^ 1) % 2 = (j % 2) ^^^ 1 := by
    have := Nat.xor_mod_two_pow (a := j) (b := 1) (n := 1)
    simpa using this
  rcases Nat.mod_two_eq_zero_or_one j with e | e
  · rw [e, show (0 ^^^ 1 : Nat) = 1 from rfl] at h2; rw [if_neg (by omega)]; omega
  · rw [e, show (1 ^^^ 1 : Nat) = 0 from rfl] at h2; rw [if_pos e]; omega
theorem xor1 (j : Nat) (h : j < 9223372036854775807) : bits .xor .i64 (j : Int) 1 = ((j ^^^ 1 : Nat) : Int) := by
  have hx : j ^^^ 1 < 2 ^ 63 := Nat.xor_lt_two_pow (by omega) (by omega)
  have h1 : (BitVec.ofInt 64 (j : Int)).toNat = j := by
    rw [BitVec.ofInt_natCast, BitVec.toNat_ofNat]; exact Nat.mod_eq_of_lt (by omega)
  have h2 : (BitVec.ofInt 64 (1 : Int)).toNat = 1 := by decide
  show IntKind.i64.wrap ((BitVec.ofInt 64 (j : Int) ^^^ BitVec.ofInt 64 (1 : Int)).toNat : Int) = _
  rw [BitVec.toNat_xor, h1, h2]
  exact IntWalk.i64_in _ (by omega)
/-- a slice apart from what an append grows reads as before -/
theorem Rk.grown {k : IntKind} {wr w9 : World} {A : Option Addr} {m : Nat} {zs : List Int} {own : Option Nat} {o : Obj} (h : Rk k wr wr.heap.size A m zs) (hf : 0 < m → ∀ b off, A = some ⟨b, off, none⟩ → some b ≠ own) (hg : (wr.alloc o).grownBy w9 own) : Rk k w9 w9.heap.size A m zs := by
  refine ⟨h.1, h.2.1, fun h0 => ?_, h.2.2.2⟩
  obtain ⟨b, off, e, hlt, hc⟩ := h.2.2.1 h0
  have hne := hf h0 b off e
  have hs := hg.size
  refine ⟨b, off, e, by simp at hs; omega, fun i hi => ?_⟩
  have h1 := (b1 wr o).cell (p := ⟨b, off + i, none⟩) hlt
  exact (hg.cell_far ⟨b, off + i, none⟩ (by simp; omega) hne).trans (h1.trans (hc i hi))
/-- the level that is read lies apart from the row that is built -/
def Ap (A : Option Addr) (m : Nat) (v : Value) : Prop := 0 < m → ∀ b off, A = some ⟨b, off, none⟩ → some b ≠ v.ownBlock
theorem Ap.fresh {k : IntKind} {t : TypeId} {base : Nat} {w0 w : World} {v : Value} {xs : List Int} {A : Option Addr} {m : Nat} (h : Ow k t base w0 w v xs) (hf : Fr w.heap.size A m) : Ap A m v := by
  intro h0 b off e hb
  have h1 := hf h0 b off none e
  have := (h.2.2.lt b hb.symm).2
  omega
theorem Ap.nil (A : Option Addr) (m : Nat) : Ap A m (.slice none 0 0) := by
  intro _ b off _ h
  simp [Value.ownBlock] at h
theorem Rk.ownedC {k : IntKind} {w : World} {base : Nat} {t : TypeId} {v : Value} {zs : List Int} (h : w.ownsRow base t 1 v zs.length (vk k zs)) (hl : zs.length ≤ 9223372036854775807) (hw : ∀ i, (Lit.int k (iat zs i)).wf = true) : ∃ A c, v = .slice A zs.length c ∧ Rk k w w.heap.size A zs.length zs ∧ zs.length ≤ c ∧ (A = none → c = 0) := by
  obtain ⟨A, c, rfl, hr⟩ := Rk.owned h hl hw
  refine ⟨A, c, rfl, hr, ?_⟩
  rcases h.2 with ⟨hv, h0⟩ | ⟨g, cap, cur, hv, _, _, hc, _⟩
  · injection hv with _ _ hv
    exact ⟨by omega, fun _ => hv⟩
  · injection hv with hv1 _ hv
    exact ⟨by omega, fun h => by rw [hv1] at h; cases h⟩
set_option maxHeartbeats 2000000 in
set_option maxRecDepth 100000 in
theorem proof20c (A : Option Addr) (n c : Nat) (l : List Int) (i : Int) (w : World) (h : Rk .u64 w w.heap.size A n l) (hn4 : n ≤ 4096) :
    Calls Try.prog 20 #[.slice A n c, .int .i64 i] w fun e w' => ∃ A' c', e = .returned (.tuple #[.slice A' (prS l i).1.length c', .int .i64 (prS l i).2]) ∧ Rk .u64 w' w'.heap.size A' (prS l i).1.length (prS l i).1 ∧ Below w.heap.size w w' ∧ (prS l i).1.length ≤ c' ∧ (A' = none → c' = 0) := by
  have hn := h.2.1
  have HL := Lib.hid h.1
  have HR := Lib.hid h
  have HU : Hid (U64 l) := Lib.hid (fun i => u64_r (h.2.2.2 i))
  clear h
  obtain ⟨i0, hi0, hz0, hs0, hb0'⟩ := info_parts u64_info
  by_cases g1 : i < 0
  · have HE : Hid (prS l i = ([], 2)) := Lib.hid (by rw [prS, if_pos (.inl g1)])
    go_enter Try.func20, Try.ntmps20
    go_wp2_with fail
    go_ret2
    rw [HE.out]
    exact ⟨_, 0, rfl, rk_none _ _ _ rfl, Below.refl _ _, Nat.zero_le _, fun _ => rfl⟩
  · have g1' : decide (i < 0) = false := decide_eq_false g1
    by_cases g2 : (n : Int) ≤ i
    · have HE : Hid (prS l i = ([], 2)) := Lib.hid (by rw [prS, if_pos (.inr (by rw [HL.out]; exact g2))])
      go_enter Try.func20, Try.ntmps20
      go_wp2_with fail
      go_ret2
      rw [HE.out]
      exact ⟨_, 0, rfl, rk_none _ _ _ rfl, Below.refl _ _, Nat.zero_le _, fun _ => rfl⟩
    · have g2' : decide ((n : Int) ≤ i) = false := decide_eq_false g2
      obtain ⟨i, rfl⟩ : ∃ j : Nat, i = (j : Int) := ⟨i.toNat, by omega⟩
      have hin : i < n := by omega
      have h1 : 1 ≤ n := by omega
      have HE : Hid (prS l (i : Int) = (pfk l i (ht n), 0)) := Lib.hid (by rw [prS, HL.out, if_neg (by omega)]; rfl)
      have hht := ht_le n
      go_enter Try.func20, Try.ntmps20
      go_wp2_with (go_at_call 30; refine (height30 n hn _).mono ?_; rintro e w' ⟨rfl, rfl⟩)
      clear g1 g1' g2 g2'
      go_loopw [0, 1, 6, 19] (fun lv iv v cv wr => ∃ (k : Nat) (A' : Option Addr) (c' m j : Nat), cv = .int .i64 k ∧ lv = .slice A' m c' ∧ iv = .int .i64 j ∧ k ≤ ht n ∧  Hid (abn n k = m) ∧ Hid (ix i k = j) ∧ j < m ∧ Hid (Rk .u64 wr wr.heap.size A' m (upn l k)) ∧ Hid (Ow .u64 23 w.heap.size w wr v (pfk l i k)) ∧ Hid (Ap A' m v)) (fun _ _ _ cv _ => ht n - (intOf cv).toNat)
      case atStart => exact ⟨0, A, c, n, i, rfl, rfl, rfl, Nat.zero_le _, Lib.hid rfl, Lib.hid rfl, hin, HR, Lib.hid (Ow.nil (Nat.le_refl _)), Lib.hid (Ap.nil _ _)⟩
      case round =>
        obtain ⟨k, A', c', m, j, rfl, rfl, rfl, hk, HM, HX, hjm, HK, HO, HA⟩ := hrel
        have hm4 : m ≤ 4096 := by have := HM.out; have := abn_le n k; omega
        by_cases hlt : k < ht n
        · have hltI : (k : Int) < ((ht n : Nat) : Int) := by omega
          have HM2 : Hid (abn n (k + 1) = ab m) := Lib.hid (by rw [abn_next, HM.out])
          have HX2 : Hid (ix i (k + 1) = j / 2) := Lib.hid (by rw [ix_next, HX.out])
          have hj2 : j / 2 < ab m := by unfold ab; omega
          by_cases ho : j % 2 = 1
          · have hoI : (j : Int) % 2 = 1 := by omega
            have hoB : ((j : Int) % 2 == 1) = true := by simp; omega
            obtain ⟨p, rfl⟩ : ∃ p, j = p + 1 := ⟨j - 1, by omega⟩
            have EX : bits .xor .i64 ((p + 1 : Nat) : Int) 1 = (p : Int) := by rw [xor1 _ (by omega), xor1n, if_pos ho]; rfl
            have EX2 : bits .xor .i64 ((p : Int) + 1) 1 = (p : Int) := by have := EX; simpa using this
            have hpm : p < m := by omega
            have hpI : (p : Int) < (m : Int) := by omega
            have HD : Hid (pfk l i (k + 1) = pfk l i k ++ [iat (upn l k) p]) := Lib.hid (by rw [pf_odd (by rw [HX.out]; exact ho), HX.out]; rfl)
            obtain ⟨b, off, rfl, _, d1⟩ := HK.out.get hpm
            obtain ⟨x, hxx⟩ : ∃ x, iat (upn l k) p = x := ⟨_, rfl⟩
            rw [hxx] at d1 HD
            clear hxx
            obtain ⟨q, hq⟩ : ∃ q, (pfk l i k).length = q := ⟨_, rfl⟩
            have HQ := Lib.hid hq
            have hqq : q ≤ 4096 := by have := pf_len l i k; have := ht_le n; omega
            have hoo := HO.out.2.2
            rw [hq] at hoo
            have HOO := Lib.hid hoo
            have hsz := HO.out.size
            clear hoo hq
            have C4 : Hid (q + 1 ≤ maxLen) := Lib.hid (by unfold maxLen; omega)
            have C5 : Hid ((q + 1) * 8 ≤ 140737488355328) := Lib.hid (by omega)
            go_wp2_with (at_builtin; refine wpList_append_own _ rfl _ _ 31 rfl w.heap.size 23 i0 (.int .u64 0) 1 8 Try.underlying31 hi0 hz0 hs0 hb0' rfl (by omega) _ _ _ rfl (HOO.out.alloc _) ⟨_, 0, none⟩ 1 1 [.int .u64 x] rfl rfl (new_cell _ _ _ _ (by simp)) (one_int .u64 x) C4.out C5.out (by simp; omega) ?_)
            intro v' w9 hown hgrow _
            have HO9 := Lib.hid (HO.out.app HQ.out hown hgrow)
            have HK9 := Lib.hid (HK.out.grown HA.out hgrow)
            clear hown hgrow HOO
            rw [← HD.out] at HO9
            go_wp2_with fail
            refine (up31 _ m c' (upn l k) _ HK9.out hm4).mono ?_
            rintro e w2 ⟨A2, c2, rfl, ⟨hr, hf⟩, hb⟩
            have HO2 := Lib.hid (HO9.out.below hb)
            have HA2 := Lib.hid (Ap.fresh HO9.out hf)
            have HK2 : Hid (Rk .u64 w2 w2.heap.size A2 (ab m) (upn l (k + 1))) := Lib.hid hr
            clear hr hf hb
            go_wp2_with fail
            go_roundw
            case rel => exact ⟨k + 1, A2, c2, ab m, (p + 1) / 2, by go_num, rfl, by go_num, by omega, HM2, HX2, hj2, HK2, HO2, HA2⟩
            case measure => simp [intOf]; omega
          · have hoI : ¬ (j : Int) % 2 = 1 := by omega
            have hoB : ((j : Int) % 2 == 1) = false := by simp; omega
            have EX : bits .xor .i64 (j : Int) 1 = (j : Int) + 1 := by rw [xor1 _ (by omega), xor1n, if_neg ho]; rfl
            by_cases hj1 : j + 1 < m
            · have hjI : (j : Int) + 1 < (m : Int) := by omega
              have HD : Hid (pfk l i (k + 1) = pfk l i k ++ [iat (upn l k) (j + 1)]) := Lib.hid (by rw [pf_even (by rw [HX.out]; exact ho) (by rw [HX.out, HL.out, HM.out]; exact hj1), HX.out])
              obtain ⟨b, off, rfl, _, d1⟩ := HK.out.get hj1
              obtain ⟨x, hxx⟩ : ∃ x, iat (upn l k) (j + 1) = x := ⟨_, rfl⟩
              rw [hxx] at d1 HD
              clear hxx
              obtain ⟨q, hq⟩ : ∃ q, (pfk l i k).length = q := ⟨_, rfl⟩
              have HQ := Lib.hid hq
              have hqq : q ≤ 4096 := by have := pf_len l i k; have := ht_le n; omega
              have hoo := HO.out.2.2
              rw [hq] at hoo
              have HOO := Lib.hid hoo
              have hsz := HO.out.size
              clear hoo hq
              have C4 : Hid (q + 1 ≤ maxLen) := Lib.hid (by unfold maxLen; omega)
              have C5 : Hid ((q + 1) * 8 ≤ 140737488355328) := Lib.hid (by omega)
              go_wp2_with (at_builtin; refine wpList_append_own _ rfl _ _ 31 rfl w.heap.size 23 i0 (.int .u64 0) 1 8 Try.underlying31 hi0 hz0 hs0 hb0' rfl (by omega) _ _ _ rfl (HOO.out.alloc _) ⟨_, 0, none⟩ 1 1 [.int .u64 x] rfl rfl (new_cell _ _ _ _ (by simp)) (one_int .u64 x) C4.out C5.out (by simp; omega) ?_)
              intro v' w9 hown hgrow _
              have HO9 := Lib.hid (HO.out.app HQ.out hown hgrow)
              have HK9 := Lib.hid (HK.out.grown HA.out hgrow)
              clear hown hgrow HOO
              rw [← HD.out] at HO9
              go_wp2_with fail
              refine (up31 _ m c' (upn l k) _ HK9.out hm4).mono ?_
              rintro e w2 ⟨A2, c2, rfl, ⟨hr, hf⟩, hb⟩
              have HO2 := Lib.hid (HO9.out.below hb)
              have HA2 := Lib.hid (Ap.fresh HO9.out hf)
              have HK2 : Hid (Rk .u64 w2 w2.heap.size A2 (ab m) (upn l (k + 1))) := Lib.hid hr
              clear hr hf hb
              go_wp2_with fail
              go_roundw
              case rel => exact ⟨k + 1, A2, c2, ab m, j / 2, by go_num, rfl, by go_num, by omega, HM2, HX2, hj2, HK2, HO2, HA2⟩
              case measure => simp [intOf]; omega
            · have hjI : ¬ (j : Int) + 1 < (m : Int) := by omega
              have HD : Hid (pfk l i (k + 1) = pfk l i k) := Lib.hid (by rw [pf_alone (by rw [HX.out]; exact ho) (by rw [HX.out, HL.out, HM.out]; exact hj1)])
              go_wp2_with fail
              refine (up31 _ m c' (upn l k) _ HK.out hm4).mono ?_
              rintro e w2 ⟨A2, c2, rfl, ⟨hr, hf⟩, hb⟩
              have HO2 := Lib.hid (HO.out.below hb)
              have HA2 := Lib.hid (Ap.fresh HO.out hf)
              have HK2 : Hid (Rk .u64 w2 w2.heap.size A2 (ab m) (upn l (k + 1))) := Lib.hid hr
              clear hr hf hb
              go_wp2_with fail
              go_roundw
              case rel => exact ⟨k + 1, A2, c2, ab m, j / 2, by go_num, rfl, by go_num, by omega, HM2, HX2, hj2, HK2, by rw [HD.out]; exact HO2, HA2⟩
              case measure => simp [intOf]; omega
        · have hltI : ¬ (k : Int) < ((ht n : Nat) : Int) := by omega
          have hkk : k = ht n := by omega
          have HEE : Hid (prS l (i : Int) = (pfk l i k, 0)) := Lib.hid (by rw [HE.out, hkk])
          obtain ⟨A9, c9, rfl, hrk, hc9⟩ := Rk.ownedC HO.out.2.2 (by have := pf_len l i k; omega) (fun q => u64_w ((u64_mem (pf_in HU.out i k)) q))
          have HRK := Lib.hid hrk
          have HB := Lib.hid HO.out.2.1
          clear hrk HO hkk
          go_wp2_with fail
          go_ret2
          rw [HEE.out]
          exact ⟨_, c9, rfl, HRK.out, HB.out, hc9⟩
theorem proof20 (A : Option Addr) (n c : Nat) (l : List Int) (i : Int) (w : World) (h : Rk .u64 w w.heap.size A n l) (hn4 : n ≤ 4096) :
    Calls Try.prog 20 #[.slice A n c, .int .i64 i] w fun e w' => ∃ A' c', e = .returned (.tuple #[.slice A' (prS l i).1.length c', .int .i64 (prS l i).2]) ∧ Rk .u64 w' w'.heap.size A' (prS l i).1.length (prS l i).1 ∧ Below w.heap.size w w' :=
  (proof20c A n c l i w h hn4).mono fun e w' ⟨A', c', h1, h2, h3, _⟩ => ⟨A', c', h1, h2, h3⟩
set_option maxHeartbeats 2000000 in
set_option maxRecDepth 100000 in
theorem proof21 (A : Option Addr) (n c : Nat) (l : List Int) (i : Int) (w : World) (h : Rk .u64 w w.heap.size A n l) (hn4 : n ≤ 4096) :
    Calls Try.prog 21 #[.slice A n c, .int .i64 i] w fun e w' => ∃ A' c', e = .returned (.tuple #[.slice A' (prS l i).1.length c', .int .i64 (prS l i).2]) ∧ Rk .u64 w' w'.heap.size A' (prS l i).1.length (prS l i).1 ∧ Below w.heap.size w w' := by
  have hn := h.2.1
  have HL := Lib.hid h.1
  have HR := Lib.hid h
  have HU : Hid (U64 l) := Lib.hid (fun i => u64_r (h.2.2.2 i))
  clear h
  obtain ⟨i0, hi0, hz0, hs0, hb0'⟩ := info_parts u64_info
  by_cases g1 : i < 0
  · have HE : Hid (prS l i = ([], 2)) := Lib.hid (by rw [prS, if_pos (.inl g1)])
    go_enter Try.func21, Try.ntmps21
    go_wp2_with fail
    go_ret2
    rw [HE.out]
    first | exact ⟨_, ⟨_, rfl⟩, rk_none _ _ _ rfl, Below.refl _ _⟩ | exact ⟨_, _, rfl, rk_none _ _ _ rfl, Below.refl _ _⟩
  · have g1' : decide (i < 0) = false := decide_eq_false g1
    by_cases g2 : (n : Int) ≤ i
    · have HE : Hid (prS l i = ([], 2)) := Lib.hid (by rw [prS, if_pos (.inr (by rw [HL.out]; exact g2))])
      go_enter Try.func21, Try.ntmps21
      go_wp2_with fail
      go_ret2
      rw [HE.out]
      first | exact ⟨_, ⟨_, rfl⟩, rk_none _ _ _ rfl, Below.refl _ _⟩ | exact ⟨_, _, rfl, rk_none _ _ _ rfl, Below.refl _ _⟩
    · have g2' : decide ((n : Int) ≤ i) = false := decide_eq_false g2
      obtain ⟨i, rfl⟩ : ∃ j : Nat, i = (j : Int) := ⟨i.toNat, by omega⟩
      have hin : i < n := by omega
      have h1 : 1 ≤ n := by omega
      have HE : Hid (prS l (i : Int) = (pfk l i (ht n), 0)) := Lib.hid (by rw [prS, HL.out, if_neg (by omega)]; rfl)
      have hht := ht_le n
      go_enter Try.func21, Try.ntmps21
      go_wp2_with fail
      clear g1 g1' g2 g2'
      go_loopw [6, 7, 8] (fun v lv iv wr => ∃ (k : Nat) (A' : Option Addr) (c' m j : Nat), lv = .slice A' m c' ∧ iv = .int .i64 j ∧ k ≤ ht n ∧  Hid (abn n k = m) ∧ Hid (ix i k = j) ∧ j < m ∧ Hid (Rk .u64 wr wr.heap.size A' m (upn l k)) ∧ Hid (Ow .u64 23 w.heap.size w wr v (pfk l i k)) ∧ Hid (Ap A' m v)) (fun _ lv _ _ => lenv lv)
      case atStart => exact ⟨0, A, c, n, i, rfl, rfl, Nat.zero_le _, Lib.hid rfl, Lib.hid rfl, hin, HR, Lib.hid (Ow.nil (Nat.le_refl _)), Lib.hid (Ap.nil _ _)⟩
      case round =>
        obtain ⟨k, A', c', m, j, rfl, rfl, hk, HM, HX, hjm, HK, HO, HA⟩ := hrel
        have hm4 : m ≤ 4096 := by have := HM.out; have := abn_le n k; omega
        by_cases hlt : 1 < m
        · have hltI : (1 : Int) < (m : Int) := by omega
          have hkk : k < ht n := by
            rcases Nat.lt_or_ge k (ht n) with h3 | h3
            · exact h3
            · have := abn_one h1 hk h3; have := HM.out; omega
          have hab := ab_le hlt
          have HM2 : Hid (abn n (k + 1) = ab m) := Lib.hid (by rw [abn_next, HM.out])
          have HX2 : Hid (ix i (k + 1) = j / 2) := Lib.hid (by rw [ix_next, HX.out])
          have hj2 : j / 2 < ab m := by unfold ab; omega
          by_cases ho : j % 2 = 1
          · have hoI : (j : Int) % 2 = 1 := by omega
            have hoB : ((j : Int) % 2 == 1) = true := by simp; omega
            obtain ⟨p, rfl⟩ : ∃ p, j = p + 1 := ⟨j - 1, by omega⟩
            have hpm : p < m := by omega
            have hpI : (p : Int) < (m : Int) := by omega
            have HD : Hid (pfk l i (k + 1) = pfk l i k ++ [iat (upn l k) p]) := Lib.hid (by rw [pf_odd (by rw [HX.out]; exact ho), HX.out]; rfl)
            obtain ⟨b, off, rfl, _, d1⟩ := HK.out.get hpm
            obtain ⟨x, hxx⟩ : ∃ x, iat (upn l k) p = x := ⟨_, rfl⟩
            rw [hxx] at d1 HD
            clear hxx
            obtain ⟨q, hq⟩ : ∃ q, (pfk l i k).length = q := ⟨_, rfl⟩
            have HQ := Lib.hid hq
            have hqq : q ≤ 4096 := by have := pf_len l i k; have := ht_le n; omega
            have hoo := HO.out.2.2
            rw [hq] at hoo
            have HOO := Lib.hid hoo
            have hsz := HO.out.size
            clear hoo hq
            have C4 : Hid (q + 1 ≤ maxLen) := Lib.hid (by unfold maxLen; omega)
            have C5 : Hid ((q + 1) * 8 ≤ 140737488355328) := Lib.hid (by omega)
            go_wp2_with (at_builtin; refine wpList_append_own _ rfl _ _ 31 rfl w.heap.size 23 i0 (.int .u64 0) 1 8 Try.underlying31 hi0 hz0 hs0 hb0' rfl (by omega) _ _ _ rfl (HOO.out.alloc _) ⟨_, 0, none⟩ 1 1 [.int .u64 x] rfl rfl (new_cell _ _ _ _ (by simp)) (one_int .u64 x) C4.out C5.out (by simp; omega) ?_)
            intro v' w9 hown hgrow _
            have HO9 := Lib.hid (HO.out.app HQ.out hown hgrow)
            have HK9 := Lib.hid (HK.out.grown HA.out hgrow)
            clear hown hgrow HOO
            rw [← HD.out] at HO9
            go_wp2_with fail
            refine (up32 _ m c' (upn l k) _ HK9.out hm4).mono ?_
            rintro e w2 ⟨A2, c2, rfl, ⟨hr, hf⟩, hb⟩
            have HO2 := Lib.hid (HO9.out.below hb)
            have HA2 := Lib.hid (Ap.fresh HO9.out hf)
            have HK2 : Hid (Rk .u64 w2 w2.heap.size A2 (ab m) (upn l (k + 1))) := Lib.hid hr
            clear hr hf hb
            go_wp2_with fail
            go_roundw
            case rel => exact ⟨k + 1, A2, c2, ab m, (p + 1) / 2, rfl, by go_num, by omega, HM2, HX2, hj2, HK2, HO2, HA2⟩
            case measure => simp [lenv]; omega
          · have hoI : ¬ (j : Int) % 2 = 1 := by omega
            have hoB : ((j : Int) % 2 == 1) = false := by simp; omega
            by_cases hj1 : j + 1 < m
            · have hjI : (j : Int) + 1 < (m : Int) := by omega
              have HD : Hid (pfk l i (k + 1) = pfk l i k ++ [iat (upn l k) (j + 1)]) := Lib.hid (by rw [pf_even (by rw [HX.out]; exact ho) (by rw [HX.out, HL.out, HM.out]; exact hj1), HX.out])
              obtain ⟨b, off, rfl, _, d1⟩ := HK.out.get hj1
              obtain ⟨x, hxx⟩ : ∃ x, iat (upn l k) (j + 1) = x := ⟨_, rfl⟩
              rw [hxx] at d1 HD
              clear hxx
              obtain ⟨q, hq⟩ : ∃ q, (pfk l i k).length = q := ⟨_, rfl⟩
              have HQ := Lib.hid hq
              have hqq : q ≤ 4096 := by have := pf_len l i k; have := ht_le n; omega
              have hoo := HO.out.2.2
              rw [hq] at hoo
              have HOO := Lib.hid hoo
              have hsz := HO.out.size
              clear hoo hq
              have C4 : Hid (q + 1 ≤ maxLen) := Lib.hid (by unfold maxLen; omega)
              have C5 : Hid ((q + 1) * 8 ≤ 140737488355328) := Lib.hid (by omega)
              go_wp2_with (at_builtin; refine wpList_append_own _ rfl _ _ 31 rfl w.heap.size 23 i0 (.int .u64 0) 1 8 Try.underlying31 hi0 hz0 hs0 hb0' rfl (by omega) _ _ _ rfl (HOO.out.alloc _) ⟨_, 0, none⟩ 1 1 [.int .u64 x] rfl rfl (new_cell _ _ _ _ (by simp)) (one_int .u64 x) C4.out C5.out (by simp; omega) ?_)
              intro v' w9 hown hgrow _
              have HO9 := Lib.hid (HO.out.app HQ.out hown hgrow)
              have HK9 := Lib.hid (HK.out.grown HA.out hgrow)
              clear hown hgrow HOO
              rw [← HD.out] at HO9
              go_wp2_with fail
              refine (up32 _ m c' (upn l k) _ HK9.out hm4).mono ?_
              rintro e w2 ⟨A2, c2, rfl, ⟨hr, hf⟩, hb⟩
              have HO2 := Lib.hid (HO9.out.below hb)
              have HA2 := Lib.hid (Ap.fresh HO9.out hf)
              have HK2 : Hid (Rk .u64 w2 w2.heap.size A2 (ab m) (upn l (k + 1))) := Lib.hid hr
              clear hr hf hb
              go_wp2_with fail
              go_roundw
              case rel => exact ⟨k + 1, A2, c2, ab m, j / 2, rfl, by go_num, by omega, HM2, HX2, hj2, HK2, HO2, HA2⟩
              case measure => simp [lenv]; omega
            · have hjI : ¬ (j : Int) + 1 < (m : Int) := by omega
              have HD : Hid (pfk l i (k + 1) = pfk l i k) := Lib.hid (by rw [pf_alone (by rw [HX.out]; exact ho) (by rw [HX.out, HL.out, HM.out]; exact hj1)])
              go_wp2_with fail
              refine (up32 _ m c' (upn l k) _ HK.out hm4).mono ?_
              rintro e w2 ⟨A2, c2, rfl, ⟨hr, hf⟩, hb⟩
              have HO2 := Lib.hid (HO.out.below hb)
              have HA2 := Lib.hid (Ap.fresh HO.out hf)
              have HK2 : Hid (Rk .u64 w2 w2.heap.size A2 (ab m) (upn l (k + 1))) := Lib.hid hr
              clear hr hf hb
              go_wp2_with fail
              go_roundw
              case rel => exact ⟨k + 1, A2, c2, ab m, j / 2, rfl, by go_num, by omega, HM2, HX2, hj2, HK2, by rw [HD.out]; exact HO2, HA2⟩
              case measure => simp [lenv]; omega
        · have hltI : ¬ (1 : Int) < (m : Int) := by omega
          have hkk : k = ht n := abn_end hk (by rw [HM.out]; exact hlt)
          have HEE : Hid (prS l (i : Int) = (pfk l i k, 0)) := Lib.hid (by rw [HE.out, hkk])
          obtain ⟨A9, c9, rfl, hrk⟩ := Rk.owned HO.out.2.2 (by have := pf_len l i k; omega) (fun q => u64_w ((u64_mem (pf_in HU.out i k)) q))
          have HRK := Lib.hid hrk
          have HB := Lib.hid HO.out.2.1
          clear hrk HO hkk
          go_wp2_with fail
          go_ret2
          rw [HEE.out]
          first | exact ⟨_, ⟨_, rfl⟩, HRK.out, HB.out⟩ | exact ⟨_, _, rfl, HRK.out, HB.out⟩
end Go.Proofs.Ytbhdghopdhehdaa.Wk
