/- The walk of DigestSearch. Conditions: the slices read as numbers. -/
import Derived.Test.YtbhdghopdhehdaaLawF
import Derived.Test.YtbhdghopdhehdaaSm
set_option linter.unusedSimpArgs false
set_option linter.unusedVariables false
namespace Go.Proofs.Ytbhdghopdhehdaa.Wk
open Go.RowKit
open Go.Proofs.Ytbhdghopdhehdaa.Mt
/-- the list b as it lies in memory: a row of the call's own -/
def Sb (w wr : World) (g n cap : Nat) (zs : List Int) : Prop := wr.ownsRow w.heap.size 23 1 (.slice (some ⟨g, 0, none⟩) n cap) n (vk .u64 zs) ∧ zs.length = n ∧ U64 zs ∧ Below w.heap.size w wr
theorem Sb.rk {w wr : World} {g n cap : Nat} {zs : List Int} (h : Sb w wr g n cap zs) (hn : n ≤ 9223372036854775807) : Rk .u64 wr wr.heap.size (some ⟨g, 0, none⟩) n zs := by
  obtain ⟨h1, h2, h3, _⟩ := h
  have h1' : wr.ownsRow w.heap.size 23 1 (.slice (some ⟨g, 0, none⟩) n cap) zs.length (vk .u64 zs) := by rw [h2]; exact h1
  obtain ⟨A, c, e, hr⟩ := Rk.owned h1' (by omega) (fun j => u64_w (h3 j))
  injection e with e1 _ _
  rw [e1, h2.symm]
  exact hr
theorem Sb.put {w wr : World} {g n cap : Nat} {zs : List Int} (h : Sb w wr g n cap zs) (k : Nat) {x : Int} (hx : 0 ≤ x ∧ x ≤ 18446744073709551615) : Sb w (wr.setCell ⟨g, k, none⟩ (.int .u64 x)) g n cap (zs.set k x) := by
  obtain ⟨h1, h2, h3, h4⟩ := h
  refine ⟨?_, by rw [List.length_set]; exact h2, ?_, h4.setCell (p := ⟨g, k, none⟩) (h1.lt g rfl).1 _⟩
  · have := (h1.stored k (.int .u64 x)).1
    rw [vk, ← List.map_set] at this
    exact this
  · intro j
    unfold iat
    rw [List.getD_eq_getElem?_getD, List.getElem?_set]
    by_cases hj : k = j
    · subst hj
      by_cases hk : k < zs.length
      · rw [if_pos rfl, if_pos hk]; exact hx
      · rw [if_pos rfl, if_neg hk]; simp
    · rw [if_neg hj, ← List.getD_eq_getElem?_getD]; exact h3 j
theorem Sb.next {w wr w' : World} {g n cap : Nat} {zs : List Int} (h : Sb w wr g n cap zs) (hb : Below wr.heap.size wr w') : Sb w w' g n cap zs := ⟨own_below h.1 hb, h.2.1, h.2.2.1, upB h.2.2.2 hb⟩
theorem sm_up {d lv : Nat} (h1 : d ≤ 4096) (h2 : lv ≤ 64) : 2 * d * lv ≤ 524288 := Nat.le_trans (Nat.mul_le_mul (by omega : 2 * d ≤ 8192) h2) (by decide)
set_option maxHeartbeats 2000000 in
set_option maxRecDepth 100000 in
theorem search_law (A : Option Addr) (n c : Nat) (a : List Int) (B : Option Addr) (m c' : Nat) (at_ : List Int) (y : Int) (w : World) (h : Rk .u64 w w.heap.size A n a) (h2 : Rk .u8 w w.heap.size B m at_) (hz : A = none → c = 0) (hnc : n ≤ c) (hy : 0 ≤ y ∧ y ≤ 18446744073709551615) :
    Calls Try.prog 10 #[.slice A n c, .slice B m c', .int .u64 y] w fun e w' => e = .returned (.bool true) ∧ Below w.heap.size w w' := by
  have hn := h.2.1
  have hm := h2.2.1
  have HL := Lib.hid h.1
  have HA := Lib.hid h
  have HB := Lib.hid h2
  have HU : Hid (U64 a) := Lib.hid (fun i => u64_r (h.2.2.2 i))
  have HU8 : Hid (∀ i, 0 ≤ iat at_ i ∧ iat at_ i ≤ 255) := Lib.hid (fun i => u8_r (h2.2.2.2 i))
  have HY := Lib.hid hy
  have HNN : Hid (A = none → n = 0 ∧ c = 0) := Lib.hid (fun h => by have := hz h; omega)
  clear h h2 hz
  by_cases h0 : n = 0
  · subst h0
    go_enter Try.func10, Try.ntmps10
    go_wp2_with fail
    go_ret
    exact ⟨rfl, Below.refl _ _⟩
  · have h0I : ((n : Int) == 0) = false := by simp; omega
    by_cases h1 : 100 < n
    · have hI : (100 : Int) < (n : Int) := by omega
      go_enter Try.func10, Try.ntmps10
      go_wp2_with fail
      go_ret
      exact ⟨rfl, Below.refl _ _⟩
    · have hI : decide ((100 : Int) < (n : Int)) = false := decide_eq_false (by omega)
      by_cases h3 : 100 < m
      · have hJ : (100 : Int) < (m : Int) := by omega
        go_enter Try.func10, Try.ntmps10
        go_wp2_with fail
        go_ret
        exact ⟨rfl, Below.refl _ _⟩
      · have hJ : decide ((100 : Int) < (m : Int)) = false := decide_eq_false (by omega)
        have hn1 : 1 ≤ n := by omega
        have hn4 : n ≤ 4096 := by omega
        obtain ⟨i0, hi0, hz0, hs0, hb0'⟩ := info_parts u64_info
        have B1 : Hid (0 + n ≤ maxLen) := Lib.hid (by unfold maxLen; omega)
        have B2 : Hid ((0 + n) * 8 ≤ 140737488355328) := Lib.hid (by omega)
        go_enter Try.func10, Try.ntmps10
        go_wp2_with (at_builtin; refine Rot.wpList_append_any _ _ 31 rfl (by rfl) w.heap.size 23 i0 (.int .u64 0) 1 8 Try.underlying31 hi0 hz0 hs0 hb0' rfl (by omega) _ 0 [] rfl (own0 w) A n c (vk .u64 a) rfl (by rw [Nat.mul_one]; simp only [vk, List.length_map]; exact HL.out) HNN.out (HA.out.up (b1 _ _)).src (vk_one .u64 a) B1.out B2.out (b1 w _).size ?_)
        intro v9 w9 hown hgrow
        try simp only [Nat.zero_add, List.nil_append] at hown
        have hb9 : Below w.heap.size w w9 := (b1 w _).grown hgrow (b1 w _).size (fun q hq => by have hq : some w.heap.size = some q := hq; injection hq with hq; omega)
        obtain ⟨g, cap, rfl, _, _⟩ := hown.form (by omega)
        have HS : Hid (Sb w w9 g n cap a) := Lib.hid ⟨hown, HL.out, HU.out, hb9⟩
        clear hown hgrow hb9 h0I hI hJ
        go_wp2_with fail
        go_loopw [8] (fun iv wr => ∃ (i : Nat) (zs : List Int), i ≤ m ∧ iv = .int .i64 i ∧ Hid (Sb w wr g n cap zs)) (fun iv _ => m - (intOf iv).toNat)
        case atStart => exact ⟨0, a, Nat.zero_le _, rfl, HS⟩
        case round =>
          obtain ⟨i, zs, hi, rfl, HS⟩ := hrel
          by_cases hlt : i < m
          · have hltI : (i : Int) < (m : Int) := by omega
            obtain ⟨bb, ob, rfl, hbb, d0⟩ := (HB.out.below HS.out.2.2.2 (Nat.le_refl _)).get hlt
            obtain ⟨t, ht⟩ : ∃ t : Nat, iat at_ i = (t : Int) := ⟨(iat at_ i).toNat, by have := (HU8.out i).1; omega⟩
            have ht2 : t ≤ 255 := by have := (HU8.out i).2; omega
            rw [ht] at d0
            clear ht
            obtain ⟨k, hk⟩ : ∃ k, t % n = k := ⟨_, rfl⟩
            have hkn : k < n := by have := Nat.mod_lt t (show 0 < n by omega); omega
            have hmod : (t : Int).tmod (n : Int) = (k : Int) := by rw [Int.tmod_eq_emod_of_nonneg (by omega), ← hk, Int.natCast_emod]
            have hmod2 : (t : Int) % (n : Int) = (k : Int) := by rw [← hk, Int.natCast_emod]
            have hkI : (k : Int) < (n : Int) := by omega
            have hnz : ((n : Int) == 0) = false := by simp; omega
            have hnz2 : ¬ (n : Int) = 0 := by omega
            clear hk
            have hbl := HS.out.2.2.2.size
            obtain ⟨x, hx⟩ : ∃ x, iat zs k = x := ⟨_, rfl⟩
            have hrk := HS.out.rk hn
            have d1 := hrk.two (i := k) hkn
            rw [Nat.zero_add, hx] at d1
            have hf := HS.out.1.frozenAt k
            have HXI : Hid (0 ≤ x ∧ x ≤ 18446744073709551615) := Lib.hid (by rw [← hx]; exact HS.out.2.2.1 k)
            have hxe := xr_eq HXI.out HY.out
            have HXR := Lib.hid (xr_in HXI.out HY.out)
            obtain ⟨z, hzz⟩ : ∃ z, xr x y = z := ⟨_, rfl⟩
            rw [hzz] at hxe HXR
            have hgl := Bx.lt (w := wr) (g := g) (t := 0) (cs := #[])
            clear hgl hrk hx hzz
            have hgl := (HS.out.1.lt g rfl).2
            go_wp2_with fail
            go_roundw
            case rel => exact ⟨i + 1, zs.set k z, by omega, by go_num, Lib.hid (HS.out.put k HXR.out)⟩
            case measure => simp [intOf]; omega
          · have hltI : ¬ (i : Int) < (m : Int) := by omega
            go_wp2_with fail
            obtain ⟨⟨D, C⟩, hdc⟩ : ∃ r, dfS a zs = r := ⟨_, rfl⟩
            have HDA := df_all HL.out HS.out.2.1 hn1
            have hdl : D.length ≤ 4096 := by
              have h5 : dfS a zs = dv a zs (ht a.length) 0 ([], 0) := df_dv (by rw [HL.out, HS.out.2.1]) (by rw [HL.out]; omega)
              have h6 := dv_len a zs (ht a.length) 0 ([], 0)
              rw [← h5, hdc] at h6
              have h7 := pow_13 (ht_12 hn4)
              rw [HL.out] at h6
              have h8 : D.length ≤ 0 + 2 ^ ht n := h6
              omega
            rw [hdc] at HDA
            obtain ⟨hf1, hf2, hf3, hf4, hf5⟩ := HDA
            have hf3 : 1 ≤ C := hf3
            have hf4 : C ≤ 1 + 2 * D.length * ht n := hf4
            have hf5 : D.length = 0 ↔ rootS a = rootS zs := hf5
            have HF1 : Hid (∀ j, j < D.length → (0 ≤ iat D j ∧ iat D j < n ∧ ¬ iat a (iat D j).toNat = iat zs (iat D j).toNat)) := Lib.hid hf1
            have HF2 : Hid (∀ j, j + 1 < D.length → iat D j < iat D (j + 1)) := Lib.hid hf2
            have HDC := Lib.hid hdc
            obtain ⟨L, hL⟩ : ∃ L, D.length = L := ⟨_, rfl⟩
            rw [hL] at hf4 hf5 hdl HF1 HF2
            have hk12 := ht_12 hn4
            obtain ⟨K, hK⟩ : ∃ K, ht n = K := ⟨_, rfl⟩
            rw [hK] at hf4 hk12
            have HKK := Lib.hid hK
            have HLL := Lib.hid hL
            have hzm := sm_up hdl (show K ≤ 64 by omega)
            obtain ⟨Z, hZ⟩ : ∃ Z, 2 * L * K = Z := ⟨_, rfl⟩
            rw [hZ] at hf4 hzm
            have hZI : 2 * (L : Int) * (K : Int) = (Z : Int) := by rw [← hZ]; simp
            have HZI := Lib.hid hZI
            obtain ⟨ra, hra⟩ : ∃ r, rootS a = r := ⟨_, rfl⟩
            obtain ⟨rb, hrb⟩ : ∃ r, rootS zs = r := ⟨_, rfl⟩
            rw [hra, hrb] at hf5
            have HRA := Lib.hid hra
            have HRB := Lib.hid hrb
            have HF5 := Lib.hid hf5
            clear hf1 hf2 hdc hL hK hZ hZI hra hrb hf5
            have HA2 := Lib.hid ((HA.out.below HS.out.2.2.2 (Nat.le_refl _)).wide HS.out.2.2.2.size)
            refine (differ26 A (some ⟨g, 0, none⟩) n n c cap a zs _ HA2.out (HS.out.rk hn) hn4 hn4).mono ?_
            rintro e w2 ⟨AD, cd, he, hr, hb⟩
            rw [HDC.out] at he hr
            have he : e = .returned (.tuple #[.slice AD D.length cd, .int .i64 (C : Int)]) := he
            have hr : Rk .i64 w2 w2.heap.size AD D.length D := hr
            rw [HLL.out] at he hr
            subst he
            have HD := Lib.hid hr
            replace HA2 := Lib.hid (HA2.out.up hb)
            have HS2 := Lib.hid (HS.out.next hb)
            clear hr hb HS
            go_wp2_with fail
            go_loop [12, 13] (fun lv sv => ∃ k s : Nat, lv = .int .i64 k ∧ sv = .int .i64 s ∧ Hid (k + ht s = K) ∧ s ≤ n) (fun _ sv => (intOf sv).toNat)
            case atStart => exact ⟨0, n, rfl, rfl, Lib.hid (by rw [Nat.zero_add]; exact HKK.out), Nat.le_refl _⟩
            case round =>
              obtain ⟨k, s, rfl, rfl, HE, hle⟩ := hrel
              by_cases hs1 : 1 < s
              · have hsI : (1 : Int) < (s : Int) := by omega
                have HN := Lib.hid (ht_more hs1)
                have hab : ab s + 1 ≤ s := ab_le hs1
                have hkk : k ≤ 64 := by have := HE.out; omega
                have habI : Hid ((s : Int) / 2 + (s : Int) % 2 = ((ab s : Nat) : Int)) := Lib.hid (by unfold ab; omega)
                go_wp2_with fail
                go_round
                case rel => exact ⟨k + 1, ab s, by go_num, by rw [habI.out], Lib.hid (by have := HE.out; have := HN.out; omega), by omega⟩
                case measure => rw [habI.out]; simp [intOf]; omega
              · have hsI : ¬ (1 : Int) < (s : Int) := by omega
                obtain rfl : k = K := by have := HE.out; rw [ht_one (by omega)] at this; omega
                clear HE
                go_wp2_with fail
                go_loopw [14] (fun iv wr => ∃ i : Nat, i ≤ L ∧ iv = .int .i64 i ∧ Hid (Below w2.heap.size w2 wr)) (fun iv _ => L - (intOf iv).toNat)
                case atStart => exact ⟨0, Nat.zero_le _, rfl, Lib.hid (Below.refl _ _)⟩
                case round =>
                  obtain ⟨i, hi, rfl, HBB⟩ := hrel
                  by_cases hlt : i < L
                  · have hltI : (i : Int) < (L : Int) := by omega
                    obtain ⟨p1, p2, p3⟩ := HF1.out i hlt
                    obtain ⟨p, hp⟩ : ∃ p : Nat, iat D i = (p : Int) := ⟨(iat D i).toNat, by omega⟩
                    rw [hp] at p1 p2 p3
                    have hpn : p < n := by omega
                    rw [Int.toNat_natCast] at p3
                    obtain ⟨va, hva⟩ : ∃ v, iat a p = v := ⟨_, rfl⟩
                    obtain ⟨vb, hvb⟩ : ∃ v, iat zs p = v := ⟨_, rfl⟩
                    have pe : (va == vb) = false := by rw [← hva, ← hvb]; simp; exact p3
                    obtain ⟨bd, od, rfl, _, d1⟩ := (HD.out.up HBB.out).get hlt
                    obtain ⟨ba, oa, rfl, _, d2⟩ := (HA2.out.up HBB.out).get hpn
                    have d3 := ((HS2.out.next HBB.out).rk hn).two (i := p) hpn
                    rw [Nat.zero_add, hvb] at d3
                    rw [hp] at d1
                    rw [hva] at d2
                    have q1 : decide ((p : Int) < 0) = false := decide_eq_false (by omega)
                    have q2 : decide ((n : Int) ≤ (p : Int)) = false := decide_eq_false (by omega)
                    have q2' : decide (n ≤ p) = false := decide_eq_false (by omega)
                    have q3 : (p : Int) < (n : Int) := by omega
                    clear p1 p2 p3 hva hvb
                    by_cases hi0 : i = 0
                    · have q4 : decide ((0 : Int) < (i : Int)) = false := decide_eq_false (by omega)
                      have q4' : decide (0 < i) = false := decide_eq_false (by omega)
                      clear hp hi0
                      go_wp2_with fail
                      go_quiet (fail)
                      go_wp2_with fail
                      go_roundw
                      case rel => exact ⟨i + 1, by omega, by go_num, Lib.hid (below_drewN HBB.out nq)⟩
                      case measure => simp [intOf]; omega
                    · obtain ⟨j, rfl⟩ : ∃ j, i = j + 1 := ⟨i - 1, by omega⟩
                      have q4 : (0 : Int) < (j : Int) + 1 := by omega
                      have q5 := HF2.out j hlt
                      obtain ⟨q6, _, _⟩ := HF1.out j (by omega)
                      obtain ⟨r, hr⟩ : ∃ r : Nat, iat D j = (r : Int) := ⟨(iat D j).toNat, by omega⟩
                      have d4 := (HD.out.up HBB.out).two (i := j) (by omega)
                      rw [hr] at q5 d4
                      rw [hp] at q5
                      have q7 : decide ((p : Int) ≤ (r : Int)) = false := decide_eq_false (by omega)
                      have q7' : decide (p ≤ r) = false := decide_eq_false (by omega)
                      have q8 : IntKind.i64.wrap ((j : Int) + 1 - 1) = (j : Int) := by rw [IntWalk.i64_in _ (by omega)]; omega
                      have q9 : IntKind.i64.wrap (j : Int) = (j : Int) := IntWalk.i64_in _ (by omega)
                      have q10 : (j : Int) < (L : Int) := by omega
                      clear hp hr q6
                      go_wp2_with fail
                      go_quiet (fail)
                      go_wp2_with fail
                      go_roundw
                      case rel => exact ⟨j + 1 + 1, by omega, by go_num, Lib.hid (below_drewN HBB.out nq)⟩
                      case measure => simp [intOf]; omega
                  · have hltI : ¬ (i : Int) < (L : Int) := by omega
                    have HA3 := Lib.hid (HA2.out.up HBB.out)
                    have HS3 := Lib.hid (HS2.out.next HBB.out)
                    have t1 : decide ((C : Int) < 1) = false := decide_eq_false (by omega)
                    have hZI := HZI.out
                    have t2 : decide ((1 : Int) + (Z : Int) < (C : Int)) = false := decide_eq_false (by omega)
                    obtain ⟨q, hq⟩ : ∃ q, ((L : Int) == 0) = q := ⟨_, rfl⟩
                    have t4 : (ra == rb) = q := by
                      have h5 := HF5.out
                      rw [← hq]
                      rcases Nat.eq_zero_or_pos L with h6 | h6
                      · have := h5.1 h6
                        subst this h6
                        simp
                      · have h7 : ¬ ra = rb := fun h => by have := h5.2 h; omega
                        have h8 : ((L : Int) == 0) = false := by simp; omega
                        rw [h8]; simp; exact h7
                    have t5 : (q != q) = false := by cases q <;> rfl
                    have HHQ := Lib.hid hq
                    go_wp2_with fail
                    refine (root22 A n c a _ HA3.out hn4).mono ?_
                    rintro e w4 ⟨rfl, hb⟩
                    rw [HRA.out]
                    have HS4 := Lib.hid (HS3.out.next hb)
                    clear hb HS3 HA3
                    go_wp2_with fail
                    refine (root22 (some ⟨g, 0, none⟩) n cap zs _ (HS4.out.rk hn) hn4).mono ?_
                    rintro e w5 ⟨rfl, hb⟩
                    rw [HRB.out]
                    have HB5 := Lib.hid (HS4.out.next hb).2.2.2
                    clear hb HS4
                    go_wp2_with fail
                    refine (alive15 _).mono ?_
                    rintro e w6 ⟨rfl, hb⟩
                    have HB6 := Lib.hid (upB HB5.out hb)
                    clear hb HB5
                    go_wp2_with fail
                    go_ret
                    exact ⟨rfl, HB6.out⟩
end Go.Proofs.Ytbhdghopdhehdaa.Wk
