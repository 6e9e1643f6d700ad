/- Escape in the reference. Condition: at most 100000 bytes. -/
import Derived.Test.YtgfbgkoifcacdaaDoorOEm
import Derived.Test.YtgfbgkoifcacdaaDoorOIs
import Derived.Test.YtgfbgkoifcacdaaDoorOFo
set_option linter.unusedSimpArgs false
set_option linter.unusedVariables false
namespace Go.Proofs.YtgfbgkoifcacdaaDoor.Om
open Go
/-- what is escaped of the first k bytes -/
def ek (s : ByteArray) (k : Nat) : List UInt8 := esc (s.data.toList.take k)
def esS (s : ByteArray) : ByteArray := if s.size = 0 then ⟨#[37]⟩ else strd (ek s s.size)
def by_ (s : ByteArray) (k : Nat) : UInt8 := s.data.toList.getD k 0
theorem by_bt {s : ByteArray} {k : Nat} (h : k < s.size) : ((by_ s k).toNat : Int) = bt s k := by
  have h2 : k < s.data.toList.length := by simpa using h
  rw [bt_list s k h2]
  unfold by_
  rw [List.getD_eq_getElem?_getD, List.getElem?_eq_getElem h2]
  rfl
theorem take_next {s : ByteArray} {k : Nat} (h : k < s.size) : s.data.toList.take (k + 1) = s.data.toList.take k ++ [by_ s k] := by
  have h2 : k < s.data.toList.length := by simpa using h
  rw [List.take_add_one]
  unfold by_
  rw [List.getD_eq_getElem?_getD, List.getElem?_eq_getElem h2]
  rfl
theorem ek_next {s : ByteArray} {k : Nat} (h : k < s.size) : ek s (k + 1) = ek s k ++ e1 (by_ s k) := by
  unfold ek
  rw [take_next h, esc_app, esc, esc, List.append_nil]
theorem e1_len (b : UInt8) : (e1 b).length ≤ 3 := by unfold e1; split <;> simp
theorem esc_len : ∀ (l : List UInt8), (esc l).length ≤ 3 * l.length := by
  intro l
  induction l with
  | nil => exact Nat.zero_le _
  | cons b t ih =>
    rw [esc, List.length_append, List.length_cons]
    have := e1_len b
    omega
theorem ek_len (s : ByteArray) (k : Nat) : (ek s k).length ≤ 3 * k := by
  unfold ek
  have h1 := esc_len (s.data.toList.take k)
  rw [List.length_take] at h1
  omega
theorem strd_app (a b : List UInt8) : strd a ++ strd b = strd (a ++ b) := by
  unfold strd
  rw [ByteArray.mk_append_mk]; first | done | rfl
theorem ext_one {s : ByteArray} {k : Nat} (h : k < s.size) : s.extract k (k + 1) = strd [by_ s k] := by
  apply ba_eq
  have h2 : k < s.data.toList.length := by simpa using h
  unfold strd by_
  rw [ByteArray.data_extract, Array.toList_extract, List.extract_eq_take_drop, List.getD_eq_getElem?_getD, List.getElem?_eq_getElem h2, List.drop_eq_getElem_cons h2]
  simp
theorem hex_one : ∀ n : Fin 16, (ByteArray.mk #[48, 49, 50, 51, 52, 53, 54, 55, 56, 57, 65, 66, 67, 68, 69, 70]).extract n.val (n.val + 1) = strd [hx n.val] := by decide +kernel
theorem hex_one' {n : Nat} (h : n < 16) : (ByteArray.mk #[48, 49, 50, 51, 52, 53, 54, 55, 56, 57, 65, 66, 67, 68, 69, 70]).extract n (n + 1) = strd [hx n] := hex_one ⟨n, h⟩
end Go.Proofs.YtgfbgkoifcacdaaDoor.Om
namespace Go.Proofs.YtgfbgkoifcacdaaDoor.Ow
open Go.RowKit
open Go.Proofs.YtgfbgkoifcacdaaDoor.Om
set_option maxHeartbeats 4000000 in
set_option maxRecDepth 100000 in
theorem escape28 (s : ByteArray) (w : World) (hle : s.size ≤ 100000) : Calls Tryd.prog 48 #[.string s] w fun e w' => e = .returned (.string (esS s)) ∧ Below w.heap.size w w' := by
  go_enter Tryd.func48, Tryd.ntmps48
  by_cases h0 : s.size = 0
  · have e0 := emp h0
    have HE : Hid (esS s = ⟨#[37]⟩) := Lib.hid (if_pos h0)
    clear h0
    go_wp2_with fail
    go_ret
    exact ⟨by rw [HE.out]; rfl, Below.refl _ _⟩
  · have e0 := not_emp h0
    have HE : Hid (esS s = strd (ek s s.size)) := Lib.hid (if_neg h0)
    clear h0
    obtain ⟨n, hn⟩ : ∃ n, s.size = n := ⟨_, rfl⟩
    have hsz : ((s.size : Nat) : Int) = (n : Int) := by omega
    have hnn : n ≤ 100000 := by omega
    have HN := Lib.hid hn
    clear hn hle
    go_wp2_with fail
    clear e0
    go_loopw [3, 4, 5, 6] (fun uv iv _ _ wr => ∃ (k : Nat) (u : ByteArray), k ≤ n ∧ iv = .int .i64 k ∧ uv = .string u ∧ Hid (u = strd (ek s k)) ∧ Hid (Below w.heap.size w wr)) (fun _ iv _ _ _ => n - (intOf iv).toNat)
    case atStart => exact ⟨0, ⟨#[]⟩, Nat.zero_le _, rfl, rfl, Lib.hid rfl, Lib.hid (Below.refl _ _)⟩
    case round =>
      obtain ⟨k, u, hk, rfl, rfl, HU, HB⟩ := hrel
      have hus : u.size ≤ 300000 := by rw [HU.out, strd_size]; have := ek_len s k; omega
      by_cases hlt : k < n
      · have hltI : (k : Int) < (n : Int) := by omega
        have hks : k < s.size := by rw [HN.out]; exact hlt
        have hbb := by_bt hks
        obtain ⟨b, hb⟩ : ∃ b, by_ s k = b := ⟨_, rfl⟩
        obtain ⟨c, hc⟩ : ∃ c, b.toNat = c := ⟨_, rfl⟩
        rw [hb, hc] at hbb
        have gx := (bt_at hks).trans hbb.symm
        have hc2 : c < 256 := by rw [← hc]; exact b.toNat_lt
        have W0 : IntKind.i64.wrap ((k : Int) + 1) = (k : Int) + 1 := IntWalk.i64_in _ (by omega)
        have HEN : Hid (ek s (k + 1) = ek s k ++ e1 b) := Lib.hid (by rw [ek_next hks, hb])
        have HPL : Hid (pl b = plB (c : Int)) := Lib.hid (by unfold pl; rw [hc])
        have HBC := Lib.hid hc
        have HX1 : Hid (s.extract k (k + 1) = strd [b]) := Lib.hid (by rw [ext_one hks, hb])
        clear hb hc hbb
        go_wp2_with fail
        go_at_call 71
        refine (plain35 (c : Int) wr).mono ?_
        rintro e w1 ⟨rfl, q1⟩
        have Q1 := Lib.hid (HB.out.trans (q1.mono HB.out.size))
        clear q1
        rcases fot (plB (c : Int)) with hp | hp
        · rw [hp]
          have HEV : Hid (e1 b = [37, hx (c / 16), hx (c % 16)]) := Lib.hid (by unfold e1; rw [HPL.out, hp, if_neg (by decide), HBC.out])
          obtain ⟨h, hh⟩ : ∃ h, c / 16 = h := ⟨_, rfl⟩
          obtain ⟨l, hl⟩ : ∃ l, c % 16 = l := ⟨_, rfl⟩
          have hh16 : h < 16 := by omega
          have hl16 : l < 16 := by omega
          have T1 : Int.tdiv (c : Int) 16 = (h : Int) := by rw [Int.tdiv_eq_ediv_of_nonneg (by omega)]; omega
          have T2 : Int.tmod (c : Int) 16 = (l : Int) := by rw [Int.tmod_eq_emod_of_nonneg (by omega)]; omega
          rw [hh, hl] at HEV
          have V1 : IntKind.u8.wrap (h : Int) = (h : Int) := IntWalk.u8_in _ (by omega)
          have V2 : IntKind.u8.wrap (l : Int) = (l : Int) := IntWalk.u8_in _ (by omega)
          have W1 : IntKind.i64.wrap (h : Int) = (h : Int) := IntWalk.i64_in _ (by omega)
          have W2 : IntKind.i64.wrap (l : Int) = (l : Int) := IntWalk.i64_in _ (by omega)
          have W3 : IntKind.i64.wrap ((h : Int) + 1) = (h : Int) + 1 := IntWalk.i64_in _ (by omega)
          have W4 : IntKind.i64.wrap ((l : Int) + 1) = (l : Int) + 1 := IntWalk.i64_in _ (by omega)
          have N1 : ((h : Int) + 1).toNat = h + 1 := by omega
          have N2 : ((l : Int) + 1).toNat = l + 1 := by omega
          have i1 : (0 : Int) ≤ (h : Int) := by omega
          have i2 : (h : Int) ≤ (h : Int) + 1 := by omega
          have i3 : (h : Int) + 1 ≤ 16 := by omega
          have i4 : (0 : Int) ≤ (l : Int) := by omega
          have i5 : (l : Int) ≤ (l : Int) + 1 := by omega
          have i6 : (l : Int) + 1 ≤ 16 := by omega
          obtain ⟨y1, hy1⟩ : ∃ y, (ByteArray.mk #[48, 49, 50, 51, 52, 53, 54, 55, 56, 57, 65, 66, 67, 68, 69, 70]).extract h (h + 1) = y := ⟨_, rfl⟩
          obtain ⟨y2, hy2⟩ : ∃ y, (ByteArray.mk #[48, 49, 50, 51, 52, 53, 54, 55, 56, 57, 65, 66, 67, 68, 69, 70]).extract l (l + 1) = y := ⟨_, rfl⟩
          have Y1 : Hid (y1 = strd [hx h]) := Lib.hid (by rw [← hy1, hex_one' hh16])
          have Y2 : Hid (y2 = strd [hx l]) := Lib.hid (by rw [← hy2, hex_one' hl16])
          have s1 : y1.size = 1 := by rw [Y1.out]; rfl
          have s2 : y2.size = 1 := by rw [Y2.out]; rfl
          obtain ⟨v, hv⟩ : ∃ v, u ++ (⟨#[37]⟩ : ByteArray) = v := ⟨_, rfl⟩
          have s37 : (ByteArray.mk #[37]).size = 1 := rfl
          have sv : v.size ≤ 300001 := by rw [← hv, ByteArray.size_append]; omega
          obtain ⟨v2, hv2⟩ : ∃ v2, v ++ y1 = v2 := ⟨_, rfl⟩
          have sv2 : v2.size ≤ 300002 := by rw [← hv2, ByteArray.size_append]; omega
          obtain ⟨v3, hv3⟩ : ∃ v3, v2 ++ y2 = v3 := ⟨_, rfl⟩
          have HF : Hid (v3 = strd (ek s (k + 1))) := Lib.hid (by
            rw [← hv3, ← hv2, ← hv, HU.out, Y1.out, Y2.out, HEN.out, HEV.out]
            show strd _ ++ strd [37] ++ strd _ ++ strd _ = _
            rw [strd_app, strd_app, strd_app]
            simp)
          clear hh hl hp
          go_wp2_with fail
          go_quiet (fail)
          go_wp2_with fail
          go_quiet (fail)
          go_wp2_with fail
          go_roundw
          case rel => exact ⟨k + 1, v3, by omega, by go_num, rfl, HF, Lib.hid (below_drewN Q1.out _)⟩
          case measure => simp [intOf]; omega
        · rw [hp]
          have HEV : Hid (e1 b = [b]) := Lib.hid (by unfold e1; rw [HPL.out, hp]; rfl)
          obtain ⟨z, hz⟩ : ∃ z, s.extract k (k + 1) = z := ⟨_, rfl⟩
          have HZ : Hid (z = strd [b]) := Lib.hid (by rw [← hz, HX1.out])
          have sz : z.size = 1 := by rw [HZ.out]; rfl
          obtain ⟨v, hv⟩ : ∃ v, u ++ z = v := ⟨_, rfl⟩
          have HF : Hid (v = strd (ek s (k + 1))) := Lib.hid (by rw [← hv, HU.out, HZ.out, HEN.out, HEV.out, strd_app])
          have j1 : (k : Int) ≤ (k : Int) + 1 := by omega
          have j2 : (k : Int) + 1 ≤ (n : Int) := by omega
          have j3 : ((k : Int) + 1).toNat = k + 1 := by omega
          clear hp
          go_wp2_with fail
          go_roundw
          case rel => exact ⟨k + 1, v, by omega, by go_num, rfl, HF, Q1⟩
          case measure => simp [intOf]; omega
      · have hltI : ¬ (k : Int) < (n : Int) := by omega
        obtain rfl : k = n := by omega
        have HE2 : Hid (esS s = u) := Lib.hid (by rw [HE.out, HU.out, HN.out])
        go_wp2_with fail
        go_ret
        exact ⟨by rw [HE2.out]; rfl, HB.out⟩
end Go.Proofs.YtgfbgkoifcacdaaDoor.Ow
