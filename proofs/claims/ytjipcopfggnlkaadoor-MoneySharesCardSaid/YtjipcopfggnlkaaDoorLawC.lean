/- The law of the shares, walked. Conditions: the arguments read as numbers; the table reads as it is laid. -/
import Derived.Test.YtjipcopfggnlkaaDoorSy
set_option linter.unusedSimpArgs false
set_option linter.unusedVariables false
namespace Go.Proofs.YtjipcopfggnlkaaDoor.Wk
open Go.RowKit
open Go.Proofs.YtjipcopfggnlkaaDoor.Mt
set_option maxHeartbeats 8000000 in
set_option maxRecDepth 100000 in
theorem shares_law (T : Int) (A : Option Addr) (n c : Nat) (zs : List Int) (w : World) (hT : In64 T) (h : Sl w A n c zs) (ht : Tb w) : Calls Tryd.prog 8 #[.int .i64 T, .slice A n c] w fun e w' => e = .returned (.bool true) ∧ Below w.heap.size w w' := by
  have HT := Lib.hid ht
  have HZ := Lib.hid h.rk
  have HTT := Lib.hid hT
  have HL := Lib.hid h.rk.1
  clear h ht hT
  by_cases hbig : 40 < n
  · have d1 : decide ((40 : Int) < (n : Int)) = true := decide_eq_true (by omega)
    go_enter Tryd.func8, Tryd.ntmps8
    go_wp2_with fail
    refine (awake11 w HT.out).mono ?_
    rintro e w1 ⟨rfl, hb⟩
    have HB := Lib.hid hb
    clear hb
    go_wp2_with fail
    go_ret
    exact ⟨rfl, HB.out⟩
  have d1 : decide ((40 : Int) < (n : Int)) = false := decide_eq_false (by omega)
  go_enter Tryd.func8, Tryd.ntmps8
  go_wp2_with fail
  refine (split20 T A n c zs w HZ.out HTT.out).mono ?_
  rintro e w1 ⟨hb, ⟨hne, rfl⟩ | ⟨_, t, S, o, g, hsp, hord, rfl, hrk⟩⟩
  · have HB := Lib.hid hb
    obtain ⟨E, hE⟩ : ∃ E, spE T zs = E := ⟨_, rfl⟩
    rw [hE] at hne ⊢
    have hne2 : (E != 0) = true := by simp [hne]
    clear hb hE hne
    go_wp2_with fail
    refine (awake11 w1 (HT.out.next HB.out)).mono ?_
    rintro e w2 ⟨rfl, hb⟩
    replace HB := Lib.hid (upB HB.out hb)
    clear hb
    go_wp2_with fail
    go_ret
    exact ⟨rfl, HB.out⟩
  · have HB := Lib.hid hb
    have HZ1 := Lib.hid (HZ.out.up hb)
    have HG := Lib.hid hrk
    have HSP := Lib.hid hsp
    have hord2 : OrdOk (rf t S zs) zs.length o := by rw [HL.out]; exact hord
    have HSUM := hsp.sum hord2
    have HMID := fun i (hi : i < zs.length) => hsp.mid hord2 hi
    have HORD := fun i k (hi : i < zs.length) (hk : k < i) => hsp.ord hord2 hi hk
    rw [HL.out] at HSUM HMID HORD
    obtain ⟨ys, hys⟩ : ∃ ys, bump (qf t S zs) n o (t - sm (qf t S zs) n) = ys := ⟨_, rfl⟩
    rw [hys] at HG HSUM HMID HORD
    have HSUM := Lib.hid HSUM
    have HMID := Lib.hid HMID
    have HORD := Lib.hid HORD
    have hse := su_wn zs.length hsp.ok.pos
    rw [← hsp.ss, HL.out] at hse
    have HSE := Lib.hid hse
    have hS1 := hsp.sle
    have hS0 := hsp.pos
    have hTt := hsp.tt
    have hfit := hsp.fit
    have HTN := Lib.hid hTt
    have HBD := Lib.hid (And.intro hS1 (And.intro hS0 hfit))
    have hmono : ∀ i, i ≤ n → 0 ≤ su zs i ∧ su zs i ≤ (S : Int) := by
      intro i hi
      rw [su_wn i (fun j hj => hsp.ok.pos j (by rw [HL.out]; omega)), hsp.ss]
      have := sm_le (wn zs) (show i ≤ zs.length by rw [HL.out]; exact hi)
      omega
    have HMONO := Lib.hid hmono
    have hy0 : ∀ i, i < n → 0 ≤ iat ys i ∧ iat ys i ≤ 1125899906842625 := by
      intro i hi
      have h1 := HMID.out i (by omega)
      have h2 : qf t S zs i ≤ t := by
        have h3 := hsp.q_le (k := i + 1) (by rw [HL.out]; omega)
        rw [sm] at h3
        omega
      have h3 : (if 0 < rf t S zs i then (1 : Int) else 0) ≤ 1 := by split <;> omega
      omega
    have HY0 := Lib.hid hy0
    have hysu : ∀ i, i ≤ n → 0 ≤ su ys i ∧ su ys i ≤ (i : Int) * 1125899906842625 := by
      intro i
      induction i with
      | zero => intro _; simp [su]
      | succ i ih =>
        intro hi
        have h1 := ih (by omega)
        have h2 := HY0.out i (by omega)
        rw [su]
        omega
    have HYSU := Lib.hid hysu
    clear hb hrk hsp hord hord2 hys hse hmono hy0 hysu d1 hTt hfit hS0 hS1
    have g0 : ((n : Int) != (n : Int)) = false := by simp
    go_wp2_with fail
    go_loopw [8, 10, 43] (fun sv _ iv wr => ∃ i : Nat, i ≤ n ∧ iv = .int .i64 i ∧ sv = .int .i64 (su zs i) ∧ wr = w1) (fun _ _ iv _ => n - (intOf iv).toNat)
    case atStart => exact ⟨0, by omega, rfl, rfl, rfl⟩
    case round =>
      obtain ⟨i, hi, rfl, rfl, hwr⟩ := hrel
      replace hwr := hwr.symm
      subst hwr
      by_cases hlt : i < n
      · have hltI : (i : Int) < (n : Int) := by omega
        have W1 : IntKind.i64.wrap ((i : Int) + 1) = (i : Int) + 1 := IntWalk.i64_in _ (by omega)
        obtain ⟨b, off, rfl, hb1, hc1⟩ := HZ1.out.get hlt
        have hS1 := HBD.out.1
        have h1 := HMONO.out i (by omega)
        have h2 := HMONO.out (i + 1) (by omega)
        obtain ⟨s, hs⟩ : ∃ s, su zs i = s := ⟨_, rfl⟩
        obtain ⟨s', hs'⟩ : ∃ s, su zs (i + 1) = s := ⟨_, rfl⟩
        obtain ⟨x, hx⟩ : ∃ x, iat zs i = x := ⟨_, rfl⟩
        have hss : s + x = s' := by rw [← hs, ← hs', ← hx]; rfl
        rw [hs] at h1 ⊢
        rw [hs'] at h2
        rw [hx] at hc1
        have W2 : IntKind.i64.wrap (s + x) = s' := by rw [hss]; exact IntWalk.i64_in _ (by omega)
        have HS' := Lib.hid hs'
        clear hs hs' hx hss h1 h2 hS1
        go_wp2_with fail
        go_roundw
        case rel => exact ⟨i + 1, by omega, by go_num, by rw [HS'.out], by trivial⟩
        case measure => simp [intOf]; omega
      · obtain rfl : i = n := by omega
        have hltI : ¬ (i : Int) < (i : Int) := by omega
        rw [HSE.out]
        go_wp2_with fail
        go_loopw [7, 11, 12, 13, 14, 15, 16, 17, 53] (fun sv _ _ _ _ _ _ _ iv wr => ∃ j : Nat, j ≤ i ∧ iv = .int .i64 j ∧ sv = .int .i64 (su ys j) ∧ Hid (Below w.heap.size w wr) ∧ Hid (Rk .i64 wr wr.heap.size A i zs) ∧ Hid (Rk .i64 wr wr.heap.size (some ⟨g, 0, none⟩) i ys)) (fun _ _ _ _ _ _ _ _ iv _ => i - (intOf iv).toNat)
        case atStart => exact ⟨0, by omega, rfl, rfl, HB, HZ1, HG⟩
        case round =>
          obtain ⟨j, hj, rfl, rfl, HB, HZ1, HG⟩ := hrel
          by_cases hlj : j < i
          · have hljI : (j : Int) < (i : Int) := by omega
            have W1 : IntKind.i64.wrap ((j : Int) + 1) = (j : Int) + 1 := IntWalk.i64_in _ (by omega)
            obtain ⟨b, off, rfl, hb1, hc1⟩ := HZ1.out.get hlj
            have hg1 := HG.out.two hlj
            rw [Nat.zero_add] at hg1
            have hS1 := HBD.out.1
            have h1 := HYSU.out j (by omega)
            have h2 := HYSU.out (j + 1) (by omega)
            have hyj := HY0.out j hlj
            have hmid := HMID.out j hlj
            obtain ⟨⟨a1, a2⟩, a3, a4⟩ := HSP.out.ra (i := j) (by rw [HL.out]; exact hlj)
            have hwl := HSP.out.w_le (i := j) (by rw [HL.out]; exact hlj)
            have hwe := HSP.out.w_eq (i := j) (by rw [HL.out]; exact hlj)
            obtain ⟨s, hs⟩ : ∃ s, su ys j = s := ⟨_, rfl⟩
            obtain ⟨s', hs'⟩ : ∃ s, su ys (j + 1) = s := ⟨_, rfl⟩
            obtain ⟨x, hx⟩ : ∃ x, iat zs j = x := ⟨_, rfl⟩
            obtain ⟨y, hy⟩ : ∃ x, iat ys j = x := ⟨_, rfl⟩
            obtain ⟨lo, hlo⟩ : ∃ x, ((qf t S zs j : Nat) : Int) = x := ⟨_, rfl⟩
            obtain ⟨hi_, hhi⟩ : ∃ x, lo + (if 0 < rf t S zs j then 1 else 0) = x := ⟨_, rfl⟩
            have hss : s + y = s' := by rw [← hs, ← hs', ← hy]; rfl
            rw [hs] at h1 ⊢
            rw [hs'] at h2
            rw [hx] at hc1 a1 a2 a3 a4 hwe
            rw [hy] at hg1 hyj hmid
            rw [hlo] at a2 a4 hmid
            rw [hhi] at a4 hmid
            have W2 : IntKind.i64.wrap (s + y) = s' := by rw [hss]; exact IntWalk.i64_in _ (by omega)
            have HS' := Lib.hid hs'
            have HXJ := Lib.hid hx
            have HYJ := Lib.hid hy
            have IX : Hid (In64 x) := Lib.hid (by unfold In64; omega)
            have IS : Hid (In64 (S : Int)) := Lib.hid (by unfold In64; omega)
            have A1 := Lib.hid a1
            have A2 := Lib.hid a2
            have A3 := Lib.hid a3
            have A4 := Lib.hid a4
            have g1 : decide (y < lo) = false := decide_eq_false (by omega)
            have g2 : decide (hi_ < y) = false := decide_eq_false (by omega)
            clear hs hs' hx hy hss h1 h2 a1 a2 a3 a4 hlo hhi hwl hwe hmid hyj hS1
            go_wp2_with fail
            refine (ratio18 T x (S : Int) 1 0 lo _ HTT.out IX.out IS.out A1.out A2.out).mono ?_
            rintro e w2 ⟨rfl, hb⟩
            replace HB := Lib.hid (upB HB.out hb)
            replace HZ1 := Lib.hid (HZ1.out.up hb)
            replace HG := Lib.hid (HG.out.up hb)
            clear hb hc1 hg1 hb1
            have hc1 := HZ1.out.two hlj
            have hb1 : b < w2.heap.size := by
              obtain ⟨b', off', e, hlt', _⟩ := HZ1.out.get hlj
              cases e
              exact hlt'
            rw [HXJ.out] at hc1
            go_wp2_with fail
            refine (ratio18 T x (S : Int) 2 0 hi_ _ HTT.out IX.out IS.out A3.out A4.out).mono ?_
            rintro e w3 ⟨rfl, hb⟩
            replace HB := Lib.hid (upB HB.out hb)
            replace HZ1 := Lib.hid (HZ1.out.up hb)
            replace HG := Lib.hid (HG.out.up hb)
            clear hb hc1 hb1
            go_wp2_with fail
            go_loopw [17, 98] (fun _ iv wr => ∃ k : Nat, k ≤ j ∧ iv = .int .i64 k ∧ Hid (Below w3.heap.size w3 wr)) (fun _ iv _ => j - (intOf iv).toNat)
            case atStart => exact ⟨0, by omega, rfl, Lib.hid (Below.refl _ _)⟩
            case round =>
              obtain ⟨k, hk, rfl, HBK⟩ := hrel
              by_cases hlk : k < j
              · have hlkI : (k : Int) < (j : Int) := by omega
                have hkiI : (k : Int) < (i : Int) := by omega
                have V1 : IntKind.i64.wrap ((k : Int) + 1) = (k : Int) + 1 := IntWalk.i64_in _ (by omega)
                have K1 := HZ1.out.up HBK.out
                have K2 := HG.out.up HBK.out
                have hck := K1.two (i := k) (by omega)
                have hcj := K1.two hlj
                have hgk := K2.two (i := k) (by omega)
                have hgj := K2.two hlj
                rw [Nat.zero_add] at hgk hgj
                have hord := HORD.out j k hlj hlk
                rw [HXJ.out] at hcj hord
                rw [HYJ.out] at hgj hord
                obtain ⟨xk, hxk⟩ : ∃ x, iat zs k = x := ⟨_, rfl⟩
                obtain ⟨yk, hyk⟩ : ∃ x, iat ys k = x := ⟨_, rfl⟩
                rw [hxk] at hck hord
                rw [hyk] at hgk hord
                have hbW := (K1.get hlj)
                have hgW := (K2.get hlj)
                obtain ⟨b', off', e1, hbl, _⟩ := hbW
                cases e1
                obtain ⟨b', off', e1, hgl, _⟩ := hgW
                cases e1
                clear K1 K2 hxk hyk
                by_cases hxx : x ≤ xk
                · have hyy := hord.1 hxx
                  have q1 : decide (x ≤ xk) = true := decide_eq_true hxx
                  have q2 : decide (yk < y) = false := decide_eq_false (by omega)
                  have q3 : decide (xk < x) = false := decide_eq_false (by omega)
                  clear hord hxx hyy
                  go_wp2_with fail
                  go_quiet (fail)
                  go_wp2_with fail
                  go_roundw
                  case rel => exact ⟨k + 1, by omega, by go_num, Lib.hid (below_drewN HBK.out nq)⟩
                  case measure => simp [intOf]; omega
                · have hyy := hord.2 (by omega)
                  have q1 : decide (x ≤ xk) = false := decide_eq_false hxx
                  have q2 : decide (y < yk) = false := decide_eq_false (by omega)
                  have q3 : decide (xk < x) = true := decide_eq_true (by omega)
                  clear hord hxx hyy
                  go_wp2_with fail
                  go_quiet (fail)
                  go_wp2_with fail
                  go_roundw
                  case rel => exact ⟨k + 1, by omega, by go_num, Lib.hid (below_drewN HBK.out nq)⟩
                  case measure => simp [intOf]; omega
              · have hlkI : ¬ (k : Int) < (j : Int) := by omega
                replace HB := Lib.hid (upB HB.out HBK.out)
                replace HZ1 := Lib.hid (HZ1.out.up HBK.out)
                replace HG := Lib.hid (HG.out.up HBK.out)
                go_wp2_with fail
                go_roundw
                case rel => exact ⟨j + 1, by omega, by go_num, by rw [HS'.out], HB, HZ1, HG⟩
                case measure => simp [intOf]; omega
          · obtain rfl : j = i := by omega
            have hljI : ¬ (j : Int) < (j : Int) := by omega
            rw [HSUM.out]
            have gt : (T == T) = true := by simp
            go_wp2_with fail
            refine (awake11 _ (HT.out.next HB.out)).mono ?_
            rintro e w2 ⟨rfl, hb⟩
            replace HB := Lib.hid (upB HB.out hb)
            clear hb
            go_wp2_with fail
            go_ret
            exact ⟨rfl, HB.out⟩
end Go.Proofs.YtjipcopfggnlkaaDoor.Wk
