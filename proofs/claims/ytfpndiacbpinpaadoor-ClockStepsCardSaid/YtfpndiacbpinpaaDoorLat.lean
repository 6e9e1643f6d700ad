/- Business days: plain mathematics, a map of bools that the call owns, and the contracts of Business and of Later. Conditions: the slice reads as a list. -/
import Derived.Test.YtfpndiacbpinpaaDoorSpr
import Derived.Maps.OwnSet
import Derived.Maps.Views
set_option linter.unusedSimpArgs false
set_option linter.unusedVariables false
namespace Go.Proofs.YtfpndiacbpinpaaDoor.Mt
def bd (cal : List Int) (y : Int) : Bool := decide (y % 7 < 5) && !decide (y ∈ cal)
def ltf (cal : List Int) : Nat → Int → Nat → Option Int
  | 0, x, n => if n = 0 then some x else none
  | f + 1, x, n => if n = 0 then some x else if bd cal (x + 1) = true then ltf cal f (x + 1) (n - 1) else ltf cal f (x + 1) n
theorem lt_zero (cal : List Int) (f : Nat) (x : Int) : ltf cal f x 0 = some x := by cases f <;> simp [ltf]
theorem lt_end {cal : List Int} {f : Nat} {x : Int} {n : Nat} (hf : f = 0) (h : 0 < n) : ltf cal f x n = none := by subst hf; rw [ltf, if_neg (by omega)]
theorem lt_hit {cal : List Int} {f : Nat} {x : Int} {n : Nat} (hf : 0 < f) (hn : 0 < n) (h : bd cal (x + 1) = true) : ltf cal f x n = ltf cal (f - 1) (x + 1) (n - 1) := by
  obtain ⟨g, rfl⟩ : ∃ g, f = g + 1 := ⟨f - 1, by omega⟩
  rw [ltf, if_neg (by omega), if_pos h]; rfl
theorem lt_miss {cal : List Int} {f : Nat} {x : Int} {n : Nat} (hf : 0 < f) (hn : 0 < n) (h : bd cal (x + 1) = false) : ltf cal f x n = ltf cal (f - 1) (x + 1) n := by
  obtain ⟨g, rfl⟩ : ∃ g, f = g + 1 := ⟨f - 1, by omega⟩
  rw [ltf, if_neg (by omega), if_neg (by simp [h])]; rfl
def fu (x : Int) : Nat := (795363 - x).toNat
def laterO : Option Int → Int × Int
  | some d => (d, 0)
  | none => (0, 12)
def laterS (cal : List Int) (day n : Int) : Int × Int :=
  if isD day = false then (0, 12) else if n < 0 ∨ 4096 < n then (0, 1) else laterO (ltf cal (fu day) day n.toNat)
theorem la_time {cal : List Int} {day n : Int} (h : isD day = false) : laterS cal day n = (0, 12) := by rw [laterS, if_pos h]
theorem la_arg {cal : List Int} {day n : Int} (h : isD day = true) (h2 : n < 0 ∨ 4096 < n) : laterS cal day n = (0, 1) := by rw [laterS, if_neg (by simp [h]), if_pos h2]
theorem la_ok {cal : List Int} {day : Int} {n : Nat} (h : isD day = true) (h2 : n ≤ 4096) : laterS cal day (n : Int) = laterO (ltf cal (fu day) day n) := by
  rw [laterS, if_neg (by simp [h]), if_neg (by omega)]; rfl
/-- is y among the first k that are greater than a day? -/
def sn (l : List Int) (day : Int) (k : Nat) (y : Int) : Bool := decide (∃ i, i < k ∧ day < l.getD i 0 ∧ l.getD i 0 = y)
theorem sn_zero (l : List Int) (day y : Int) : sn l day 0 y = false := by simp [sn]
theorem sn_same {l : List Int} {day : Int} {k : Nat} (h : day < l.getD k 0) : sn l day (k + 1) (l.getD k 0) = true := by
  simp only [sn, decide_eq_true_eq]; exact ⟨k, by omega, h, rfl⟩
theorem sn_other {l : List Int} {day y : Int} {k : Nat} (h : ¬ day < l.getD k 0 ∨ l.getD k 0 ≠ y) : sn l day (k + 1) y = sn l day k y := by
  unfold sn
  congr 1
  apply propext
  constructor
  · rintro ⟨i, hi, e1, e2⟩
    refine ⟨i, ?_, e1, e2⟩
    rcases Nat.lt_or_ge i k with h1 | h1
    · exact h1
    · have : i = k := by omega
      subst this
      rcases h with h | h
      · exact absurd e1 h
      · exact absurd e2 h
  · rintro ⟨i, hi, e⟩
    exact ⟨i, by omega, e⟩
theorem sn_all {l : List Int} {day y : Int} (h : day < y) : sn l day l.length y = decide (y ∈ l) := by
  unfold sn
  congr 1
  apply propext
  constructor
  · rintro ⟨i, hi, _, e⟩
    rw [List.getD_eq_getElem?_getD, List.getElem?_eq_getElem hi] at e
    simp at e
    rw [← e]; exact List.getElem_mem _
  · intro hm
    obtain ⟨i, hi, e⟩ := List.getElem_of_mem hm
    have e2 : l.getD i 0 = y := by rw [List.getD_eq_getElem?_getD, List.getElem?_eq_getElem hi]; simpa using e
    exact ⟨i, hi, by rw [e2]; exact h, e2⟩
end Go.Proofs.YtfpndiacbpinpaaDoor.Mt
namespace Go.Proofs.YtfpndiacbpinpaaDoor.Wk
open Go.RowKit
open Go.Proofs.YtfpndiacbpinpaaDoor.Mt
open Go.Maps (IsMap)
theorem plain_bool_inv {H : Type} {P : Program} {e : TypeId} (he : P.underlying e = some .bool) {v : Value} {z : DataW H × List MemPlace} (h : plainElem P e v = some z) : ∃ x, v = .bool x ∧ z = (.lit (.bool x), []) := by
  unfold plainElem at h
  rw [he] at h
  cases v <;> simp at h
  exact ⟨_, rfl, h.symm⟩
theorem lookup_bool {H : Type} {P : Program} {k t e : TypeId} {w : World} {b n : Nat} {D : DataW H} (h : w.ownsMap P k (plainElem P e) b n D) (K : Maps.Keyed P k) (ht : P.underlying t = some (.map k e)) (he : P.underlying e = some .bool) (hz : (zeroValue e).run P w = .ok (.bool false) w)
    {key : Value} {kl : Lit} (hkey : keyOf P k key = some kl) : ∃ c, (Instr.lookup t (.map (some b)) key false).run P w = .ok (.bool c) w ∧ D.atKey kl (.lit (.bool false)) = .lit (.bool c) := by
  obtain ⟨v, ps, hrun, hv⟩ := h.lookup K ht hz (plainElem_bool he false) hkey
  obtain ⟨c, rfl, hc⟩ := plain_bool_inv he hv
  simp only [Prod.mk.injEq] at hc
  exact ⟨c, hrun, hc.1⟩
theorem iat_get {l : List Int} {i : Nat} (h : i < l.length) : iat l i = l[i] := by simp [iat, h]
theorem iat_mem {l : List Int} {i : Nat} (h : i < l.length) : iat l i ∈ l := by rw [iat_get h]; exact List.getElem_mem _
def dm (l : List Int) (day : Int) : Nat → DataW Unit
  | 0 => .map []
  | k + 1 => if day < iat l k then (dm l day k).put (.int .i64 (iat l k)) (.lit (.bool true)) else dm l day k
theorem dm_map (l : List Int) (day : Int) (k : Nat) : IsMap (dm l day k) := by
  induction k with
  | zero => exact Maps.isMap_empty
  | succ k ih => unfold dm; split; exact ih.put _ _; exact ih
theorem dm_at (l : List Int) (day : Int) (k : Nat) (y : Int) : (dm l day k).atKey (.int .i64 y) (.lit (.bool false)) = .lit (.bool (sn l day k y)) := by
  induction k with
  | zero => rw [sn_zero]; rfl
  | succ k ih =>
    unfold dm
    by_cases h : day < iat l k
    · rw [if_pos h]
      by_cases e : iat l k = y
      · subst e
        rw [show sn l day (k + 1) (iat l k) = true from sn_same h]
        exact Maps.atKey_put_same (dm_map l day k) (by trivial) _ _
      · rw [sn_other (.inr e)]
        rw [Maps.atKey_put_other (by intro h2; injection h2 with _ h3; exact e h3.symm)]
        exact ih
    · rw [if_neg h, sn_other (.inl h)]; exact ih
structure Mo (w0 wr : World) (k : Nat) (D : DataW Unit) : Prop where
  bel : Below w0.heap.size w0 wr
  own : wr.ownsMap Tryd.prog 3 (plainElem Tryd.prog 4) w0.heap.size k D
theorem Mo.start (w : World) : Mo w (w.alloc (.map #[] 0)) 0 (.map []) := ⟨b1 _ _, World.ownsMap_made _ _ _ _⟩
theorem Mo.more {w0 wr : World} {k : Nat} {D : DataW Unit} (h : Mo w0 wr k D) : Mo w0 wr (k + 1) D := ⟨h.bel, h.own.mono (by omega)⟩
theorem Mo.put {w0 wr w1 : World} {k : Nat} {D D' : DataW Unit} (h : Mo w0 wr k D) (ho : w1.ownsMap Tryd.prog 3 (plainElem Tryd.prog 4) w0.heap.size (k + 1) D') (hg : wr.grownBy w1 (some w0.heap.size)) : Mo w0 w1 (k + 1) D' :=
  ⟨h.bel.grown hg h.bel.size (fun j hj => by injection hj with hj; omega), ho⟩
theorem zero_bool (w : World) : (zeroValue 4).run Tryd.prog w = .ok (.bool false) w := by kernel_rfl
theorem kint (y : Int) (h : -9223372036854775808 ≤ y ∧ y ≤ 9223372036854775807) : keyOf Tryd.prog 3 (.int .i64 y) = some (.int .i64 y) := Maps.keyOf_int_mk Tryd.underlying3 (by simpa [Lit.wf, IntKind.min, IntKind.max, IntKind.signed, IntKind.bits] using h)
theorem Bus_any (A : Option Addr) (m c : Nat) (cal : List Int) (y : Int) (w : World) (h : Ri w w.heap.size A m cal) : Calls Tryd.prog 31 #[.slice A m c, .int .i64 y] w fun e w' => e = .returned (.bool (isD y && bd cal y)) ∧ w = w' := by
  have hm := h.2.1
  have HL := Lib.hid h.1
  have HR := Lib.hid h
  clear h
  rcases fot (isD y) with hd | hd
  · have HS : Hid ((isD y && bd cal y) = false) := Lib.hid (by simp [hd])
    have HD := Lib.hid hd
    clear hd
    go_enter Tryd.func31, Tryd.ntmps31
    go_wp2_with fail
    refine (IsDay_any _ _).mono ?_
    rintro e w' ⟨rfl, rfl⟩
    rw [HD.out]
    go_wp2_with fail
    go_ret
    exact ⟨by rw [HS.out]; rfl, rfl⟩
  · obtain ⟨d0, d1⟩ := (isD_iff y).1 hd
    by_cases h5 : y % 7 < 5
    · have h5' : decide (4 < y % 7) = false := decide_eq_false (by omega)
      have HS : Hid ((isD y && bd cal y) = !decide (y ∈ cal)) := Lib.hid (by simp [hd, bd, h5])
      have HD := Lib.hid hd
      clear hd h5
      go_enter Tryd.func31, Tryd.ntmps31
      go_wp2_with fail
      refine (IsDay_any _ _).mono ?_
      rintro e w' ⟨rfl, rfl⟩
      rw [HD.out]
      go_wp2_with fail
      go_loop [5] (fun i => ∃ k : Nat, k ≤ m ∧ i = .int .i64 k ∧ Hid (∀ j, j < k → iat cal j ≠ y)) (fun i => m - (intOf i).toNat)
      case atStart => exact ⟨0, Nat.zero_le _, rfl, Lib.hid (fun j hj => by omega)⟩
      case round =>
        obtain ⟨k, hk, rfl, H⟩ := hrel
        by_cases hlt : k < m
        · obtain ⟨b, off, rfl, _, c1⟩ := HR.out.get hlt
          have hltI : (k : Int) < (m : Int) := by omega
          by_cases he : iat cal k = y
          · have HX : Hid ((!decide (y ∈ cal)) = false) := Lib.hid (by
              have : y ∈ cal := by
                rw [← he]; exact iat_mem (by rw [HL.out]; exact hlt)
              simp [this])
            have g : (iat cal k == y) = true := by simpa using he
            clear he
            go_wp2_with fail
            go_ret
            exact ⟨by rw [HS.out, HX.out]; rfl, rfl⟩
          · have HX : Hid (∀ j, j < k + 1 → iat cal j ≠ y) := Lib.hid (fun j hj => by
              rcases Nat.lt_or_ge j k with h1 | h1
              · exact H.out j h1
              · have : j = k := by omega
                subst this; exact he)
            have g : (iat cal k == y) = false := by simpa using he
            clear he
            go_wp2_with fail
            go_round
            case rel => exact ⟨k + 1, by omega, by go_num, HX⟩
            case measure => simp [intOf]; omega
        · have hltI : ¬ (k : Int) < (m : Int) := by omega
          have HX : Hid ((!decide (y ∈ cal)) = true) := Lib.hid (by
            have : y ∉ cal := fun hm => by
              obtain ⟨i, hi, e⟩ := List.getElem_of_mem hm
              exact H.out i (by have := HL.out; omega) (by rw [iat_get hi]; exact e)
            simp [this])
          go_wp2_with fail
          go_ret
          exact ⟨by rw [HS.out, HX.out]; rfl, rfl⟩
    · have h5' : decide (4 < y % 7) = true := decide_eq_true (by omega)
      have HS : Hid ((isD y && bd cal y) = false) := Lib.hid (by simp [bd, h5])
      have HD := Lib.hid hd
      clear hd h5
      go_enter Tryd.func31, Tryd.ntmps31
      go_wp2_with fail
      refine (IsDay_any _ _).mono ?_
      rintro e w' ⟨rfl, rfl⟩
      rw [HD.out]
      go_wp2_with fail
      go_ret
      exact ⟨by rw [HS.out]; rfl, rfl⟩
set_option maxHeartbeats 4000000 in
set_option maxRecDepth 100000 in
theorem later_any (A : Option Addr) (m c : Nat) (cal : List Int) (day n : Int) (w : World) (h : Ri w w.heap.size A m cal) (hrg : ∀ i, -9223372036854775808 ≤ iat cal i ∧ iat cal i ≤ 9223372036854775807) :
    Calls Tryd.prog 29 #[.slice A m c, .int .i64 day, .int .i64 n] w fun e w' => e = .returned (.tuple #[.int .i64 (laterS cal day n).1, .int .i64 (laterS cal day n).2]) ∧ Below w.heap.size w w' := by
  have HRG := Lib.hid hrg
  clear hrg
  have hm := h.2.1
  have HL := Lib.hid h.1
  have HR := Lib.hid h
  clear h
  rcases fot (isD day) with hd | hd
  · have HS := Lib.hid (la_time (cal := cal) (n := n) hd)
    have HD := Lib.hid hd
    clear hd
    go_enter Tryd.func29, Tryd.ntmps29
    go_wp2_with fail
    refine (validDay_any _ _).mono ?_
    rintro e w' ⟨rfl, rfl⟩
    rw [HD.out]
    go_wp2_with fail
    go_ret2
    exact ⟨by rw [HS.out]; rfl, Below.refl _ _⟩
  obtain ⟨d0, d1⟩ := (isD_iff day).1 hd
  by_cases q1 : n < 0
  · have HS := Lib.hid (la_arg (cal := cal) (n := n) hd (by omega))
    have HD := Lib.hid hd
    clear hd
    go_enter Tryd.func29, Tryd.ntmps29
    go_wp2_with fail
    refine (validDay_any _ _).mono ?_
    rintro e w' ⟨rfl, rfl⟩
    rw [HD.out]
    go_wp2_with fail
    go_ret2
    exact ⟨by rw [HS.out]; rfl, Below.refl _ _⟩
  by_cases q2 : 4096 < n
  · have HS := Lib.hid (la_arg (cal := cal) (n := n) hd (by omega))
    have HD := Lib.hid hd
    clear hd
    go_enter Tryd.func29, Tryd.ntmps29
    go_wp2_with fail
    refine (validDay_any _ _).mono ?_
    rintro e w' ⟨rfl, rfl⟩
    rw [HD.out]
    go_wp2_with fail
    go_ret2
    exact ⟨by rw [HS.out]; rfl, Below.refl _ _⟩
  obtain ⟨n, rfl⟩ : ∃ k : Nat, n = (k : Int) := ⟨n.toNat, by omega⟩
  have hn : n ≤ 4096 := by omega
  have HS := Lib.hid (la_ok (cal := cal) hd hn)
  have HD := Lib.hid hd
  clear hd
  have hmm := @run_makeMap Tryd.prog
  go_enter Tryd.func29, Tryd.ntmps29
  go_wp2_with fail
  refine (validDay_any _ _).mono ?_
  rintro e w' ⟨rfl, rfl⟩
  rw [HD.out]
  go_wp2_with fail
  go_loopw [23] (fun i wr => ∃ k : Nat, k ≤ m ∧ i = .int .i64 k ∧ Hid (Mo w wr k (dm cal day k))) (fun i _ => m - (intOf i).toNat)
  case atStart => exact ⟨0, Nat.zero_le _, rfl, Lib.hid (Mo.start w)⟩
  case round =>
    obtain ⟨k, hk, rfl, HM⟩ := hrel
    by_cases hlt : k < m
    · have hltI : (k : Int) < (m : Int) := by omega
      obtain ⟨b, off, rfl, _, c1⟩ := (HR.out.below HM.out.bel (Nat.le_refl _)).get hlt
      by_cases he : day < iat cal k
      · have HN : Hid (dm cal day (k + 1) = (dm cal day k).put (.int .i64 (iat cal k)) (.lit (.bool true))) := Lib.hid (by rw [dm, if_pos he])
        have hr := HRG.out k
        have HK := Lib.hid (kint _ hr)
        clear hr
        go_wp2_with (at_mapUpdate; refine wpList_mapUpdate_own _ rfl _ _ _ 55 rfl 3 4 (Maps.int_keyed Tryd.underlying3) Tryd.underlying55 _ w.heap.size k _ rfl HM.out.own (by unfold maxLen; omega) _ _ _ rfl rfl HK.out _ [] (plainElem_bool Tryd.underlying4 true) ?_)
        intro w1 hown1 hgrow1
        have HM1 := Lib.hid (HM.out.put (hown1) hgrow1)
        clear hown1 hgrow1
        go_wp2_with fail
        go_roundw
        case rel => exact ⟨k + 1, by omega, by go_num, Lib.hid (by rw [HN.out]; exact HM1.out)⟩
        case measure => simp [intOf]; omega
      · have HN : Hid (dm cal day (k + 1) = dm cal day k) := Lib.hid (by rw [dm, if_neg he])
        go_wp2_with fail
        go_roundw
        case rel => exact ⟨k + 1, by omega, by go_num, Lib.hid (by rw [HN.out]; exact HM.out.more)⟩
        case measure => simp [intOf]; omega
    · have hltI : ¬ (k : Int) < (m : Int) := by omega
      obtain rfl : k = m := by omega
      go_wp2_with fail
      go_loop [1, 2] (fun dd nn => ∃ (x : Int) (j : Nat), day ≤ x ∧ x < 795364 ∧ j ≤ 4096 ∧ dd = .int .i64 x ∧ nn = .int .i64 j ∧ Hid (ltf cal (fu x) x j = ltf cal (fu day) day n)) (fun dd _ => (795364 - intOf dd).toNat)
      case atStart => exact ⟨day, n, by omega, by omega, hn, rfl, rfl, Lib.hid rfl⟩
      case round =>
        obtain ⟨x, j, hx0, hx1, hj, rfl, rfl, HE⟩ := hrel
        rcases Nat.eq_zero_or_pos j with rfl | hj0
        · have HX : Hid (laterS cal day (n : Int) = (x, 0)) := Lib.hid (by rw [HS.out, ← HE.out, lt_zero]; rfl)
          go_wp2_with fail
          go_ret2
          exact ⟨by rw [HX.out]; rfl, HM.out.bel⟩
        · have hj1 : (0 : Int) < (j : Int) := by omega
          by_cases hl : x + 1 < 795364
          · have HV : Hid (isD (x + 1) = true) := Lib.hid ((isD_iff _).2 ⟨by omega, hl⟩)
            have HW : Hid (wdS (x + 1) = (x + 1) % 7) := Lib.hid (by unfold wdS; rw [if_pos HV.out])
            have hfu : 0 < fu x := by unfold fu; omega
            have HF : Hid (fu x - 1 = fu (x + 1)) := Lib.hid (by unfold fu; omega)
            have HNI : Hid ((j : Int) - 1 = ((j - 1 : Nat) : Int)) := Lib.hid (by omega)
            obtain ⟨fc, hrun, hat⟩ := lookup_bool (e := 4) (t := 55) HM.out.own (Maps.int_keyed Tryd.underlying3) Tryd.underlying55 Tryd.underlying4 (zero_bool _) (kint (x + 1) (by omega))
            have HC : Hid (fc = decide (x + 1 ∈ cal)) := Lib.hid (by
              rw [dm_at] at hat
              injection hat with hat
              injection hat with hat
              rw [← hat, ← HL.out, sn_all (by omega)])
            clear hat
            by_cases hw : (x + 1) % 7 < 5
            · rcases fot fc with rfl | rfl
              · have HB : Hid (ltf cal (fu (x + 1)) (x + 1) (j - 1) = ltf cal (fu day) day n) := Lib.hid (by
                  rw [← HE.out, lt_hit hfu hj0 (by unfold bd; rw [← HC.out]; simp [hw]), HF.out])
                go_wp2_with (first | (go_at_call 34; refine (validDay_any _ _).mono ?_; rintro e w' ⟨rfl, rfl⟩; rw [HV.out]) | (go_at_call 17; refine (wd_any _ _).mono ?_; rintro e w' ⟨rfl, rfl⟩; rw [HW.out]))
                go_round
                case rel => exact ⟨x + 1, j - 1, by omega, by omega, by omega, rfl, congrArg _ HNI.out, HB⟩
                case measure => simp [intOf]; omega
              · have HB : Hid (ltf cal (fu (x + 1)) (x + 1) j = ltf cal (fu day) day n) := Lib.hid (by
                  rw [← HE.out, lt_miss hfu hj0 (by unfold bd; rw [← HC.out]; simp), HF.out])
                go_wp2_with (first | (go_at_call 34; refine (validDay_any _ _).mono ?_; rintro e w' ⟨rfl, rfl⟩; rw [HV.out]) | (go_at_call 17; refine (wd_any _ _).mono ?_; rintro e w' ⟨rfl, rfl⟩; rw [HW.out]))
                go_round
                case rel => exact ⟨x + 1, j, by omega, by omega, by omega, rfl, rfl, HB⟩
                case measure => simp [intOf]; omega
            · have hw' : decide ((x + 1) % 7 < 5) = false := decide_eq_false hw
              have HB : Hid (ltf cal (fu (x + 1)) (x + 1) j = ltf cal (fu day) day n) := Lib.hid (by
                  rw [← HE.out, lt_miss hfu hj0 (by unfold bd; rw [hw']; rfl), HF.out])
              clear hw
              go_wp2_with (first | (go_at_call 34; refine (validDay_any _ _).mono ?_; rintro e w' ⟨rfl, rfl⟩; rw [HV.out]) | (go_at_call 17; refine (wd_any _ _).mono ?_; rintro e w' ⟨rfl, rfl⟩; rw [HW.out]))
              go_round
              case rel => exact ⟨x + 1, j, by omega, by omega, by omega, rfl, rfl, HB⟩
              case measure => simp [intOf]; omega
          · have HV : Hid (isD (x + 1) = false) := Lib.hid ((isD_no _).2 (by omega))
            have HX : Hid (laterS cal day (n : Int) = (0, 12)) := Lib.hid (by rw [HS.out, ← HE.out, lt_end (by unfold fu; omega) hj0]; rfl)
            go_wp2_with (first | (go_at_call 34; refine (validDay_any _ _).mono ?_; rintro e w' ⟨rfl, rfl⟩; rw [HV.out]))
            go_ret2
            exact ⟨by rw [HX.out]; rfl, HM.out.bel⟩
set_option maxHeartbeats 4000000 in
set_option maxRecDepth 100000 in
theorem Later_any (A : Option Addr) (m c : Nat) (cal : List Int) (day n : Int) (w : World) (h : Ri w w.heap.size A m cal) :
    Calls Tryd.prog 30 #[.slice A m c, .int .i64 day, .int .i64 n] w fun e w' => e = .returned (.tuple #[.int .i64 (laterS cal day n).1, .int .i64 (laterS cal day n).2]) ∧ Below w.heap.size w w' := by
  have hm := h.2.1
  have HL := Lib.hid h.1
  have HR := Lib.hid h
  clear h
  rcases fot (isD day) with hd | hd
  · have HS := Lib.hid (la_time (cal := cal) (n := n) hd)
    have HD := Lib.hid hd
    clear hd
    go_enter Tryd.func30, Tryd.ntmps30
    go_wp2_with fail
    refine (IsDay_any _ _).mono ?_
    rintro e w' ⟨rfl, rfl⟩
    rw [HD.out]
    go_wp2_with fail
    go_ret2
    exact ⟨by rw [HS.out]; rfl, Below.refl _ _⟩
  obtain ⟨d0, d1⟩ := (isD_iff day).1 hd
  by_cases q1 : n < 0
  · have HS := Lib.hid (la_arg (cal := cal) (n := n) hd (by omega))
    have HD := Lib.hid hd
    clear hd
    go_enter Tryd.func30, Tryd.ntmps30
    go_wp2_with fail
    refine (IsDay_any _ _).mono ?_
    rintro e w' ⟨rfl, rfl⟩
    rw [HD.out]
    go_wp2_with fail
    go_ret2
    exact ⟨by rw [HS.out]; rfl, Below.refl _ _⟩
  by_cases q2 : 4096 < n
  · have HS := Lib.hid (la_arg (cal := cal) (n := n) hd (by omega))
    have HD := Lib.hid hd
    clear hd
    go_enter Tryd.func30, Tryd.ntmps30
    go_wp2_with fail
    refine (IsDay_any _ _).mono ?_
    rintro e w' ⟨rfl, rfl⟩
    rw [HD.out]
    go_wp2_with fail
    go_ret2
    exact ⟨by rw [HS.out]; rfl, Below.refl _ _⟩
  obtain ⟨n, rfl⟩ : ∃ k : Nat, n = (k : Int) := ⟨n.toNat, by omega⟩
  have hn : n ≤ 4096 := by omega
  have HS := Lib.hid (la_ok (cal := cal) hd hn)
  have HD := Lib.hid hd
  clear hd
  go_enter Tryd.func30, Tryd.ntmps30
  go_wp2_with fail
  refine (IsDay_any _ _).mono ?_
  rintro e w' ⟨rfl, rfl⟩
  rw [HD.out]
  go_wp2_with fail
  go_loop [8, 9] (fun dd kk => ∃ (x : Int) (k : Nat), 0 ≤ x ∧ x < 795364 ∧ k ≤ n ∧ dd = .int .i64 x ∧ kk = .int .i64 k ∧ Hid (ltf cal (fu x) x (n - k) = ltf cal (fu day) day n)) (fun _ kk => n - (intOf kk).toNat)
  case atStart => exact ⟨day, 0, by omega, by omega, by omega, rfl, rfl, Lib.hid rfl⟩
  case round =>
    obtain ⟨x, k, hx0, hx1, hk, rfl, rfl, HE⟩ := hrel
    by_cases hlt : k < n
    · have hltI : (k : Int) < (n : Int) := by omega
      go_wp2_with fail
      go_loop [8] (fun dd => ∃ z : Int, 0 ≤ z ∧ z < 795364 ∧ dd = .int .i64 (z + 1) ∧ Hid (ltf cal (fu z) z (n - k) = ltf cal (fu day) day n)) (fun dd => (795365 - intOf dd).toNat)
      case atStart => exact ⟨x, hx0, hx1, rfl, HE⟩
      case round =>
        clear HE
        obtain ⟨z, hz0, hz1, rfl, HE⟩ := hrel
        by_cases hl : z + 1 < 795364
        · have HV : Hid (isD (z + 1) = true) := Lib.hid ((isD_iff _).2 ⟨by omega, hl⟩)
          have hfu : 0 < fu z := by unfold fu; omega
          have HF : Hid (fu z - 1 = fu (z + 1)) := Lib.hid (by unfold fu; omega)
          rcases fot (bd cal (z + 1)) with hb | hb
          · have HB : Hid (ltf cal (fu (z + 1)) (z + 1) (n - k) = ltf cal (fu day) day n) := Lib.hid (by rw [← HE.out, lt_miss hfu (by omega) hb, HF.out])
            have HQ : Hid ((isD (z + 1) && bd cal (z + 1)) = false) := Lib.hid (by rw [hb]; simp)
            clear hb
            go_wp2_with (first | (go_at_call 35; refine (IsDay_any _ _).mono ?_; rintro e w' ⟨rfl, rfl⟩; rw [HV.out]) | (go_at_call 31; refine (Bus_any _ _ _ _ _ _ HR.out).mono ?_; rintro e w' ⟨rfl, rfl⟩; rw [HQ.out]))
            go_round
            case rel => exact ⟨z + 1, by omega, by omega, rfl, HB⟩
            case measure => simp [intOf]; omega
          · have HB : Hid (ltf cal (fu (z + 1)) (z + 1) (n - (k + 1)) = ltf cal (fu day) day n) := Lib.hid (by rw [← HE.out, lt_hit hfu (by omega) hb, HF.out]; congr 1)
            have HQ : Hid ((isD (z + 1) && bd cal (z + 1)) = true) := Lib.hid (by rw [hb, HV.out]; simp)
            clear hb
            go_wp2_with (first | (go_at_call 35; refine (IsDay_any _ _).mono ?_; rintro e w' ⟨rfl, rfl⟩; rw [HV.out]) | (go_at_call 31; refine (Bus_any _ _ _ _ _ _ HR.out).mono ?_; rintro e w' ⟨rfl, rfl⟩; rw [HQ.out]))
            go_round
            case rel => exact ⟨z + 1, k + 1, by omega, by omega, by omega, rfl, by go_num, HB⟩
            case measure => simp [intOf]; omega
        · have HV : Hid (isD (z + 1) = false) := Lib.hid ((isD_no _).2 (by omega))
          have HX : Hid (laterS cal day (n : Int) = (0, 12)) := Lib.hid (by rw [HS.out, ← HE.out, lt_end (by unfold fu; omega) (by omega)]; rfl)
          go_wp2_with (first | (go_at_call 35; refine (IsDay_any _ _).mono ?_; rintro e w' ⟨rfl, rfl⟩; rw [HV.out]))
          go_ret2
          exact ⟨by rw [HX.out]; rfl, Below.refl _ _⟩
    · have hltI : ¬ (k : Int) < (n : Int) := by omega
      have HX : Hid (laterS cal day (n : Int) = (x, 0)) := Lib.hid (by rw [HS.out, ← HE.out, show n - k = 0 by omega, lt_zero]; rfl)
      go_wp2_with fail
      go_ret2
      exact ⟨by rw [HX.out]; rfl, Below.refl _ _⟩
end Go.Proofs.YtfpndiacbpinpaaDoor.Wk
