/- Whether a state comes before another one, in the layer and in its reference. No condition. -/
import Derived.Test.YtgghnamjjgmimaaDoorMr
import Derived.Laws.Cover1
set_option linter.unusedSimpArgs false
set_option linter.unusedVariables false
namespace Go.Proofs.YtgghnamjjgmimaaDoor.Mt
open Go
abbrev Ts : Type := ByteArray × Int × Int
def ls (a b : ByteArray) : Bool := Op.bytesLess a.toList b.toList
def eqb (a b : ByteArray) : Bool := a.toList == b.toList
theorem less_flip : ∀ a b : List UInt8, a ≠ b → Op.bytesLess a b = !Op.bytesLess b a := by
  intro a
  induction a with
  | nil =>
    intro b h
    cases b with
    | nil => exact absurd rfl h
    | cons y b => rfl
  | cons x a ih =>
    intro b h
    cases b with
    | nil => rfl
    | cons y b =>
      simp only [Op.bytesLess]
      by_cases e : x = y
      · subst e
        have hab : a ≠ b := fun k => h (by rw [k])
        have hx : ¬ x < x := by rw [UInt8.lt_iff_toNat_lt]; omega
        simp [hx, ih b hab]
      · have hne : x.toNat ≠ y.toNat := fun k => e (UInt8.toNat_inj.1 k)
        by_cases l : x < y
        · have l2 : ¬ y < x := by rw [UInt8.lt_iff_toNat_lt] at l ⊢; omega
          have e2 : ¬ y = x := fun k => e k.symm
          simp [l, l2, e2]
        · have l2 : y < x := by rw [UInt8.lt_iff_toNat_lt] at l ⊢; omega
          simp [l, l2, e]
theorem less_self : ∀ a : List UInt8, Op.bytesLess a a = false := by
  intro a
  induction a with
  | nil => rfl
  | cons x a ih =>
    have hx : ¬ x < x := by rw [UInt8.lt_iff_toNat_lt]; omega
    simp [Op.bytesLess, ih, hx]
theorem eqb_yes {a b : ByteArray} (h : eqb a b = true) : a.toList = b.toList := by unfold eqb at h; simpa using h
theorem eqb_no {a b : ByteArray} (h : eqb a b = false) : a.toList ≠ b.toList := by unfold eqb at h; simpa using h
theorem ls_self {a b : ByteArray} (h : eqb a b = true) : ls a b = false := by unfold ls; rw [eqb_yes h]; exact less_self _
theorem ls_flip {a b : ByteArray} (h : eqb a b = false) : ls a b = !ls b a := less_flip _ _ (eqb_no h)
theorem eqb_symm (a b : ByteArray) : eqb a b = eqb b a := by
  unfold eqb
  by_cases h : a.toList = b.toList
  · rw [h]
  · have h2 : ¬ b.toList = a.toList := fun k => h k.symm
    rw [beq_false_of_ne h, beq_false_of_ne h2]
theorem eqb_iff {a b : ByteArray} : eqb a b = true ↔ a = b := by
  constructor
  · intro h
    have := eqb_yes h
    rw [ByteArray.toList_eq, ByteArray.toList_eq] at this
    apply ByteArray.ext
    exact Array.toList_inj.1 this
  · intro h; subst h; unfold eqb; simp
/-- does state p come before state x? -/
def bf (p x : Ts) : Bool := if eqb p.1 x.1 then decide (p.2.1 < x.2.1) else ls p.1 x.1
def cB (a b : ByteArray) : Int := if ls a b then -1 else if eqb a b then 0 else 1
def cI (a b : Int) : Int := if a < b then -1 else if b < a then 1 else 0
def cO (a b : Int) : Int := if a = 0 then b else a
theorem c_in (p x : Ts) : -1 ≤ cO (cB p.1 x.1) (cI p.2.1 x.2.1) ∧ cO (cB p.1 x.1) (cI p.2.1 x.2.1) ≤ 1 := by
  unfold cO cB cI
  repeat' split
  all_goals omega
theorem cmp_bf (p x : Ts) : decide (0 ≤ cO (cB p.1 x.1) (cI p.2.1 x.2.1)) = !bf p x := by
  unfold bf cO cB
  cases h : eqb p.1 x.1
  · cases h2 : ls p.1 x.1 <;> simp
  · have h2 := ls_self h
    rw [h2]
    simp only [Bool.false_eq_true, if_false, if_true]
    unfold cI
    by_cases q : p.2.1 < x.2.1
    · simp [q]
    · by_cases q2 : x.2.1 < p.2.1
      · simp [q, q2]
      · simp [q, q2]
end Go.Proofs.YtgghnamjjgmimaaDoor.Mt
namespace Go.Proofs.YtgghnamjjgmimaaDoor.Wk
open Go.RowKit
open Go.Proofs.YtgghnamjjgmimaaDoor.Mt
theorem nan36 (x : ByteArray) (w : World) : Calls Tryd.prog 36 #[.string x] w fun e w' => e = .returned (.bool false) ∧ w = w' := by
  go_enter Tryd.func36, Tryd.ntmps36
  go_wp2_with fail
  go_ret
  exact ⟨by simp, rfl⟩
theorem nan37 (x : Int) (w : World) : Calls Tryd.prog 37 #[.int .i64 x] w fun e w' => e = .returned (.bool false) ∧ w = w' := by
  go_enter Tryd.func37, Tryd.ntmps37
  go_wp2_with fail
  go_ret
  exact ⟨by simp, rfl⟩
theorem cmp33 (x y : ByteArray) (w : World) : Calls Tryd.prog 33 #[.string x, .string y] w fun e w' => e = .returned (.int .i64 (cB x y)) ∧ w = w' := by
  obtain ⟨p, hp⟩ : ∃ p, Op.bytesLess x.toList y.toList = p := ⟨_, rfl⟩
  obtain ⟨q, hq⟩ : ∃ q, (x.toList == y.toList) = q := ⟨_, rfl⟩
  have HE : Hid (cB x y = if p then -1 else if q then 0 else 1) := Lib.hid (by unfold cB ls eqb; rw [hp, hq])
  rcases fot p with rfl | rfl
  · rcases fot q with rfl | rfl
    · go_enter Tryd.func33, Tryd.ntmps33
      go_wp2_with (go_at_call 36; refine (nan36 _ _).mono ?_; rintro e w' ⟨rfl, rfl⟩)
      go_ret
      exact ⟨by rw [HE.out]; rfl, rfl⟩
    · go_enter Tryd.func33, Tryd.ntmps33
      go_wp2_with (go_at_call 36; refine (nan36 _ _).mono ?_; rintro e w' ⟨rfl, rfl⟩)
      go_ret
      exact ⟨by rw [HE.out]; rfl, rfl⟩
  · go_enter Tryd.func33, Tryd.ntmps33
    go_wp2_with (go_at_call 36; refine (nan36 _ _).mono ?_; rintro e w' ⟨rfl, rfl⟩)
    go_ret
    exact ⟨by rw [HE.out]; rfl, rfl⟩
theorem cmp34 (x y : Int) (w : World) : Calls Tryd.prog 34 #[.int .i64 x, .int .i64 y] w fun e w' => e = .returned (.int .i64 (cI x y)) ∧ w = w' := by
  unfold cI
  by_cases h1 : x < y
  · rw [if_pos h1]
    go_enter Tryd.func34, Tryd.ntmps34
    go_wp2_with (go_at_call 37; refine (nan37 _ _).mono ?_; rintro e w' ⟨rfl, rfl⟩)
    go_ret
    exact ⟨rfl, rfl⟩
  · have h1' : decide (x < y) = false := decide_eq_false h1
    rw [if_neg h1]
    by_cases h2 : y < x
    · rw [if_pos h2]
      go_enter Tryd.func34, Tryd.ntmps34
      go_wp2_with (go_at_call 37; refine (nan37 _ _).mono ?_; rintro e w' ⟨rfl, rfl⟩)
      go_ret
      exact ⟨rfl, rfl⟩
    · have h2' : decide (y < x) = false := decide_eq_false h2
      rw [if_neg h2]
      go_enter Tryd.func34, Tryd.ntmps34
      go_wp2_with (go_at_call 37; refine (nan37 _ _).mono ?_; rintro e w' ⟨rfl, rfl⟩)
      go_ret
      exact ⟨rfl, rfl⟩
theorem or32 (g : Nat) (a b : Int) (w : World) (h : Bx w g 3 #[.int .i64 a, .int .i64 b]) : Calls Tryd.prog 32 #[.slice (some ⟨g, 0, none⟩) 2 2] w fun e w' => e = .returned (.int .i64 (cO a b)) ∧ Below w.heap.size w w' := by
  have HX := Lib.hid h
  clear h
  go_enter Tryd.func32, Tryd.ntmps32
  go_wp2_with fail
  go_loopw [8] (fun iv wr => ∃ k : Nat, k ≤ 2 ∧ iv = .int .i64 k ∧ Hid (1 ≤ k → a = 0) ∧ Hid (2 ≤ k → b = 0) ∧ Hid (Below w.heap.size w wr)) (fun iv _ => 2 - (intOf iv).toNat)
  case atStart => exact ⟨0, by omega, rfl, Lib.hid (fun h => by omega), Lib.hid (fun h => by omega), Lib.hid (Below.refl _ _)⟩
  case round =>
    obtain ⟨k, hk, rfl, H1, H2, HB⟩ := hrel
    obtain ⟨c0, c1⟩ := (HX.out.next HB.out).cells2
    have hl := (HX.out.next HB.out).lt
    rcases k with _ | _ | _ | k
    · by_cases h0 : a = 0
      · have e1 : (a != 0) = false := by simp [h0]
        have H1' : Hid (1 ≤ 0 + 1 → a = 0) := Lib.hid (fun _ => h0)
        have H2' : Hid (2 ≤ 0 + 1 → b = 0) := Lib.hid (fun h => by omega)
        clear h0
        go_wp2_with fail
        go_roundw
        case rel => exact ⟨0 + 1, by omega, by first | rfl | go_num, H1', H2', HB⟩
        case measure => simp [intOf]
      · have e1 : (a != 0) = true := by simp [h0]
        have HE : Hid (cO a b = a) := Lib.hid (if_neg h0)
        clear h0
        go_wp2_with fail
        go_ret
        exact ⟨by first | (rw [HE.out]; done) | (rw [HE.out]; rfl), HB.out⟩
    · by_cases h0 : b = 0
      · have e1 : (b != 0) = false := by simp [h0]
        have H2' : Hid (2 ≤ 1 + 1 → b = 0) := Lib.hid (fun _ => h0)
        have H1' : Hid (1 ≤ 1 + 1 → a = 0) := Lib.hid (fun _ => H1.out (by omega))
        clear h0
        go_wp2_with fail
        go_roundw
        case rel => exact ⟨1 + 1, by omega, by first | rfl | go_num, H1', H2', HB⟩
        case measure => simp [intOf]
      · have e1 : (b != 0) = true := by simp [h0]
        have HE : Hid (cO a b = b) := Lib.hid (if_pos (H1.out (by omega)))
        clear h0
        go_wp2_with fail
        go_ret
        exact ⟨by first | (rw [HE.out]; done) | (rw [HE.out]; rfl), HB.out⟩
    · have HE : Hid (cO a b = 0) := Lib.hid (by unfold cO; rw [if_pos (H1.out (by omega))]; exact H2.out (by omega))
      go_wp2_with fail
      go_ret
      exact ⟨by rw [HE.out]; rfl, HB.out⟩
    · omega
def tv (x : Ts) : Value := .agg #[.string x.1, .int .i64 x.2.1, .int .i64 x.2.2]
set_option maxHeartbeats 1000000 in
theorem after30 (a b : ByteArray) (f1 f2 s1 s2 : Int) (w : World) : Calls Tryd.prog 30 #[.agg #[.string a, .int .i64 f1, .int .i64 s1], .agg #[.string b, .int .i64 f2, .int .i64 s2]] w fun e w' => e = .returned (.bool (bf (b, f2, s2) (a, f1, s1))) ∧ Below w.heap.size w w' := by
  obtain ⟨p, hp⟩ : ∃ p, Op.bytesLess a.toList b.toList = p := ⟨_, rfl⟩
  obtain ⟨q, hq⟩ : ∃ q, (a.toList == b.toList) = q := ⟨_, rfl⟩
  have he : eqb b a = q := by rw [eqb_symm]; exact hq
  rcases fot q with rfl | rfl
  · have HE : Hid (bf (b, f2, s2) (a, f1, s1) = !p) := Lib.hid (by
      unfold bf
      simp only
      rw [he, if_neg (by simp), ls_flip he]
      unfold ls; rw [hp])
    clear he
    go_enter Tryd.func30, Tryd.ntmps30
    go_wp2_with fail
    go_ret
    exact ⟨by rw [HE.out]; simp, (b1 _ _).trans ((b1 _ _).mono (by simp))⟩
  · have HE : Hid (bf (b, f2, s2) (a, f1, s1) = decide (f2 < f1)) := Lib.hid (by
      unfold bf
      simp only
      rw [he, if_pos rfl])
    clear he
    go_enter Tryd.func30, Tryd.ntmps30
    go_wp2_with fail
    go_ret
    exact ⟨by rw [HE.out]; rfl, (b1 _ _).trans ((b1 _ _).mono (by simp))⟩
end Go.Proofs.YtgghnamjjgmimaaDoor.Wk
