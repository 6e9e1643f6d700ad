/- The sort of intervals by their beginnings: a permutation, ascending. Conditions: the cells read as intervals. -/
import Derived.Test.YtmdkhnndfhcfdaaSp
import Derived.Test.YtmdkhnndfhcfdaaLaid
import Derived.Shelf.SlSortCmp.NoneTotal
set_option linter.unusedSimpArgs false
set_option linter.unusedVariables false
namespace Go.Proofs.Ytmdkhnndfhcfdaa.Wk
open Go.RowKit Go.Shelf Go.Lib Go.Sort
open Go.Proofs.Ytmdkhnndfhcfdaa.Mt
def encIv (x : Int × Int) : List Value := [.int .i64 x.1, .int .i64 x.2]
def cfIv (x y : Int × Int) : Int := if x.1 < y.1 then -1 else if y.1 < x.1 then 1 else 0
theorem ltIv (x y : Int × Int) : ltOf cfIv x y = decide (x.1 < y.1) := by
  unfold ltOf cfIv
  by_cases h1 : x.1 < y.1
  · simp [h1]
  · by_cases h2 : y.1 < x.1 <;> simp [h1, h2]
theorem swoIv : SWO (ltOf cfIv) where
  irrefl x := by rw [ltIv]; simp
  trans x y z h1 h2 := by rw [ltIv] at *; simp at *; omega
  ntrans x y z h1 h2 := by rw [ltIv] at *; simp at *; omega
theorem nan41 (x : Int) (w : World) : Calls Try.prog 41 #[.int .i64 x] w fun e w' => e = .returned (.bool false) ∧ w = w' := by
  go_enter Try.func41, Try.ntmps41
  go_wp2_with fail
  go_ret
  exact ⟨rfl, rfl⟩
theorem cmp36 (x y : Int) (w : World) : Calls Try.prog 36 #[.int .i64 x, .int .i64 y] w fun e w' => e = .returned (.int .i64 (if x < y then -1 else if y < x then 1 else 0)) ∧ w = w' := by
  by_cases h1 : x < y
  · rw [if_pos h1]
    go_enter Try.func36, Try.ntmps36
    go_wp2_with (go_at_call 41; refine (nan41 _ _).mono ?_; rintro e w' ⟨rfl, rfl⟩)
    go_ret
    exact ⟨rfl, rfl⟩
  · have h1' : decide (x < y) = false := decide_eq_false h1
    rw [if_neg h1]
    by_cases h2 : y < x
    · rw [if_pos h2]
      go_enter Try.func36, Try.ntmps36
      go_wp2_with (go_at_call 41; refine (nan41 _ _).mono ?_; rintro e w' ⟨rfl, rfl⟩)
      go_ret
      exact ⟨rfl, rfl⟩
    · have h2' : decide (y < x) = false := decide_eq_false h2
      rw [if_neg h2]
      go_enter Try.func36, Try.ntmps36
      go_wp2_with (go_at_call 41; refine (nan41 _ _).mono ?_; rintro e w' ⟨rfl, rfl⟩)
      go_ret
      exact ⟨rfl, rfl⟩
theorem clo35 (x y : Int × Int) (w : World) : Calls Try.prog 35 #[.agg #[.int .i64 x.1, .int .i64 x.2], .agg #[.int .i64 y.1, .int .i64 y.2]] w fun e w' => e = .returned (.int .i64 (cfIv x y)) ∧ ∃ q os', w' = grow (w.drewN q) os' := by
  obtain ⟨x1, x2⟩ := x
  obtain ⟨y1, y2⟩ := y
  have hc := fun W => cmp36 x1 y1 W
  show Calls Try.prog 35 _ w fun e w' => e = .returned (.int .i64 (if x1 < y1 then -1 else if y1 < x1 then 1 else 0)) ∧ ∃ q os', w' = grow (w.drewN q) os'
  generalize (if x1 < y1 then (-1 : Int) else if y1 < x1 then 1 else 0) = r at hc ⊢
  have HC := Lib.hid hc
  clear hc
  go_enter Try.func35, Try.ntmps35
  go_wp2_with (go_at_call 36; refine (HC.out _).mono ?_; rintro e w' ⟨rfl, rfl⟩)
  go_ret
  exact ⟨rfl, 0, _, by rw [alloc_eq_grow, alloc_eq_grow, grow_grow]; rfl⟩
theorem clays35 (blk off size : Nat) (w : World) : CmpLays Try.prog 35 #[] encIv 2 cfIv blk off size w := fun _ _ _ _ x y => clo35 x y _
theorem sort34 (blk off cap : Nat) (d : Array (Int × Int)) (w : World) (hH : HoldsK encIv 2 w blk off d) (hblk : blk < w.heap.size) (hsz : d.size < 4611686018427387904) :
    Calls Try.prog 34 #[.slice (some ⟨blk, off, none⟩) d.size cap, .func (.func 35) #[] #[]] w fun e w' => e = .returned (.tuple #[]) ∧ ∃ d' n os, PermIn 0 d.size d d' ∧ SortedIn (ltOf cfIv) 0 d.size d' ∧ w' = sortWorldK encIv 2 w blk off n d' os := by
  have eg : ∀ args w, (callFunc 35 args).run Try.prog w = .ok (.enter 35 args) w := enters_of Try.func35 (by kernel_rfl) rfl
  exact AnyQ.slices_SortFunc Try.sortIv 2 Try.isAgg25 Try.sizeOf25 encIv (fun _ => rfl) (fun x v hv => by simp [encIv] at hv; rcases hv with rfl | rfl <;> rfl) cfIv swoIv 35 #[] blk off cap d w eg (clays35 blk off d.size w) hH hblk hsz
end Go.Proofs.Ytmdkhnndfhcfdaa.Wk
