/- The chapter's examples, reckoned. No condition. -/
import Derived.Test.YtbhdghopdhehdaaDfm
import Derived.Test.YtbhdghopdhehdaaVf
set_option linter.unusedSimpArgs false
set_option linter.unusedVariables false
namespace Go.Proofs.Ytbhdghopdhehdaa.Mt
theorem ht_3 : ht 3 = 2 := by rw [ht_more (by decide), show ab 3 = 2 from rfl, ht_more (by decide), show ab 2 = 1 from rfl, ht_one (by decide)]
theorem ht_4 : ht 4 = 2 := by rw [ht_more (by decide), show ab 4 = 2 from rfl, ht_more (by decide), show ab 2 = 1 from rfl, ht_one (by decide)]
theorem ht_1 : ht 1 = 0 := ht_one (by decide)
theorem up_3 (a b c : Int) : upn [a, b, c] 1 = [jn a b, c] := by simp [upn, upS, pr, iat]
theorem up_33 (a b c : Int) : upn [a, b, c] 2 = [jn (jn a b) c] := by
  rw [show (2 : Nat) = 1 + 1 from rfl, upn, up_3]
  simp [upS, pr, iat]
theorem pr_a : prS [1, 2, 3] 2 = ([jn 1 2], 0) := by
  rw [prS, if_neg (by simp), show ([1, 2, 3] : List Int).length = 3 from rfl, ht_3]
  rfl
theorem pr_b : prS [1, 2, 3] 0 = ([2, 3], 0) := by
  rw [prS, if_neg (by simp), show ([1, 2, 3] : List Int).length = 3 from rfl, ht_3]
  rfl
theorem pr_c : prS [1, 2, 3] 3 = ([], 2) := by rw [prS, if_pos (by simp)]
theorem rt_a : rootS [5] = 5 := by rw [rootS, if_neg (by simp), show ([5] : List Int).length = 1 from rfl, ht_1]; rfl
theorem rt_b : rootS [1, 2, 3] = jn (jn 1 2) 3 := by rw [rootS, if_neg (by simp), show ([1, 2, 3] : List Int).length = 3 from rfl, ht_3]; rfl
theorem rt_c : rootS [] = 0 := by simp [rootS]
theorem hs_a : hs [] = 14695981039346656037 := rfl
theorem hs_b : hs [97] = 12638187200555641996 := by decide +kernel
theorem jn_ne : ¬ jn (jn 1 2) 3 = jn (jn 1 2) 4 := by decide +kernel
theorem df_a : dfS [1, 2, 3] [1, 2, 4] = ([2], 3) := by
  rw [dfS, if_neg (by simp), if_neg (by simp), show ([1, 2, 3] : List Int).length = 3 from rfl, ht_3]
  rw [dv_both ([], 0) (by decide) (by rw [up_33, up_33]; exact jn_ne)]
  rw [dv_same (k := 0) (i := 0) ([], 1) (by decide) (by rw [up_3, up_3]; rfl)]
  rw [dv_alone (k := 0) (i := 1) _ (by decide)]
  rfl
theorem vf_a : vfS (jn (jn 1 2) 3) 3 2 3 [jn 1 2] = true := by
  show vfS (jn (jn 1 2) 3) 3 ((2 : Nat) : Int) ((3 : Nat) : Int) [jn 1 2] = true
  rw [vf_some (i := 2) (n := 3) (k := 2) (x := jn (jn 1 2) 3) (u := 1) (by decide) ht_3.symm rfl]
  simp
theorem vf_b : vfS (jn (jn 1 2) 3) 3 2 4 [jn 1 2] = false := by
  exact vf_none (i := 2) (n := 4) (k := 2) (by decide) (by rw [ht_4]; exact Nat.le_refl _) rfl
end Go.Proofs.Ytbhdghopdhehdaa.Mt
