/- Contracts of Step, Success, Resume, Failure and of their references. Conditions: those of Failure bound the sums. -/
import Derived.Test.YtodkcnhdiddbkaaWalks
set_option linter.unusedSimpArgs false
set_option linter.unusedVariables false
namespace Go.Proofs.Ytodkcnhdiddbkaa.Wk
open Go.RowKit
open Go.Proofs.Ytodkcnhdiddbkaa.Mt
/-- a filling as a value -/
def fiV (f : Fi) : Value := .agg #[.int .i64 f.s, .int .i64 f.f, .int .i64 f.n]
theorem b1 (w : World) (o1 : Obj) : Below w.heap.size w (w.alloc o1) := (Below.refl _ _).alloc (Nat.le_refl _) _
theorem b2 (w : World) (o1 o2 : Obj) : Below w.heap.size w ((w.alloc o1).alloc o2) := (b1 w o1).alloc (by simp) _
theorem b3 (w : World) (o1 o2 o3 : Obj) : Below w.heap.size w (((w.alloc o1).alloc o2).alloc o3) := (b2 w o1 o2).alloc (by simp; omega) _
theorem stp_no {b c t v s g n bal x : Int} (h : s ≠ 1 ∨ c ≤ 0 ∨ b ≤ bal ∨ x < n) : stp ⟨b, c, t, v⟩ ⟨s, g, n⟩ bal x = (⟨s, g, n⟩, 0) := by rw [stp, if_pos h]
theorem stp_yes {b c t v g n bal x : Int} (h : ¬ (c ≤ 0 ∨ b ≤ bal ∨ x < n)) : stp ⟨b, c, t, v⟩ ⟨1, g, n⟩ bal x = (⟨2, g, n⟩, c) := by rw [stp, if_neg (by simpa using h)]
theorem suc_yes {g n : Int} : suc ⟨2, g, n⟩ = (⟨1, 0, 0⟩, 0) := by rw [suc, if_pos rfl]
theorem suc_no {s g n : Int} (h : s ≠ 2) : suc ⟨s, g, n⟩ = (⟨s, g, n⟩, 11) := by rw [suc, if_neg h]
theorem res_yes {g n : Int} : res ⟨3, g, n⟩ = (⟨1, 0, 0⟩, 0) := by rw [res, if_pos rfl]
theorem res_no {s g n : Int} (h : s ≠ 3) : res ⟨s, g, n⟩ = (⟨s, g, n⟩, 11) := by rw [res, if_neg h]
theorem fai_no {b c t v s g n x : Int} (h : s ≠ 2) : fai ⟨b, c, t, v⟩ ⟨s, g, n⟩ x = (⟨s, g, n⟩, 11) := by rw [fai, if_pos h]
theorem fai_time {b c t v g n x : Int} (h : tim x = false) : fai ⟨b, c, t, v⟩ ⟨2, g, n⟩ x = (⟨2, g, n⟩, 12) := by rw [fai, if_neg (by simp), if_pos h]
theorem fai_end {b c t v g n x : Int} (h : tim x = true) (h2 : t ≤ g + 1) : fai ⟨b, c, t, v⟩ ⟨2, g, n⟩ x = (⟨3, g + 1, 0⟩, 0) := by rw [fai, if_neg (by simp), if_neg (by simp [h]), if_pos h2]
theorem fai_go {b c t v g n x : Int} (h : tim x = true) (h2 : ¬ t ≤ g + 1) : fai ⟨b, c, t, v⟩ ⟨2, g, n⟩ x = (⟨1, g + 1, x + v⟩, 0) := by rw [fai, if_neg (by simp), if_neg (by simp [h]), if_neg h2]
theorem step_any (b c t v s g n bal x : Int) (w : World) : Calls Try.prog 14 #[.agg #[.int .i64 b, .int .i64 c, .int .i64 t, .int .i64 v], .agg #[.int .i64 s, .int .i64 g, .int .i64 n], .int .i64 bal, .int .i64 x] w
    fun e w' => e = .returned (.tuple #[fiV (stp ⟨b, c, t, v⟩ ⟨s, g, n⟩ bal x).1, .int .i64 (stp ⟨b, c, t, v⟩ ⟨s, g, n⟩ bal x).2]) ∧ Below w.heap.size w w' := by
  by_cases h1 : s = 1
  · subst h1
    by_cases h2 : c ≤ 0
    · skip
      have HH := Lib.hid (stp_no (b := b) (c := c) (t := t) (v := v) (s := 1) (g := g) (n := n) (bal := bal) (x := x) (.inr (.inl h2)))
      go_enter Try.func14, Try.ntmps14
      go_wp2_with fail
      exact bodyPost_ret (v := .tuple #[.agg #[.int .i64 1, .int .i64 g, .int .i64 n], .int .i64 0]) (by simp [results, Try.results14, go_sem]) rfl ⟨by rw [HH.out]; rfl, b3 _ _ _ _⟩
    · by_cases h3 : b ≤ bal
      · skip
        have HH := Lib.hid (stp_no (b := b) (c := c) (t := t) (v := v) (s := 1) (g := g) (n := n) (bal := bal) (x := x) (.inr (.inr (.inl h3))))
        go_enter Try.func14, Try.ntmps14
        go_wp2_with fail
        exact bodyPost_ret (v := .tuple #[.agg #[.int .i64 1, .int .i64 g, .int .i64 n], .int .i64 0]) (by simp [results, Try.results14, go_sem]) rfl ⟨by rw [HH.out]; rfl, b3 _ _ _ _⟩
      · by_cases h4 : x < n
        · skip
          have HH := Lib.hid (stp_no (b := b) (c := c) (t := t) (v := v) (s := 1) (g := g) (n := n) (bal := bal) (x := x) (.inr (.inr (.inr h4))))
          go_enter Try.func14, Try.ntmps14
          go_wp2_with fail
          exact bodyPost_ret (v := .tuple #[.agg #[.int .i64 1, .int .i64 g, .int .i64 n], .int .i64 0]) (by simp [results, Try.results14, go_sem]) rfl ⟨by rw [HH.out]; rfl, b3 _ _ _ _⟩
        · have HH := Lib.hid (stp_yes (b := b) (c := c) (t := t) (v := v) (g := g) (n := n) (bal := bal) (x := x) (by omega))
          go_enter Try.func14, Try.ntmps14
          go_wp2_with fail
          go_region
          go_wp2_with fail
          exact bodyPost_ret (v := .tuple #[.agg #[.int .i64 2, .int .i64 g, .int .i64 n], .int .i64 c]) (by simp [results, Try.results14, go_sem]) rfl ⟨by rw [HH.out]; rfl, (b3 _ _ _ _).drew⟩
  · have hs : (s == 1) = false := by simpa using h1
    have hs2 : (s != 1) = true := by simpa using h1
    have HH := Lib.hid (stp_no (b := b) (c := c) (t := t) (v := v) (s := s) (g := g) (n := n) (bal := bal) (x := x) (.inl h1))
    clear h1
    go_enter Try.func14, Try.ntmps14
    go_wp2_with fail
    exact bodyPost_ret (v := .tuple #[.agg #[.int .i64 s, .int .i64 g, .int .i64 n], .int .i64 0]) (by simp [results, Try.results14, go_sem]) rfl ⟨by rw [HH.out]; rfl, b3 _ _ _ _⟩
theorem Step_any (b c t v s g n bal x : Int) (w : World) : Calls Try.prog 15 #[.agg #[.int .i64 b, .int .i64 c, .int .i64 t, .int .i64 v], .agg #[.int .i64 s, .int .i64 g, .int .i64 n], .int .i64 bal, .int .i64 x] w
    fun e w' => e = .returned (.tuple #[fiV (stp ⟨b, c, t, v⟩ ⟨s, g, n⟩ bal x).1, .int .i64 (stp ⟨b, c, t, v⟩ ⟨s, g, n⟩ bal x).2]) ∧ Below w.heap.size w w' := by
  by_cases h1 : s = 1
  · subst h1
    by_cases h2 : c ≤ 0
    · skip
      have HH := Lib.hid (stp_no (b := b) (c := c) (t := t) (v := v) (s := 1) (g := g) (n := n) (bal := bal) (x := x) (.inr (.inl h2)))
      go_enter Try.func15, Try.ntmps15
      go_wp2_with fail
      exact bodyPost_ret (v := .tuple #[.agg #[.int .i64 1, .int .i64 g, .int .i64 n], .int .i64 0]) (by simp [results, Try.results15, go_sem]) rfl ⟨by rw [HH.out]; rfl, b3 _ _ _ _⟩
    · by_cases h3 : b ≤ bal
      · skip
        have HH := Lib.hid (stp_no (b := b) (c := c) (t := t) (v := v) (s := 1) (g := g) (n := n) (bal := bal) (x := x) (.inr (.inr (.inl h3))))
        go_enter Try.func15, Try.ntmps15
        go_wp2_with fail
        exact bodyPost_ret (v := .tuple #[.agg #[.int .i64 1, .int .i64 g, .int .i64 n], .int .i64 0]) (by simp [results, Try.results15, go_sem]) rfl ⟨by rw [HH.out]; rfl, b3 _ _ _ _⟩
      · by_cases h4 : x < n
        · skip
          have HH := Lib.hid (stp_no (b := b) (c := c) (t := t) (v := v) (s := 1) (g := g) (n := n) (bal := bal) (x := x) (.inr (.inr (.inr h4))))
          go_enter Try.func15, Try.ntmps15
          go_wp2_with fail
          exact bodyPost_ret (v := .tuple #[.agg #[.int .i64 1, .int .i64 g, .int .i64 n], .int .i64 0]) (by simp [results, Try.results15, go_sem]) rfl ⟨by rw [HH.out]; rfl, b3 _ _ _ _⟩
        · have HH := Lib.hid (stp_yes (b := b) (c := c) (t := t) (v := v) (g := g) (n := n) (bal := bal) (x := x) (by omega))
          go_enter Try.func15, Try.ntmps15
          go_wp2_with fail
          go_region
          go_wp2_with fail
          exact bodyPost_ret (v := .tuple #[.agg #[.int .i64 2, .int .i64 g, .int .i64 n], .int .i64 c]) (by simp [results, Try.results15, go_sem]) rfl ⟨by rw [HH.out]; rfl, (b3 _ _ _ _).drew⟩
  · have hs : (s == 1) = false := by simpa using h1
    have hs2 : (s != 1) = true := by simpa using h1
    have HH := Lib.hid (stp_no (b := b) (c := c) (t := t) (v := v) (s := s) (g := g) (n := n) (bal := bal) (x := x) (.inl h1))
    clear h1
    go_enter Try.func15, Try.ntmps15
    go_wp2_with fail
    exact bodyPost_ret (v := .tuple #[.agg #[.int .i64 s, .int .i64 g, .int .i64 n], .int .i64 0]) (by simp [results, Try.results15, go_sem]) rfl ⟨by rw [HH.out]; rfl, b3 _ _ _ _⟩
theorem suc_any (b c t v s g n : Int) (w : World) : Calls Try.prog 16 #[.agg #[.int .i64 b, .int .i64 c, .int .i64 t, .int .i64 v], .agg #[.int .i64 s, .int .i64 g, .int .i64 n]] w
    fun e w' => e = .returned (.tuple #[fiV (suc ⟨s, g, n⟩).1, .int .i64 (suc ⟨s, g, n⟩).2]) ∧ Below w.heap.size w w' := by
  by_cases h1 : s = 2
  · subst h1
    have HH := Lib.hid (suc_yes (g := g) (n := n))
    go_enter Try.func16, Try.ntmps16
    go_wp2_with fail
    exact bodyPost_ret (v := .tuple #[.agg #[.int .i64 1, .int .i64 0, .int .i64 0], .int .i64 0]) (by simp [results, Try.results16, go_sem]) rfl ⟨by rw [HH.out]; rfl, b3 _ _ _ _⟩
  · have HH := Lib.hid (suc_no (g := g) (n := n) h1)
    have hs : (s == 2) = false := by simpa using h1
    have hs2 : (s != 2) = true := by simpa using h1
    clear h1
    go_enter Try.func16, Try.ntmps16
    go_wp2_with fail
    exact bodyPost_ret (v := .tuple #[.agg #[.int .i64 s, .int .i64 g, .int .i64 n], .int .i64 11]) (by simp [results, Try.results16, go_sem]) rfl ⟨by rw [HH.out]; rfl, b3 _ _ _ _⟩
theorem Suc_any (b c t v s g n : Int) (w : World) : Calls Try.prog 17 #[.agg #[.int .i64 b, .int .i64 c, .int .i64 t, .int .i64 v], .agg #[.int .i64 s, .int .i64 g, .int .i64 n]] w
    fun e w' => e = .returned (.tuple #[fiV (suc ⟨s, g, n⟩).1, .int .i64 (suc ⟨s, g, n⟩).2]) ∧ Below w.heap.size w w' := by
  by_cases h1 : s = 2
  · subst h1
    have HH := Lib.hid (suc_yes (g := g) (n := n))
    go_enter Try.func17, Try.ntmps17
    go_wp2_with fail
    exact bodyPost_ret (v := .tuple #[.agg #[.int .i64 1, .int .i64 0, .int .i64 0], .int .i64 0]) (by simp [results, Try.results17, go_sem]) rfl ⟨by rw [HH.out]; rfl, b3 _ _ _ _⟩
  · have HH := Lib.hid (suc_no (g := g) (n := n) h1)
    have hs : (s == 2) = false := by simpa using h1
    have hs2 : (s != 2) = true := by simpa using h1
    clear h1
    go_enter Try.func17, Try.ntmps17
    go_wp2_with fail
    exact bodyPost_ret (v := .tuple #[.agg #[.int .i64 s, .int .i64 g, .int .i64 n], .int .i64 11]) (by simp [results, Try.results17, go_sem]) rfl ⟨by rw [HH.out]; rfl, b3 _ _ _ _⟩
theorem res_any (s g n : Int) (w : World) : Calls Try.prog 18 #[.agg #[.int .i64 s, .int .i64 g, .int .i64 n]] w
    fun e w' => e = .returned (.tuple #[fiV (res ⟨s, g, n⟩).1, .int .i64 (res ⟨s, g, n⟩).2]) ∧ Below w.heap.size w w' := by
  by_cases h1 : s = 3
  · subst h1
    have HH := Lib.hid (res_yes (g := g) (n := n))
    go_enter Try.func18, Try.ntmps18
    go_wp2_with fail
    exact bodyPost_ret (v := .tuple #[.agg #[.int .i64 1, .int .i64 0, .int .i64 0], .int .i64 0]) (by simp [results, Try.results18, go_sem]) rfl ⟨by rw [HH.out]; rfl, b2 _ _ _⟩
  · have HH := Lib.hid (res_no (g := g) (n := n) h1)
    have hs : (s == 3) = false := by simpa using h1
    have hs2 : (s != 3) = true := by simpa using h1
    clear h1
    go_enter Try.func18, Try.ntmps18
    go_wp2_with fail
    exact bodyPost_ret (v := .tuple #[.agg #[.int .i64 s, .int .i64 g, .int .i64 n], .int .i64 11]) (by simp [results, Try.results18, go_sem]) rfl ⟨by rw [HH.out]; rfl, b2 _ _ _⟩
theorem Res_any (s g n : Int) (w : World) : Calls Try.prog 19 #[.agg #[.int .i64 s, .int .i64 g, .int .i64 n]] w
    fun e w' => e = .returned (.tuple #[fiV (res ⟨s, g, n⟩).1, .int .i64 (res ⟨s, g, n⟩).2]) ∧ Below w.heap.size w w' := by
  by_cases h1 : s = 3
  · subst h1
    have HH := Lib.hid (res_yes (g := g) (n := n))
    go_enter Try.func19, Try.ntmps19
    go_wp2_with fail
    exact bodyPost_ret (v := .tuple #[.agg #[.int .i64 1, .int .i64 0, .int .i64 0], .int .i64 0]) (by simp [results, Try.results19, go_sem]) rfl ⟨by rw [HH.out]; rfl, b2 _ _ _⟩
  · have HH := Lib.hid (res_no (g := g) (n := n) h1)
    have hs : (s == 3) = false := by simpa using h1
    have hs2 : (s != 3) = true := by simpa using h1
    clear h1
    go_enter Try.func19, Try.ntmps19
    go_wp2_with fail
    exact bodyPost_ret (v := .tuple #[.agg #[.int .i64 s, .int .i64 g, .int .i64 n], .int .i64 11]) (by simp [results, Try.results19, go_sem]) rfl ⟨by rw [HH.out]; rfl, b2 _ _ _⟩
theorem fai_any (b c t v s g n x : Int) (w : World) (hg : 0 ≤ g ∧ g ≤ 2147483648) (hv : 0 ≤ v ∧ v ≤ 68719476736) : Calls Try.prog 20 #[.agg #[.int .i64 b, .int .i64 c, .int .i64 t, .int .i64 v], .agg #[.int .i64 s, .int .i64 g, .int .i64 n], .int .i64 x] w
    fun e w' => e = .returned (.tuple #[fiV (fai ⟨b, c, t, v⟩ ⟨s, g, n⟩ x).1, .int .i64 (fai ⟨b, c, t, v⟩ ⟨s, g, n⟩ x).2]) ∧ Below w.heap.size w w' := by
  obtain ⟨hg1, hg2⟩ := hg
  obtain ⟨hv1, hv2⟩ := hv
  by_cases h1 : s = 2
  · subst h1
    cases ht : tim x
    · have HT := Lib.hid ht
      have HH := Lib.hid (fai_time (b := b) (c := c) (t := t) (v := v) (g := g) (n := n) ht)
      clear ht
      go_enter Try.func20, Try.ntmps20
      go_wp2_with (refine (time_no _ _ HT.out).mono ?_; rintro e _ ⟨rfl, rfl⟩)
      exact bodyPost_ret (v := .tuple #[.agg #[.int .i64 2, .int .i64 g, .int .i64 n], .int .i64 12]) (by simp [results, Try.results20, go_sem]) rfl ⟨by rw [HH.out]; rfl, b3 _ _ _ _⟩
    · have HT := Lib.hid ht
      have hx := (tim_iff x).1 ht
      obtain ⟨hx1, hx2⟩ := hx
      by_cases h2 : t ≤ g + 1
      · have HH := Lib.hid (fai_end (b := b) (c := c) (v := v) (n := n) ht h2)
        clear ht
        go_enter Try.func20, Try.ntmps20
        go_wp2_with (refine (time_yes _ _ HT.out).mono ?_; rintro e _ ⟨rfl, rfl⟩)
        exact bodyPost_ret (v := .tuple #[.agg #[.int .i64 3, .int .i64 (g + 1), .int .i64 0], .int .i64 0]) (by simp [results, Try.results20, go_sem]) rfl ⟨by rw [HH.out]; rfl, b3 _ _ _ _⟩
      · have HH := Lib.hid (fai_go (b := b) (c := c) (v := v) (n := n) ht h2)
        clear ht
        go_enter Try.func20, Try.ntmps20
        go_wp2_with (refine (time_yes _ _ HT.out).mono ?_; rintro e _ ⟨rfl, rfl⟩)
        exact bodyPost_ret (v := .tuple #[.agg #[.int .i64 1, .int .i64 (g + 1), .int .i64 (x + v)], .int .i64 0]) (by simp [results, Try.results20, go_sem]) rfl ⟨by rw [HH.out]; rfl, b3 _ _ _ _⟩
  · have HH := Lib.hid (fai_no (b := b) (c := c) (t := t) (v := v) (g := g) (n := n) (x := x) h1)
    have hs : (s == 2) = false := by simpa using h1
    have hs2 : (s != 2) = true := by simpa using h1
    clear h1
    go_enter Try.func20, Try.ntmps20
    go_wp2_with fail
    exact bodyPost_ret (v := .tuple #[.agg #[.int .i64 s, .int .i64 g, .int .i64 n], .int .i64 11]) (by simp [results, Try.results20, go_sem]) rfl ⟨by rw [HH.out]; rfl, b3 _ _ _ _⟩
theorem Fai_any (b c t v s g n x : Int) (w : World) (hg : 0 ≤ g ∧ g ≤ 2147483648) (hv : 0 ≤ v ∧ v ≤ 68719476736) : Calls Try.prog 21 #[.agg #[.int .i64 b, .int .i64 c, .int .i64 t, .int .i64 v], .agg #[.int .i64 s, .int .i64 g, .int .i64 n], .int .i64 x] w
    fun e w' => e = .returned (.tuple #[fiV (fai ⟨b, c, t, v⟩ ⟨s, g, n⟩ x).1, .int .i64 (fai ⟨b, c, t, v⟩ ⟨s, g, n⟩ x).2]) ∧ Below w.heap.size w w' := by
  obtain ⟨hg1, hg2⟩ := hg
  obtain ⟨hv1, hv2⟩ := hv
  by_cases h1 : s = 2
  · subst h1
    cases ht : tim x
    · have HT := Lib.hid ht
      have HH := Lib.hid (fai_time (b := b) (c := c) (t := t) (v := v) (g := g) (n := n) ht)
      clear ht
      go_enter Try.func21, Try.ntmps21
      go_wp2_with (refine (Time_no _ _ HT.out).mono ?_; rintro e _ ⟨rfl, rfl⟩)
      exact bodyPost_ret (v := .tuple #[.agg #[.int .i64 2, .int .i64 g, .int .i64 n], .int .i64 12]) (by simp [results, Try.results21, go_sem]) rfl ⟨by rw [HH.out]; rfl, b3 _ _ _ _⟩
    · have HT := Lib.hid ht
      have hx := (tim_iff x).1 ht
      obtain ⟨hx1, hx2⟩ := hx
      by_cases h2 : t ≤ g + 1
      · have HH := Lib.hid (fai_end (b := b) (c := c) (v := v) (n := n) ht h2)
        clear ht
        go_enter Try.func21, Try.ntmps21
        go_wp2_with (refine (Time_yes _ _ HT.out).mono ?_; rintro e _ ⟨rfl, rfl⟩)
        exact bodyPost_ret (v := .tuple #[.agg #[.int .i64 3, .int .i64 (g + 1), .int .i64 0], .int .i64 0]) (by simp [results, Try.results21, go_sem]) rfl ⟨by rw [HH.out]; rfl, b3 _ _ _ _⟩
      · have HH := Lib.hid (fai_go (b := b) (c := c) (v := v) (n := n) ht h2)
        clear ht
        go_enter Try.func21, Try.ntmps21
        go_wp2_with (refine (Time_yes _ _ HT.out).mono ?_; rintro e _ ⟨rfl, rfl⟩)
        exact bodyPost_ret (v := .tuple #[.agg #[.int .i64 1, .int .i64 (g + 1), .int .i64 (x + v)], .int .i64 0]) (by simp [results, Try.results21, go_sem]) rfl ⟨by rw [HH.out]; rfl, b3 _ _ _ _⟩
  · have HH := Lib.hid (fai_no (b := b) (c := c) (t := t) (v := v) (g := g) (n := n) (x := x) h1)
    have hs : (s == 2) = false := by simpa using h1
    have hs2 : (s != 2) = true := by simpa using h1
    clear h1
    go_enter Try.func21, Try.ntmps21
    go_wp2_with fail
    exact bodyPost_ret (v := .tuple #[.agg #[.int .i64 s, .int .i64 g, .int .i64 n], .int .i64 11]) (by simp [results, Try.results21, go_sem]) rfl ⟨by rw [HH.out]; rfl, b3 _ _ _ _⟩
end Go.Proofs.Ytodkcnhdiddbkaa.Wk
