/- An ascending list with one more number. Conditions: the slice reads as an ascending list; at most 5000 numbers. -/
import Derived.Test.YtmdkhnndfhcfdaaHa
set_option linter.unusedSimpArgs false
set_option linter.unusedVariables false
namespace Go.Proofs.Ytmdkhnndfhcfdaa.Mt
def Asc (l : List Int) : Prop := l.Pairwise (fun a b => a < b)
theorem iat_mem {l : List Int} {i : Nat} (h : i < l.length) : iat l i ∈ l := by
  unfold iat
  rw [List.getD_eq_getElem?_getD, List.getElem?_eq_getElem h]
  exact List.getElem_mem h
theorem mem_iat {l : List Int} {v : Int} (h : v ∈ l) : ∃ i, i < l.length ∧ iat l i = v := by
  obtain ⟨i, hi, e⟩ := List.getElem_of_mem h
  refine ⟨i, hi, ?_⟩
  unfold iat
  rw [List.getD_eq_getElem?_getD, List.getElem?_eq_getElem hi]
  exact e
theorem idrop_next {l : List Int} {i : Nat} (h : i < l.length) : l.drop i = iat l i :: l.drop (i + 1) := by
  unfold iat
  rw [List.getD_eq_getElem?_getD, List.getElem?_eq_getElem h]
  exact List.drop_eq_getElem_cons h
theorem itake_next {l : List Int} {k : Nat} (h : k < l.length) : l.take (k + 1) = l.take k ++ [iat l k] := by
  rw [List.take_add_one, List.getElem?_eq_getElem h]
  unfold iat
  rw [List.getD_eq_getElem?_getD, List.getElem?_eq_getElem h]
  rfl
structure Pt (l : List Int) (n : Int) (i : Nat) (R : List Int) (d : Bool) : Prop where
  asc : Asc R
  mem : ∀ x, x ∈ R ↔ x ∈ l.take i ∨ (d = true ∧ x = n)
  low : ∀ x ∈ R, ∀ y ∈ l.drop i, x < y
  d0 : d = false → ∀ x ∈ l.take i, x < n
  len : R.length ≤ i + 1
  len0 : d = false → R.length ≤ i
theorem Asc.snoc {R : List Int} {v : Int} (h : Asc R) (hv : ∀ x ∈ R, x < v) : Asc (R ++ [v]) := by
  unfold Asc at *
  rw [List.pairwise_append]
  exact ⟨h, List.pairwise_singleton _ _, fun a ha b hb => by have : b = v := by simpa using hb
                                                             rw [this]; exact hv a ha⟩
theorem Pt.start (l : List Int) (n : Int) : Pt l n 0 [] false := ⟨List.Pairwise.nil, fun x => by simp, fun x h => by simp at h, fun _ x h => by simp at h, by simp, fun _ => by simp⟩
section
variable {l R : List Int} {n v : Int} {i : Nat} {d : Bool}
theorem Asc.behind (hl : Asc l) (hi : i < l.length) : ∀ y ∈ l.drop (i + 1), iat l i < y := by
  have h : Asc (l.drop i) := List.Pairwise.sublist (List.drop_sublist i l) hl
  rw [idrop_next hi] at h
  exact (List.pairwise_cons.1 h).1
theorem Pt.same (hl : Asc l) (h : Pt l n i R d) (hi : i < l.length) (hv : iat l i = v) (hd : d = false → n < v → False) (hne : n ≠ v) : Pt l n (i + 1) (R ++ [v]) d := by
  have hb := hl.behind hi
  rw [hv] at hb
  have hlo : ∀ x ∈ R, x < v := fun x hx => h.low x hx v (by rw [idrop_next hi, hv]; exact List.mem_cons_self)
  refine ⟨h.asc.snoc hlo, fun x => ?_, fun x hx y hy => ?_, fun e x hx => ?_, ?_, fun e => ?_⟩
  · rw [List.mem_append, h.mem x, itake_next hi, List.mem_append, hv, List.mem_singleton]
    constructor
    · rintro ((h1 | h1) | h1)
      · exact .inl (.inl h1)
      · exact .inr h1
      · exact .inl (.inr h1)
    · rintro ((h1 | h1) | h1)
      · exact .inl (.inl h1)
      · exact .inr h1
      · exact .inl (.inr h1)
  · rcases List.mem_append.1 hx with hx | hx
    · exact Int.lt_trans (hlo x hx) (hb y hy)
    · have : x = v := by simpa using hx
      rw [this]; exact hb y hy
  · rw [itake_next hi, hv] at hx
    rcases List.mem_append.1 hx with hx | hx
    · exact h.d0 e x hx
    · have : x = v := by simpa using hx
      have hh : ¬ n < v := hd e
      omega
  · rw [List.length_append]; have := h.len; simp; omega
  · rw [List.length_append]; have := h.len0 e; simp; omega
theorem Pt.met (hl : Asc l) (h : Pt l n i R d) (hi : i < l.length) (hv : iat l i = n) : Pt l n (i + 1) (R ++ [n]) true := by
  have hb := hl.behind hi
  rw [hv] at hb
  have hlo : ∀ x ∈ R, x < n := fun x hx => h.low x hx n (by rw [idrop_next hi, hv]; exact List.mem_cons_self)
  refine ⟨h.asc.snoc hlo, fun x => ?_, fun x hx y hy => ?_, fun e x hx => by simp at e, ?_, fun e => by simp at e⟩
  · rw [List.mem_append, h.mem x, itake_next hi, List.mem_append, hv, List.mem_singleton]
    constructor
    · rintro ((h1 | h1) | h1)
      · exact .inl (.inl h1)
      · exact .inr ⟨rfl, h1.2⟩
      · exact .inr ⟨rfl, h1⟩
    · rintro ((h1 | h1) | h1)
      · exact .inl (.inl h1)
      · exact .inr h1
      · exact .inr h1.2
  · rcases List.mem_append.1 hx with hx | hx
    · exact Int.lt_trans (hlo x hx) (hb y hy)
    · have : x = n := by simpa using hx
      rw [this]; exact hb y hy
  · rw [List.length_append]; have := h.len; simp; omega
theorem Pt.new (hl : Asc l) (h : Pt l n i R false) (hi : i < l.length) (hv : iat l i = v) (hlt : n < v) : Pt l n (i + 1) (R ++ [n] ++ [v]) true := by
  have hb := hl.behind hi
  rw [hv] at hb
  have hlo : ∀ x ∈ R, x < n := fun x hx => by
    rcases (h.mem x).1 hx with hx | hx
    · exact h.d0 rfl x hx
    · simp at hx
  have hlo2 : ∀ x ∈ R ++ [n], x < v := fun x hx => by
    rcases List.mem_append.1 hx with hx | hx
    · have := hlo x hx; omega
    · have : x = n := by simpa using hx
      omega
  refine ⟨(h.asc.snoc hlo).snoc hlo2, fun x => ?_, fun x hx y hy => ?_, fun e x hx => by simp at e, ?_, fun e => by simp at e⟩
  · rw [List.mem_append, List.mem_append, h.mem x, itake_next hi, List.mem_append, hv, List.mem_singleton, List.mem_singleton]
    constructor
    · rintro (((h1 | h1) | h1) | h1)
      · exact .inl (.inl h1)
      · simp at h1
      · exact .inr ⟨rfl, h1⟩
      · exact .inl (.inr h1)
    · rintro ((h1 | h1) | h1)
      · exact .inl (.inl (.inl h1))
      · exact .inr h1
      · exact .inl (.inr h1.2)
  · rcases List.mem_append.1 hx with hx | hx
    · exact Int.lt_trans (hlo2 x hx) (hb y hy)
    · have : x = v := by simpa using hx
      rw [this]; exact hb y hy
  · rw [List.length_append, List.length_append]; have := h.len0 rfl; simp; omega
theorem Pt.end1 (h : Pt l n l.length R true) : Asc R ∧ (∀ x, x ∈ R ↔ x ∈ l ∨ x = n) := by
  refine ⟨h.asc, fun x => ?_⟩
  rw [h.mem x, List.take_length]
  exact ⟨fun h => h.elim .inl (fun h => .inr h.2), fun h => h.elim .inl (fun h => .inr ⟨rfl, h⟩)⟩
theorem Pt.end0 (h : Pt l n l.length R false) : Asc (R ++ [n]) ∧ (∀ x, x ∈ R ++ [n] ↔ x ∈ l ∨ x = n) := by
  have hm := h.mem
  have hd := h.d0 rfl
  rw [List.take_length] at hd
  refine ⟨h.asc.snoc fun x hx => ?_, fun x => ?_⟩
  · rcases (hm x).1 hx with h1 | h1
    · rw [List.take_length] at h1; exact hd x h1
    · simp at h1
  · rw [List.mem_append, List.mem_singleton, hm x, List.take_length]
    exact ⟨fun h => h.elim (fun h => h.elim .inl (fun h => by simp at h)) .inr, fun h => h.elim (fun h => .inl (.inl h)) .inr⟩
end
end Go.Proofs.Ytmdkhnndfhcfdaa.Mt
namespace Go.Proofs.Ytmdkhnndfhcfdaa.Wk
open Go.RowKit
open Go.Proofs.Ytmdkhnndfhcfdaa.Mt
theorem int_info : (Try.prog.info? 3).map (fun i => (i.zero, i.size, i.bytes)) = some (some (.int .i64 0), 1, 8) := by kernel_rfl
theorem new_cell (W : World) (x : Value) (t : TypeId) (n : Nat) (h : n = W.heap.size) : ∀ j u, [x][j]? = some u → (W.alloc (.cells #[x] t)).cell? ((⟨n, 0, none⟩ : Addr).add j) = some u := by
  subst h; exact cell_one_new _ _ _
theorem one_int (k : IntKind) (x : Int) : ∀ u ∈ [Value.int k x], u.oneCell' = true := by
  intro u hu; simp at hu; subst hu; rfl
/-- nothing of w0 is written, and v owns its row of numbers, in new memory -/
def Ow (base : Nat) (w0 wr : World) (v : Value) (xs : List Int) : Prop := base ≤ w0.heap.size ∧ Below base w0 wr ∧ wr.ownsRow base 3 1 v xs.length (vk .i64 xs)
section
variable {base : Nat} {w0 wr w1 : World} {v : Value} {xs : List Int}
theorem Ow.nil (h : base ≤ w0.heap.size) : Ow base w0 w0 (.slice none 0 0) [] := ⟨h, Below.refl _ _, World.ownsRow_nil _ _ _ _⟩
theorem Ow.size (h : Ow base w0 wr v xs) : base ≤ wr.heap.size := Nat.le_trans h.1 h.2.1.size
theorem Ow.below (h : Ow base w0 wr v xs) (hb : Below wr.heap.size wr w1) : Ow base w0 w1 v xs := ⟨h.1, h.2.1.trans (hb.mono h.size), own_below h.2.2 hb⟩
theorem vk_app (a b : List Int) : vk .i64 (a ++ b) = vk .i64 a ++ vk .i64 b := List.map_append
theorem Ow.appW {W : World} {v' : Value} {x : Int} (h : Ow base w0 W v xs) (ho : w1.ownsRow base 3 1 v' (xs.length + 1) (vk .i64 xs ++ [Value.int .i64 x])) (hg : W.grownBy w1 v.ownBlock) : Ow base w0 w1 v' (xs ++ [x]) := by
  refine ⟨h.1, h.2.1.grown hg h.size (fun k hk => (h.2.2.lt k hk).1), ?_⟩
  rw [List.length_append, vk_app]
  exact ho
end
theorem asc_wf {R l : List Int} {n : Int} (h : ∀ x, x ∈ R ↔ x ∈ l ∨ x = n) (hl : ∀ i, (Lit.int .i64 (iat l i)).wf = true) (hn : (Lit.int .i64 n).wf = true) : ∀ i, (Lit.int .i64 (iat R i)).wf = true := by
  intro i
  rcases Nat.lt_or_ge i R.length with hi | hi
  · rcases (h _).1 (iat_mem hi) with h1 | h1
    · obtain ⟨j, hj, e⟩ := mem_iat h1
      rw [← e]; exact hl j
    · rw [h1]; exact hn
  · have : iat R i = 0 := by unfold iat; rw [List.getD_eq_getElem?_getD, List.getElem?_eq_none (by omega)]; rfl
    rw [this]; rfl
set_option maxHeartbeats 2000000 in
set_option maxRecDepth 100000 in
theorem put42 (A : Option Addr) (N c : Nat) (l : List Int) (n : Int) (w : World) (h : Rk .i64 w w.heap.size A N l) (hN : N ≤ 5000) (ha : Asc l) (hn : (Lit.int .i64 n).wf = true) : Calls Try.prog 42 #[.slice A N c, .int .i64 n] w fun e w' => ∃ A' c' R, e = .returned (.slice A' R.length c') ∧ Rk .i64 w' w'.heap.size A' R.length R ∧ Asc R ∧ (∀ x, x ∈ R ↔ x ∈ l ∨ x = n) ∧ R.length ≤ N + 1 ∧ Below w.heap.size w w' := by
  have HR := Lib.hid h
  have HL := Lib.hid h.1
  have HA := Lib.hid ha
  have HN := Lib.hid hn
  have hn2 := h.2.1
  clear h ha hn
  obtain ⟨i0, hi0, hz0, hs0, hb0'⟩ := info_parts int_info
  go_enter Try.func42, Try.ntmps42
  go_wp2_with fail
  go_loopw [5, 6, 7] (fun v dv iv wr => ∃ (k : Nat) (d : Bool) (R : List Int), k ≤ N ∧ dv = .bool d ∧ iv = .int .i64 k ∧ R.length ≤ k + 1 ∧ Hid (Ow w.heap.size w wr v R) ∧ Hid (Pt l n k R d)) (fun _ _ iv _ => N - (intOf iv).toNat)
  case atStart => exact ⟨0, false, [], Nat.zero_le _, rfl, rfl, by simp, Lib.hid (Ow.nil (Nat.le_refl _)), Lib.hid (Pt.start l n)⟩
  case round =>
    obtain ⟨k, d, R, hk, rfl, rfl, hRl, HO, HP⟩ := hrel
    have hsz := HO.out.size
    by_cases hlt : k < N
    · have hltI : (k : Int) < (N : Int) := by omega
      obtain ⟨b, off, rfl, hbb, d1⟩ := (HR.out.below HO.out.2.1 (Nat.le_refl _)).get hlt
      have HD : Hid (∀ W, Below w.heap.size w W → b < W.heap.size ∧ W.cell? ⟨b, off + k, none⟩ = some (.int .i64 (iat l k))) := Lib.hid (fun W hW => ⟨Nat.lt_of_lt_of_le hbb hW.size, (HR.out.below hW (Nat.le_refl _)).two hlt⟩)
      have hb2 : b < wr.heap.size := by omega
      have hkl : Hid (k < l.length) := Lib.hid (by rw [HL.out]; exact hlt)
      obtain ⟨v, hv⟩ : ∃ v, iat l k = v := ⟨_, rfl⟩
      have HV := Lib.hid hv
      rw [hv] at d1 HD
      clear hv
      rcases fot d with rfl | rfl
      · by_cases hnv : n < v
        · have hnv' : decide (n < v) = true := decide_eq_true hnv
          have hne : (n == v) = false := by simp; omega
          have HP2 := Lib.hid (HP.out.new HA.out hkl.out HV.out hnv)
          have hl0 := HP.out.len0 rfl
          have C4 : Hid (R.length + 1 ≤ maxLen) := Lib.hid (by unfold maxLen; omega)
          have C5 : Hid ((R.length + 1) * 8 ≤ 140737488355328) := Lib.hid (by omega)
          have HOO := Lib.hid HO.out.2.2
          go_wp2_with (first | (at_builtin; refine wpList_append_own _ rfl _ _ 46 rfl w.heap.size 3 i0 (.int .i64 0) 1 8 Try.underlying46 hi0 hz0 hs0 hb0' rfl (by omega) _ _ _ rfl (HOO.out.alloc _) ⟨_, 0, none⟩ 1 1 [.int .i64 n] rfl rfl (new_cell _ _ _ _ (by simp)) (one_int .i64 n) C4.out C5.out (by simp; omega) ?_) | fail)
          intro v' w9 hown hgrow _
          have HO9 : Hid (Ow w.heap.size w w9 v' (R ++ [n])) := Lib.hid (Ow.appW (W := wr.alloc (.cells #[.int .i64 n] 3)) (HO.out.below (b1 _ _)) hown hgrow)
          clear hown hgrow HOO HO d1 C4 C5
          obtain ⟨hb2, d1⟩ := HD.out w9 HO9.out.2.1
          have hsz := HO9.out.size
          have C4 : Hid ((R ++ [n]).length + 1 ≤ maxLen) := Lib.hid (by unfold maxLen; rw [List.length_append]; simp; omega)
          have C5 : Hid (((R ++ [n]).length + 1) * 8 ≤ 140737488355328) := Lib.hid (by rw [List.length_append]; simp; omega)
          have HOO := Lib.hid HO9.out.2.2
          go_wp2_with (first | (at_builtin; refine wpList_append_own _ rfl _ _ 46 rfl w.heap.size 3 i0 (.int .i64 0) 1 8 Try.underlying46 hi0 hz0 hs0 hb0' rfl (by omega) _ _ _ rfl (HOO.out.alloc _) ⟨_, 0, none⟩ 1 1 [.int .i64 v] rfl rfl (new_cell _ _ _ _ (by simp)) (one_int .i64 v) C4.out C5.out (by simp; omega) ?_) | fail)
          intro v'' w10 hown hgrow _
          have HO10 : Hid (Ow w.heap.size w w10 v'' (R ++ [n] ++ [v])) := Lib.hid (Ow.appW (W := w9.alloc (.cells #[.int .i64 v] 3)) (HO9.out.below (b1 _ _)) (by rw [List.length_append]; exact hown) hgrow)
          clear hown hgrow HOO HO9 d1
          go_wp2_with fail
          go_roundw
          case rel => exact ⟨k + 1, _, R ++ [n] ++ [v], by omega, rfl, by go_num, by rw [List.length_append, List.length_append]; simp; omega, HO10, HP2⟩
          case measure => simp [intOf]; omega
        · have hnv' : decide (n < v) = false := decide_eq_false hnv
          by_cases hnq : n = v
          · subst hnq
            have hne : (n == n) = true := by simp
            have HP2 := Lib.hid (HP.out.met HA.out hkl.out HV.out)
            have hl0 := HP.out.len0 rfl
            have C4 : Hid (R.length + 1 ≤ maxLen) := Lib.hid (by unfold maxLen; omega)
            have C5 : Hid ((R.length + 1) * 8 ≤ 140737488355328) := Lib.hid (by omega)
            have HOO := Lib.hid HO.out.2.2
            go_wp2_with (first | (at_builtin; refine wpList_append_own _ rfl _ _ 46 rfl w.heap.size 3 i0 (.int .i64 0) 1 8 Try.underlying46 hi0 hz0 hs0 hb0' rfl (by omega) _ _ _ rfl (HOO.out.alloc _) ⟨_, 0, none⟩ 1 1 [.int .i64 n] rfl rfl (new_cell _ _ _ _ (by simp)) (one_int .i64 n) C4.out C5.out (by simp; omega) ?_) | fail)
            intro v' w9 hown hgrow _
            have HO9 : Hid (Ow w.heap.size w w9 v' (R ++ [n])) := Lib.hid (Ow.appW (W := wr.alloc (.cells #[.int .i64 n] 3)) (HO.out.below (b1 _ _)) hown hgrow)
            clear hown hgrow HOO HO d1
            go_wp2_with fail
            go_roundw
            case rel => exact ⟨k + 1, _, R ++ [n], by omega, rfl, by go_num, by rw [List.length_append]; simp; omega, HO9, HP2⟩
            case measure => simp [intOf]; omega
          · have hne : (n == v) = false := by simp; omega
            have HP2 := Lib.hid (HP.out.same HA.out hkl.out HV.out (fun _ h => hnv h) hnq)
            have hl0 := HP.out.len0 rfl
            have C4 : Hid (R.length + 1 ≤ maxLen) := Lib.hid (by unfold maxLen; omega)
            have C5 : Hid ((R.length + 1) * 8 ≤ 140737488355328) := Lib.hid (by omega)
            have HOO := Lib.hid HO.out.2.2
            go_wp2_with (first | (at_builtin; refine wpList_append_own _ rfl _ _ 46 rfl w.heap.size 3 i0 (.int .i64 0) 1 8 Try.underlying46 hi0 hz0 hs0 hb0' rfl (by omega) _ _ _ rfl (HOO.out.alloc _) ⟨_, 0, none⟩ 1 1 [.int .i64 v] rfl rfl (new_cell _ _ _ _ (by simp)) (one_int .i64 v) C4.out C5.out (by simp; omega) ?_) | fail)
            intro v' w9 hown hgrow _
            have HO9 : Hid (Ow w.heap.size w w9 v' (R ++ [v])) := Lib.hid (Ow.appW (W := wr.alloc (.cells #[.int .i64 v] 3)) (HO.out.below (b1 _ _)) hown hgrow)
            clear hown hgrow HOO HO d1
            go_wp2_with fail
            go_roundw
            case rel => exact ⟨k + 1, _, R ++ [v], by omega, rfl, by go_num, by rw [List.length_append]; simp; omega, HO9, HP2⟩
            case measure => simp [intOf]; omega
      · by_cases hnq : n = v
        · subst hnq
          have hne : (n == n) = true := by simp
          have HP2 := Lib.hid (HP.out.met HA.out hkl.out HV.out)
          have C4 : Hid (R.length + 1 ≤ maxLen) := Lib.hid (by unfold maxLen; omega)
          have C5 : Hid ((R.length + 1) * 8 ≤ 140737488355328) := Lib.hid (by omega)
          have HOO := Lib.hid HO.out.2.2
          go_wp2_with (first | (at_builtin; refine wpList_append_own _ rfl _ _ 46 rfl w.heap.size 3 i0 (.int .i64 0) 1 8 Try.underlying46 hi0 hz0 hs0 hb0' rfl (by omega) _ _ _ rfl (HOO.out.alloc _) ⟨_, 0, none⟩ 1 1 [.int .i64 n] rfl rfl (new_cell _ _ _ _ (by simp)) (one_int .i64 n) C4.out C5.out (by simp; omega) ?_) | fail)
          intro v' w9 hown hgrow _
          have HO9 : Hid (Ow w.heap.size w w9 v' (R ++ [n])) := Lib.hid (Ow.appW (W := wr.alloc (.cells #[.int .i64 n] 3)) (HO.out.below (b1 _ _)) hown hgrow)
          clear hown hgrow HOO HO d1
          go_wp2_with fail
          go_roundw
          case rel => exact ⟨k + 1, _, R ++ [n], by omega, rfl, by go_num, by rw [List.length_append]; simp; omega, HO9, HP2⟩
          case measure => simp [intOf]; omega
        · have hne : (n == v) = false := by simp; omega
          have HP2 := Lib.hid (HP.out.same HA.out hkl.out HV.out (fun h => by simp at h) hnq)
          have C4 : Hid (R.length + 1 ≤ maxLen) := Lib.hid (by unfold maxLen; omega)
          have C5 : Hid ((R.length + 1) * 8 ≤ 140737488355328) := Lib.hid (by omega)
          have HOO := Lib.hid HO.out.2.2
          go_wp2_with (first | (at_builtin; refine wpList_append_own _ rfl _ _ 46 rfl w.heap.size 3 i0 (.int .i64 0) 1 8 Try.underlying46 hi0 hz0 hs0 hb0' rfl (by omega) _ _ _ rfl (HOO.out.alloc _) ⟨_, 0, none⟩ 1 1 [.int .i64 v] rfl rfl (new_cell _ _ _ _ (by simp)) (one_int .i64 v) C4.out C5.out (by simp; omega) ?_) | fail)
          intro v' w9 hown hgrow _
          have HO9 : Hid (Ow w.heap.size w w9 v' (R ++ [v])) := Lib.hid (Ow.appW (W := wr.alloc (.cells #[.int .i64 v] 3)) (HO.out.below (b1 _ _)) hown hgrow)
          clear hown hgrow HOO HO d1
          go_wp2_with fail
          go_roundw
          case rel => exact ⟨k + 1, _, R ++ [v], by omega, rfl, by go_num, by rw [List.length_append]; simp; omega, HO9, HP2⟩
          case measure => simp [intOf]; omega
    · have hltI : ¬ (k : Int) < (N : Int) := by omega
      have hkl : k = l.length := by rw [HL.out]; omega
      rcases fot d with rfl | rfl
      · have HE := Lib.hid (by have := HP.out; rw [hkl] at this; exact this.end0)
        have hl0 := HP.out.len0 rfl
        clear hkl
        have C4 : Hid (R.length + 1 ≤ maxLen) := Lib.hid (by unfold maxLen; omega)
        have C5 : Hid ((R.length + 1) * 8 ≤ 140737488355328) := Lib.hid (by omega)
        have HOO := Lib.hid HO.out.2.2
        go_wp2_with (first | (at_builtin; refine wpList_append_own _ rfl _ _ 46 rfl w.heap.size 3 i0 (.int .i64 0) 1 8 Try.underlying46 hi0 hz0 hs0 hb0' rfl (by omega) _ _ _ rfl (HOO.out.alloc _) ⟨_, 0, none⟩ 1 1 [.int .i64 n] rfl rfl (new_cell _ _ _ _ (by simp)) (one_int .i64 n) C4.out C5.out (by simp; omega) ?_) | fail)
        intro v' w9 hown hgrow _
        have HO9 : Hid (Ow w.heap.size w w9 v' (R ++ [n])) := Lib.hid (Ow.appW (W := wr.alloc (.cells #[.int .i64 n] 3)) (HO.out.below (b1 _ _)) hown hgrow)
        clear hown hgrow HOO HO
        obtain ⟨A3, c3, rfl, hr3⟩ := Rk.owned HO9.out.2.2 (by rw [List.length_append]; simp; omega) (asc_wf HE.out.2 HR.out.2.2.2 HN.out)
        have HR3 := Lib.hid hr3
        clear hr3
        go_wp2_with fail
        go_ret
        exact ⟨A3, c3, R ++ [n], rfl, HR3.out, HE.out.1, HE.out.2, by rw [List.length_append]; simp; omega, HO9.out.2.1⟩
      · have HE := Lib.hid (by have := HP.out; rw [hkl] at this; exact this.end1)
        clear hkl
        obtain ⟨A3, c3, rfl, hr3⟩ := Rk.owned HO.out.2.2 (by omega) (asc_wf HE.out.2 HR.out.2.2.2 HN.out)
        have HR3 := Lib.hid hr3
        clear hr3
        go_wp2_with fail
        go_ret
        exact ⟨A3, c3, R, rfl, HR3.out, HE.out.1, HE.out.2, by omega, HO.out.2.1⟩
end Go.Proofs.Ytmdkhnndfhcfdaa.Wk
