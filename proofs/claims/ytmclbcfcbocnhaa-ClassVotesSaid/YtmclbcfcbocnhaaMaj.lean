/- The contracts of class.Majority and of its reference, over any numbers. Conditions: the slice reads as the list of numbers. -/
import Derived.Test.YtmclbcfcbocnhaaWalks
import Derived.Laws.Rows
set_option linter.unusedSimpArgs false
set_option linter.unusedVariables false
namespace Go.Proofs.Ytmclbcfcbocnhaa.Wk
open Go.RowKit
open Go.Proofs.Ytmclbcfcbocnhaa.Mt

/-- a slice value of n numbers reads as the list zs, in blocks below B -/
def Ri (w : World) (B : Nat) (A : Option Addr) (n : Nat) (zs : List Int) : Prop :=
  zs.length = n ∧ n ≤ 9223372036854775807 ∧ (0 < n → ∃ b off, A = some ⟨b, off, none⟩ ∧ b < B ∧ ∀ i, i < n → w.cell? ⟨b, off + i, none⟩ = some (.int .i64 (zs.getD i 0)))
theorem Ri.below {w w' : World} {B B' : Nat} {A : Option Addr} {n : Nat} {zs : List Int} (h : Ri w B A n zs) (hb : Below B' w w') (hB : B ≤ B') : Ri w' B A n zs := by
  refine ⟨h.1, h.2.1, fun hn => ?_⟩
  obtain ⟨b, off, e, hlt, hc⟩ := h.2.2 hn
  exact ⟨b, off, e, hlt, fun i hi => (hb.cell (p := ⟨b, _, none⟩) (by show b < B'; omega)).trans (hc i hi)⟩

theorem idx (k : Nat) (hk : k < 10) (cs : Array Value) (hsz : cs.size = 10) (w : World) : (Instr.index 41 (.agg cs) (.int .i64 k)).run Try.prog w = .ok (cs.getD k undef) w := by
  have hk2 : (k : Int) < 10 := by omega
  have hp : ∀ w : World, (part 3 cs k).run Try.prog w = .ok (cs.getD k undef) w := by
    intro w
    have hk3 : k < cs.size := by omega
    simp [part, go_sem, hk3]
  simp [Instr.index, Try.underlying41, asIntOf, hk2, hp]
  intro h
  omega

/-- block g is the ten cells f 0 .. f 9 of element type t, none frozen -/
def Ten (w : World) (g : Nat) (t : TypeId) (f : Nat → Value) : Prop := w.heap[g]? = some (.cells ((List.range 10).map f).toArray t (0, 0))
theorem Ten.cell {w : World} {g : Nat} {t : TypeId} {f : Nat → Value} (h : Ten w g t f) {i : Nat} (hi : i < 10) : w.cell? ⟨g, i, none⟩ = some (f i) := by
  rw [cell_of_row w g i _ t (0, 0) h]; simp [hi]
theorem Ten.frozen {w : World} {g : Nat} {t : TypeId} {f : Nat → Value} (h : Ten w g t f) (i : Nat) : w.frozen? ⟨g, i, none⟩ = false := by
  unfold Ten at h; simp [World.frozen?, h]
theorem Ten.lt {w : World} {g : Nat} {t : TypeId} {f : Nat → Value} (h : Ten w g t f) : g < w.heap.size := by
  rcases Nat.lt_or_ge g w.heap.size with hlt | hge
  · exact hlt
  · unfold Ten at h; rw [Array.getElem?_eq_none hge] at h; cases h
theorem Ten.congr {w : World} {g : Nat} {t : TypeId} {f f' : Nat → Value} (h : Ten w g t f) (e : ∀ i, i < 10 → f i = f' i) : Ten w g t f' := by
  unfold Ten at h ⊢
  rw [h, List.map_congr_left (g := f') fun i hi => e i (List.mem_range.1 hi)]
theorem Ten.set_ {w : World} {g : Nat} {t : TypeId} {f : Nat → Value} (h : Ten w g t f) (i : Nat) (u : Value) : Ten (w.setCell ⟨g, i, none⟩ u) g t (fun j => if j = i then u else f j) := by
  unfold Ten at h ⊢
  rw [heap_setCell_same w g i _ t u h]
  congr 2
  apply Array.ext'
  simp only [Array.toList_setIfInBounds]
  apply List.ext_getElem?
  intro j
  simp only [List.getElem?_set, List.getElem?_map, List.length_map, List.length_range]
  by_cases hj : j = i
  · subst hj
    by_cases h10 : j < 10 <;> simp [h10]
  · have : ¬ i = j := fun e => hj e.symm
    simp [this]
    rcases Nat.lt_or_ge j 10 with h10 | h10
    · simp [h10, hj]
    · simp [h10]
theorem Ten.alloc {w : World} {g : Nat} {t : TypeId} {f : Nat → Value} (h : Ten w g t f) (o : Obj) : Ten (w.alloc o) g t f := (Below.heap_alloc w o g h.lt).trans h
theorem Ten.new (w : World) (t : TypeId) (f : Nat → Value) (cs : Array Value) (e : cs = ((List.range 10).map f).toArray) : Ten (w.alloc (.cells cs t)) w.heap.size t f := by
  subst e; exact heap_alloc_new w _

theorem ret1 {a a' : Value} (h1 : a = a') : Ending.returned a = .returned a' := by rw [h1]

theorem known_yes (c : Nat) (w : World) (h : 1 ≤ c ∧ c ≤ 9) : Calls Try.prog 20 #[.int .i64 c] w fun e w' => e = .returned (.bool true) ∧ w = w' :=
  (known_any c w).mono fun e w' ⟨h1, h2⟩ => ⟨by rw [h1, decide_eq_true (by omega)], h2⟩
theorem known_no (c : Int) (w : World) (h : ¬ (1 ≤ c ∧ c ≤ 9)) : Calls Try.prog 20 #[.int .i64 c] w fun e w' => e = .returned (.bool false) ∧ w = w' :=
  (known_any c w).mono fun e w' ⟨h1, h2⟩ => ⟨by rw [h1, decide_eq_false h], h2⟩

/-- what a round of the counting loop does to the counts -/
theorem count_hit {w : World} {g : Nat} {zs : List Int} {k c : Nat} (h : Ten w g 41 (fun j => .int .i64 (cN zs k j))) (hk : k < zs.length) (hc : 1 ≤ c ∧ c ≤ 9) (e : zs.getD k 0 = (c : Int)) :
    Ten (w.setCell ⟨g, c, none⟩ (.int .i64 ((cN zs k c : Int) + 1))) g 41 (fun j => .int .i64 (cN zs (k + 1) j)) := by
  refine (h.set_ c _).congr fun j _ => ?_
  by_cases hj : j = c
  · subst hj
    simp only [if_true]
    rw [cN_hit hk hc e]; rfl
  · simp only [if_neg hj]
    rw [cN_miss hk (by rw [e]; omega)]
theorem count_miss {w : World} {g : Nat} {zs : List Int} {k : Nat} (h : Ten w g 41 (fun j => .int .i64 (cN zs k j))) (hk : k < zs.length) (e : ¬ (1 ≤ zs.getD k 0 ∧ zs.getD k 0 ≤ 9)) :
    Ten w g 41 (fun j => .int .i64 (cN zs (k + 1) j)) := h.congr fun j _ => by rw [cN_out hk e]

theorem majority_any (A : Option Addr) (n c : Nat) (zs : List Int) (w : World) (h : Ri w w.heap.size A n zs) :
    Calls Try.prog 18 #[.slice A n c] w fun e w' => e = .returned (.int .i64 (majS zs)) ∧ Below w.heap.size w w' := by
  have hn := h.2.1
  have HL := Lib.hid h.1
  have HR := Lib.hid h
  clear h
  go_enter Try.func18, Try.ntmps18
  go_wp2
  go_loopw [11] (fun i wr => ∃ k : Nat, k ≤ n ∧ i = .int .i64 k ∧ Below w.heap.size w wr ∧ Hid (Ten wr w.heap.size 41 (fun j => .int .i64 (cN zs k j)))) (fun i _ => n - (intOf i).toNat)
  case atStart => exact ⟨0, Nat.zero_le _, rfl, (Below.refl _ _).alloc (Nat.le_refl _) _, Lib.hid (Ten.new _ _ _ _ (by simp [cN_start]; rfl))⟩
  case round =>
    obtain ⟨k, hk, rfl, hb, H⟩ := hrel
    by_cases hlt : k < n
    · obtain ⟨b, off, rfl, hbB, hc⟩ := (HR.out.below hb (Nat.le_refl _)).2.2 (by omega)
      have c1 := hc k hlt
      clear hc
      have hlen : k < zs.length := by rw [HL.out]; omega
      by_cases g1 : 1 ≤ zs.getD k 0 ∧ zs.getD k 0 ≤ 9
      · obtain ⟨d, hd⟩ : ∃ d : Nat, zs.getD k 0 = (d : Int) := ⟨(zs.getD k 0).toNat, by omega⟩
        have hd9 : 1 ≤ d ∧ d ≤ 9 := by omega
        have hd1 : (1 : Int) ≤ (d : Int) := by omega
        have hd2 : (d : Int) ≤ 9 := by omega
        have hd3 : d < 10 := by omega
        have c2 := H.out.cell hd3
        have c3 := H.out.frozen d
        have c4 := cN_le zs k d
        have c5 : (cN zs k d : Int) ≤ k := by omega
        rw [hd] at c1
        have HN := Lib.hid (count_hit H.out hlen hd9 hd)
        clear hd g1
        go_wp2_with (go_at_call 20; refine (known_yes _ _ hd9).mono ?_; rintro e w' ⟨rfl, rfl⟩)
        go_roundw
        case rel => exact ⟨k + 1, by omega, by go_num, hb.setCell (Nat.le_refl _) _, HN⟩
        case measure => simp [intOf]; omega
      · have HN := Lib.hid (count_miss H.out hlen g1)
        obtain ⟨z, hz⟩ : ∃ z, zs.getD k 0 = z := ⟨_, rfl⟩
        rw [hz] at c1 g1
        have G := Lib.hid g1
        clear hz g1
        go_wp2_with (go_at_call 20; refine (known_no _ _ G.out).mono ?_; rintro e w' ⟨rfl, rfl⟩)
        go_roundw
        case rel => exact ⟨k + 1, by omega, by go_num, hb, HN⟩
        case measure => simp [intOf]; omega
    · have hkn : k = n := by omega
      have hzn : zs.length = n := HL.out
      subst hkn
      have hT := H.out
      obtain ⟨f, hf⟩ : ∃ f, f = cN zs zs.length := ⟨_, rfl⟩
      rw [← hzn, ← hf] at hT
      have hM : majS zs = mj f 10 := by rw [hf]; rfl
      have HM := Lib.hid hM
      have HT := Lib.hid hT
      obtain ⟨cs, hcs⟩ : ∃ cs, cs = ((List.range 10).map fun j => Value.int .i64 (f j : Nat)).toArray := ⟨_, rfl⟩
      have hsz : cs.size = 10 := by rw [hcs]; simp
      have hg : wr.heap[w.heap.size]? = some (.cells cs 41 (0, 0)) := by rw [hcs]; exact hT
      have hget : ∀ j, j < 10 → cs.getD j undef = .int .i64 (f j : Nat) := by intro j hj; rw [hcs]; simp [hj]
      have HG := Lib.hid hg
      have HS := Lib.hid hsz
      have HE := Lib.hid hget
      have hiz : (Try.prog.info? 41).map (·.size) = some cs.size := by rw [hsz]; kernel_rfl
      have HZ := Lib.hid hiz
      clear hcs hsz hg hget hT hf hM hzn hiz H HR HL
      go_wp2_with (refine wpList_load_row rfl 41 _ rfl w.heap.size rfl 41 cs (0, 0) _ HG.out Try.underlying41 rfl HZ.out ?_)
      go_loop [6, 24] (fun b i => ∃ j : Nat, j ≤ 10 ∧ i = .int .i64 j ∧ b = .int .i64 (mj f j : Nat)) (fun _ i => 10 - (intOf i).toNat)
      case atStart => exact ⟨0, by omega, rfl, rfl⟩
      case round =>
        obtain ⟨j, hj, rfl, rfl⟩ := hrel
        by_cases hlt : j < 10
        · have hidx : ∀ w : World, (Instr.index 41 (.agg cs) (.int .i64 j)).run Try.prog w = .ok (.int .i64 (f j : Nat)) w := fun w => by rw [idx j hlt cs HS.out w, HE.out j hlt]
          have hm : mj f j < 10 := by
            rcases Nat.eq_zero_or_pos j with rfl | h0
            · simp [mj]
            · have := mj_lt f j h0; omega
          obtain ⟨m, hmm⟩ : ∃ m, mj f j = m := ⟨_, rfl⟩
          have HY : Hid (f m < f j → mj f (j + 1) = j) := Lib.hid (by intro h; exact mj_yes (by rw [hmm]; exact h))
          have HN : Hid (¬ f m < f j → mj f (j + 1) = m) := Lib.hid (by intro h; rw [mj_no (by rw [hmm]; exact h), hmm])
          rw [hmm] at hm ⊢
          have hc := HT.out.cell hm
          clear hmm
          by_cases hw : f m < f j
          · have hw' : (f m : Int) < (f j : Int) := by omega
            go_wp2
            go_round
            case rel => exact ⟨j + 1, by omega, by go_num, by rw [HY.out hw]⟩
            case measure => simp [intOf]; omega
          · have hw' : ¬ (f m : Int) < (f j : Int) := by omega
            go_wp2
            go_round
            case rel => exact ⟨j + 1, by omega, by go_num, by rw [HN.out hw]⟩
            case measure => simp [intOf]; omega
        · have hj10 : j = 10 := by omega
          subst hj10
          go_wp2
          go_ret
          exact ⟨by rw [HM.out]; rfl, hb⟩

theorem Majority_any (A : Option Addr) (n c : Nat) (zs : List Int) (w : World) (h : Ri w w.heap.size A n zs) :
    Calls Try.prog 19 #[.slice A n c] w fun e w' => e = .returned (.int .i64 (majS zs)) ∧ w = w' := by
  have hn := h.2.1
  have HL := Lib.hid h.1
  have HR := Lib.hid h
  clear h
  obtain ⟨f, hf⟩ : ∃ f, f = cN zs n := ⟨_, rfl⟩
  have HM : Hid (majS zs = mj f 10) := Lib.hid (by rw [hf, majS, HL.out])
  have HF := Lib.hid hf
  clear hf
  go_enter Try.func19, Try.ntmps19
  go_wp2
  go_loop [3, 4, 5] (fun b m d => ∃ j : Nat, 1 ≤ j ∧ j ≤ 10 ∧ d = .int .i64 j ∧ b = .int .i64 (mj f j : Nat) ∧ m = .int .i64 (f (mj f j) : Nat)) (fun _ _ d => 10 - (intOf d).toNat)
  case atStart => exact ⟨1, by omega, by omega, rfl, by rw [mj_one]; rfl, by rw [mj_one, HF.out, cN_zero]; rfl⟩
  case round =>
    obtain ⟨j, hj1, hj, rfl, rfl, rfl⟩ := hrel
    by_cases hlt : j < 10
    · have hj9 : 1 ≤ j ∧ j ≤ 9 := by omega
      go_wp2
      go_loop [6, 7] (fun s i => ∃ k : Nat, k ≤ n ∧ i = .int .i64 k ∧ s = .int .i64 (cN zs k j : Nat)) (fun _ i => n - (intOf i).toNat)
      case atStart => exact ⟨0, by omega, rfl, by rw [cN_start]; rfl⟩
      case round =>
        obtain ⟨k, hk, rfl, rfl⟩ := hrel
        have c4 := cN_le zs k j
        by_cases hltk : k < n
        · obtain ⟨b, off, rfl, hbB, hc⟩ := HR.out.2.2 (by omega)
          have c1 := hc k hltk
          clear hc
          have hlen : k < zs.length := by rw [HL.out]; omega
          by_cases he : zs.getD k 0 = (j : Int)
          · have HH := Lib.hid (cN_hit hlen hj9 he)
            rw [he] at c1
            clear he
            go_wp2
            go_round
            case rel => exact ⟨k + 1, by omega, by go_num, by rw [HH.out]; go_num⟩
            case measure => simp [intOf]; omega
          · have HH := Lib.hid (cN_miss hlen he)
            obtain ⟨z, hz⟩ : ∃ z, zs.getD k 0 = z := ⟨_, rfl⟩
            rw [hz] at c1 he
            have gg : (z == (j : Int)) = false := by simpa using he
            clear he hz
            go_wp2
            go_round
            case rel => exact ⟨k + 1, by omega, by go_num, by rw [HH.out]⟩
            case measure => simp [intOf]; omega
        · have hkn : k = n := by omega
          subst hkn
          have HE : Hid (cN zs k j = f j) := Lib.hid (by rw [HF.out])
          rw [HE.out] at c4 ⊢
          obtain ⟨m, hmm⟩ : ∃ m, mj f j = m := ⟨_, rfl⟩
          have HY : Hid (f m < f j → mj f (j + 1) = j) := Lib.hid (by intro h; exact mj_yes (by rw [hmm]; exact h))
          have HN : Hid (¬ f m < f j → mj f (j + 1) = m) := Lib.hid (by intro h; rw [mj_no (by rw [hmm]; exact h), hmm])
          rw [hmm]
          clear hmm
          by_cases hw : f m < f j
          · have hw' : (f m : Int) < (f j : Int) := by omega
            go_wp2
            go_round
            case rel => exact ⟨j + 1, by omega, by omega, by go_num, by rw [HY.out hw], by rw [HY.out hw]⟩
            case measure => simp [intOf]; omega
          · have hw' : ¬ (f m : Int) < (f j : Int) := by omega
            go_wp2
            go_round
            case rel => exact ⟨j + 1, by omega, by omega, by go_num, by rw [HN.out hw], by rw [HN.out hw]⟩
            case measure => simp [intOf]; omega
    · have hj10 : j = 10 := by omega
      subst hj10
      go_wp2
      go_ret
      exact ⟨by rw [HM.out]; rfl, rfl⟩
end Go.Proofs.Ytmclbcfcbocnhaa.Wk
