/- The walk of DigestProves. Conditions: the slice reads as 64-bit numbers. -/
import Derived.Test.YtbhdghopdhehdaaAlv
import Derived.Test.YtbhdghopdhehdaaVm
import Derived.Test.YtbhdghopdhehdaaRot
import Derived.StillTailTactics
set_option linter.unusedSimpArgs false
set_option linter.unusedVariables false
namespace Go.Proofs.Ytbhdghopdhehdaa.Wk
open Go.RowKit
open Go.Proofs.Ytbhdghopdhehdaa.Mt
theorem verify24c {args : Array Value} (root leaf : Int) (i n : Int) (A : Option Addr) (p c : Nat) (pf : List Int) (w : World) (ha : args = #[.int .u64 root, .int .u64 leaf, .int .i64 i, .int .i64 n, .slice A p c]) (h : Rk .u64 w w.heap.size A p pf) (hpc : p ≤ c) (hleaf : 0 ≤ leaf ∧ leaf ≤ 18446744073709551615) (hnm : n ≤ 9223372036854775807) :
    Calls Try.prog 24 args w fun e w' => e = .returned (.bool (vfS root leaf i n pf)) ∧ Below w.heap.size w w' := by
  subst ha; exact verify24 root leaf i n A p c pf w h hpc hleaf hnm
theorem Rk.src {k : IntKind} {w : World} {B : Nat} {A : Option Addr} {n : Nat} {zs : List Int} (h : Rk k w B A n zs) : ∀ ad, A = some ad → ∀ j u, (vk k zs)[j]? = some u → w.cell? (ad.add j) = some u := by
  intro ad e j u hu
  have hj : j < zs.length := by
    rcases Nat.lt_or_ge j zs.length with h1 | h1
    · exact h1
    · rw [List.getElem?_eq_none (by simpa [vk] using h1)] at hu; cases hu
  rw [vk_at k zs j hj] at hu
  rw [h.1] at hj
  obtain ⟨b, off, e2, _, hc⟩ := h.get hj
  rw [e2] at e
  injection e with e
  subst e
  injection hu with hu
  subst hu
  have ea : (⟨b, off, none⟩ : Addr).add j = ⟨b, off + j, none⟩ := by unfold Addr.add; by_cases hj : j = 0 <;> simp [hj]
  rw [ea]
  exact hc
theorem vk_one (k : IntKind) (zs : List Int) : ∀ u ∈ vk k zs, u.oneCell' = true := by intro u hu; simp only [vk, List.mem_map] at hu; obtain ⟨_, _, rfl⟩ := hu; rfl
theorem own0 (w : World) : (w.alloc (.cells #[] 23)).ownsRow w.heap.size 23 1 (.slice (some ⟨w.heap.size, 0, none⟩) 0 0) 0 [] := World.ownsRow_lit (e := 23) (size := 1) w #[] 0 (Nat.le_refl _) (by unfold maxLen; omega) rfl
theorem own_base {w : World} {base base' : Nat} {e : TypeId} {size : Nat} {v : Value} {n : Nat} {xs : List Value} (h : w.ownsRow base e size v n xs) (hb : base' ≤ base) : w.ownsRow base' e size v n xs := by
  refine ⟨h.1, ?_⟩
  rcases h.2 with h0 | ⟨g, cap, cur, h1, h2, h3⟩
  · exact .inl h0
  · exact .inr ⟨g, cap, cur, h1, Nat.le_trans hb h2, h3⟩
theorem own0' (w : World) (o : Obj) {g : Nat} (hg : g = w.heap.size + 1) : ((w.alloc o).alloc (.cells #[] 23)).ownsRow w.heap.size 23 1 (.slice (some ⟨g, 0, none⟩) 0 0) 0 [] := by
  have := own0 (w.alloc o)
  have e : (w.alloc o).heap.size = w.heap.size + 1 := by simp
  rw [e] at this
  subst hg
  exact own_base this (by omega)
theorem more_b {wn w9 : World} {x : Int} {o : Obj} (hg : ((wn.alloc o).alloc (.cells #[.int .u64 x] 23)).grownBy w9 (some wn.heap.size)) : w9.cell? ⟨wn.heap.size + 1, 0, none⟩ = some (.int .u64 x) := by
  have h1 := hg.block (wn.heap.size + 1) (by simp) (by simp)
  refine (World.cell?_of_block (w := (wn.alloc o).alloc (.cells #[.int .u64 x] 23)) (a := ⟨wn.heap.size + 1, 0, none⟩) h1).trans ?_
  have h2 := heap_alloc_new (wn.alloc o) (.cells #[.int .u64 x] 23)
  have e : (wn.alloc o).heap.size = wn.heap.size + 1 := by simp
  rw [e] at h2
  have := cell_of_row _ (wn.heap.size + 1) 0 _ _ _ h2
  rw [this]; rfl
theorem more_c {wn w9 : World} {x : Int} {o : Obj} (hg : ((wn.alloc (.cells #[.int .u64 x] 23)).alloc o).grownBy w9 (some (wn.heap.size + 1))) : w9.cell? ⟨wn.heap.size, 0, none⟩ = some (.int .u64 x) := by
  have h1 := hg.block wn.heap.size (by simp; omega) (by simp)
  refine (World.cell?_of_block (w := (wn.alloc (.cells #[.int .u64 x] 23)).alloc o) (a := ⟨wn.heap.size, 0, none⟩) h1).trans ?_
  have h2 := heap_alloc_new wn (.cells #[.int .u64 x] 23)
  have := cell_of_row _ wn.heap.size 0 _ _ _ ((heap_alloc_old (wn.alloc (.cells #[.int .u64 x] 23)) o (by simp)).trans h2)
  rw [this]; rfl
theorem Rk.take {k : IntKind} {w : World} {B : Nat} {A : Option Addr} {n m : Nat} {zs : List Int} (h : Rk k w B A n zs) (hm : m ≤ n) : Rk k w B A m (zs.take m) := by
  have e : ∀ i, i < m → iat (zs.take m) i = iat zs i := by
    intro i hi; unfold iat; rw [List.getD_eq_getElem?_getD, List.getD_eq_getElem?_getD, List.getElem?_take, if_pos hi]
  refine ⟨by rw [List.length_take, h.1]; omega, by have := h.2.1; omega, fun h0 => ?_, fun i => ?_⟩
  · obtain ⟨b, off, e1, hb, hc⟩ := h.2.2.1 (by omega)
    exact ⟨b, off, e1, hb, fun i hi => by rw [e i hi]; exact hc i (by omega)⟩
  · by_cases hi : i < m
    · rw [e i hi]; exact h.2.2.2 i
    · have : iat (zs.take m) i = iat zs zs.length := by
        unfold iat; rw [List.getD_eq_getElem?_getD, List.getD_eq_getElem?_getD, List.getElem?_take, if_neg hi, List.getElem?_eq_none (Nat.le_refl _)]
      rw [this]; exact h.2.2.2 _
theorem one_src {w : World} {g : Nat} {y : Int} (h : w.cell? ⟨g, 0, none⟩ = some (.int .u64 y)) : ∀ ad, (some (⟨g, 0, none⟩ : Addr)) = some ad → ∀ j u, [Value.int .u64 y][j]? = some u → w.cell? (ad.add j) = some u := by
  intro ad e j u hu
  injection e with e
  subst e
  rcases j with _ | j
  · simp at hu; subst hu; exact h
  · simp at hu
theorem app_own {w : World} {base L : Nat} {v : Value} {P : List Int} {y : Int} (hl : P.length = L) (h : w.ownsRow base 23 1 v (L + 1) (vk .u64 P ++ [Value.int .u64 y])) : w.ownsRow base 23 1 v (P ++ [y]).length (vk .u64 (P ++ [y])) := by
  rw [List.length_append, hl]
  simpa [vk] using h
set_option maxHeartbeats 1500000 in
set_option maxRecDepth 100000 in
theorem proves_law (A : Option Addr) (n c : Nat) (l : List Int) (y : Int) (w : World) (h : Rk .u64 w w.heap.size A n l) (hy : 0 ≤ y ∧ y ≤ 18446744073709551615) :
    Calls Try.prog 9 #[.slice A n c, .int .u64 y] w fun e w' => e = .returned (.bool true) ∧ Below w.heap.size w w' := by
  have hn := h.2.1
  have HL := Lib.hid h.1
  have HR0 := Lib.hid h
  have HU : Hid (U64 l) := Lib.hid (fun i => u64_r (h.2.2.2 i))
  have HY := Lib.hid hy
  clear h
  by_cases h0 : 100 < n
  · have hI : (100 : Int) < (n : Int) := by omega
    go_enter Try.func9, Try.ntmps9
    go_wp2_with fail
    go_ret
    exact ⟨rfl, Below.refl _ _⟩
  · have hI : decide ((100 : Int) < (n : Int)) = false := decide_eq_false (by omega)
    have hn4 : n ≤ 4096 := by omega
    obtain ⟨i0, hi0, hz0, hs0, hb0'⟩ := info_parts u64_info
    obtain ⟨R, hR⟩ : ∃ R, rootS l = R := ⟨_, rfl⟩
    have HRT := Lib.hid hR
    clear hR
    go_enter Try.func9, Try.ntmps9
    go_wp2_with fail
    refine (root22 A n c l _ HR0.out hn4).mono ?_
    rintro e w1 ⟨rfl, hb⟩
    rw [HRT.out]
    have HB1 := Lib.hid hb
    clear hb
    go_wp2_with fail
    go_loopw [6] (fun iv wr => ∃ i : Nat, i ≤ n ∧ iv = .int .i64 i ∧ Hid (Below w.heap.size w wr)) (fun iv _ => n - (intOf iv).toNat)
    case atStart => exact ⟨0, Nat.zero_le _, rfl, HB1⟩
    case round =>
      obtain ⟨i, hi, rfl, HB⟩ := hrel
      by_cases hlt : i < n
      · have hltI : (i : Int) < (n : Int) := by omega
        have HPS : Hid (prS l (i : Int) = (pfk l i (ht n), 0)) := Lib.hid (by rw [prS, if_neg (by rw [HL.out]; omega), HL.out, Int.toNat_natCast])
        obtain ⟨P, hP⟩ : ∃ P, pfk l i (ht n) = P := ⟨_, rfl⟩
        have HPF := Lib.hid hP
        rw [hP] at HPS
        obtain ⟨x, hx⟩ : ∃ x, iat l i = x := ⟨_, rfl⟩
        have HXX : Hid (0 ≤ x ∧ x ≤ 18446744073709551615) := Lib.hid (by rw [← hx]; exact HU.out i)
        have HV1 : Hid (vfS R x i n P = true) := Lib.hid (by rw [← HRT.out, ← hx, ← hP]; exact prove_yes HL.out hlt)
        have HV2 : Hid (vfS R x i n (P ++ [y]) = false) := Lib.hid (by rw [← HRT.out, ← hx, ← hP]; exact prove_more HL.out hlt y)
        have HV3 : Hid (0 < P.length → vfS R x i n (P.take (P.length - 1)) = false) := Lib.hid (by rw [← HRT.out, ← hx, ← hP]; exact prove_less HL.out hlt)
        have HIN : Hid (∀ z ∈ P, 0 ≤ z ∧ z ≤ 18446744073709551615) := Lib.hid (by rw [← hP]; exact pf_in HU.out i (ht n))
        have hL13 : P.length ≤ 4096 := by rw [← hP]; have := pf_len l i (ht n); have := ht_le n; omega
        have HWQ : Hid (∀ j, (Lit.int .u64 (iat (P ++ [y]) j)).wf = true) := Lib.hid (fun j => u64_w (u64_mem (fun z hz => by
          rcases List.mem_append.1 hz with h1 | h1
          · exact HIN.out z h1
          · have : z = y := by simpa using h1
            rw [this]; exact HY.out) j))
        have HLQ : Hid ((P ++ [y]).length ≤ 9223372036854775807) := Lib.hid (by simp; omega)
        have HX := Lib.hid hx
        clear hP hx
        go_wp2_with fail
        have HRr := Lib.hid ((HR0.out.below HB.out (Nat.le_refl _)).wide HB.out.size)
        refine (proof20c A n c l i _ HRr.out hn4).mono ?_
        rintro e wp ⟨A1, c1, he, hr, hb, hc1⟩
        rw [HPS.out] at he hr hc1
        have he : e = .returned (.tuple #[.slice A1 P.length c1, .int .i64 0]) := he
        subst he
        obtain ⟨L, hL⟩ : ∃ L, P.length = L := ⟨_, rfl⟩
        have hr : Rk .u64 wp wp.heap.size A1 P.length P := hr
        have hc1 : P.length ≤ c1 ∧ (A1 = none → c1 = 0) := hc1
        rw [hL] at hr hc1 hL13 HV3 ⊢
        have HLP := Lib.hid hL
        have HP := Lib.hid hr
        replace HB := Lib.hid (upB HB.out hb)
        have HC1 := Lib.hid hc1.1
        have HN1 : Hid (A1 = none → L = 0 ∧ c1 = 0) := Lib.hid (fun h => by have := hc1.2 h; have := hc1.1; omega)
        clear hr hb hc1 hL HRr
        obtain ⟨b0, o0, rfl, hb0, d0⟩ := HR0.out.get hlt
        rw [HX.out] at d0
        have B1 : Hid (0 + L ≤ maxLen) := Lib.hid (by unfold maxLen; omega)
        have B2 : Hid ((0 + L) * 8 ≤ 140737488355328) := Lib.hid (by omega)
        have B3 : Hid (L + 1 ≤ maxLen) := Lib.hid (by unfold maxLen; omega)
        have B4 : Hid ((L + 1) * 8 ≤ 140737488355328) := Lib.hid (by omega)
        have HD : Hid (∀ W, Below w.heap.size w W → W.cell? ⟨b0, o0 + i, none⟩ = some (.int .u64 x)) := Lib.hid (fun W hW => (hW.cell (p := ⟨b0, o0 + i, none⟩) hb0).trans d0)
        clear d0
        go_wp2_with fail
        replace HB := Lib.hid (HB.out.drew)
        replace HP := Lib.hid (HP.out.up (Below.refl wp.heap.size wp).drew)
        first | (go_region_held_law (fun w' => w'.cell? ⟨b0, o0 + i, none⟩ = some (.int .u64 x)) (first | exact HD.out _ HB.out | exact HD.out _ (HB.out.alloc HB.out.size _) | exact HD.out _ ((HB.out.alloc HB.out.size _).alloc (by have := HB.out.size; simp; omega) _) | exact HD.out _ (upB HB.out H9.out) | exact HD.out _ ((upB HB.out H9.out).alloc (upB HB.out H9.out).size _))
          (first
            | (go_at_call 24; refine (verify24c R x i n A1 L c1 P _ (by rfl) HP.out HC1.out HXX.out (by omega)).mono ?_; rintro e wn ⟨rfl, hb⟩; rw [HV1.out]; replace HP := Lib.hid (HP.out.up hb); replace HB := Lib.hid (upB HB.out hb); clear hb)
            | (go_at_call 24; refine (verify24c R x i n A9 (P.length + 1) c9 (P ++ [y]) _ (by rfl) HR9.out HC9.out HXX.out (by omega)).mono ?_; rintro e wn2 ⟨rfl, hb⟩; rw [HV2.out]; replace HP := Lib.hid (HP.out.up hb); replace HB := Lib.hid (upB HB.out hb); clear hb)
            | (refine Rot.step_append_any (.tmp 50) (.tmp 51) 31 rfl (by rfl) wn.heap.size 23 i0 (.int .u64 0) 1 8 Try.underlying31 hi0 hz0 hs0 hb0' rfl (by omega) (.slice (some ⟨wn.heap.size, 0, none⟩) 0 0) 0 [] (by rfl) (own0 wn) A1 L c1 (vk .u64 P) (by rfl) (by rw [Nat.mul_one]; simp only [vk, List.length_map]; exact HLP.out) HN1.out (HP.out.up ((Below.refl wn.heap.size wn).alloc (Nat.le_refl _) _)).src (vk_one .u64 P) B1.out B2.out ((Below.refl wn.heap.size wn).alloc (Nat.le_refl _) _).size ?_; intro v1 w9 ho hg; simp only [Nat.zero_add, List.nil_append] at ho; have HO1 := Lib.hid ho; have H9 : Hid (Below wn.heap.size wn w9) := Lib.hid (((Below.refl wn.heap.size wn).alloc (Nat.le_refl _) _).grown hg ((Below.refl wn.heap.size wn).alloc (Nat.le_refl _) _).size (fun q hq => by have hq : some wn.heap.size = some q := hq; injection hq with hq; omega)); skip; clear ho hg)
            | (refine Rot.step_append_any (.tmp 50) (.tmp 51) 31 rfl (by rfl) wn.heap.size 23 i0 (.int .u64 0) 1 8 Try.underlying31 hi0 hz0 hs0 hb0' rfl (by omega) (.slice (some ⟨wn.heap.size, 0, none⟩) 0 0) 0 [] (by rfl) ((own0 wn).alloc _) A1 L c1 (vk .u64 P) (by rfl) (by rw [Nat.mul_one]; simp only [vk, List.length_map]; exact HLP.out) HN1.out (HP.out.up (((Below.refl wn.heap.size wn).alloc (Nat.le_refl _) _).alloc (by simp) _)).src (vk_one .u64 P) B1.out B2.out (((Below.refl wn.heap.size wn).alloc (Nat.le_refl _) _).alloc (by simp) _).size ?_; intro v1 w9 ho hg; simp only [Nat.zero_add, List.nil_append] at ho; have HO1 := Lib.hid ho; have H9 : Hid (Below wn.heap.size wn w9) := Lib.hid ((((Below.refl wn.heap.size wn).alloc (Nat.le_refl _) _).alloc (by simp) _).grown hg (((Below.refl wn.heap.size wn).alloc (Nat.le_refl _) _).alloc (by simp) _).size (fun q hq => by have hq : some wn.heap.size = some q := hq; injection hq with hq; omega)); have HM := Lib.hid (more_b hg); clear ho hg)
            | (refine Rot.step_append_any (.tmp 50) (.tmp 51) 31 rfl (by rfl) wn.heap.size 23 i0 (.int .u64 0) 1 8 Try.underlying31 hi0 hz0 hs0 hb0' rfl (by omega) (.slice (some ⟨(wn.heap.size + 1), 0, none⟩) 0 0) 0 [] (by rfl) (own0' wn _ rfl) A1 L c1 (vk .u64 P) (by rfl) (by rw [Nat.mul_one]; simp only [vk, List.length_map]; exact HLP.out) HN1.out (HP.out.up (((Below.refl wn.heap.size wn).alloc (Nat.le_refl _) _).alloc (by simp) _)).src (vk_one .u64 P) B1.out B2.out (((Below.refl wn.heap.size wn).alloc (Nat.le_refl _) _).alloc (by simp) _).size ?_; intro v1 w9 ho hg; simp only [Nat.zero_add, List.nil_append] at ho; have HO1 := Lib.hid ho; have H9 : Hid (Below wn.heap.size wn w9) := Lib.hid ((((Below.refl wn.heap.size wn).alloc (Nat.le_refl _) _).alloc (by simp) _).grown hg (((Below.refl wn.heap.size wn).alloc (Nat.le_refl _) _).alloc (by simp) _).size (fun q hq => by have hq : some (wn.heap.size + 1) = some q := hq; injection hq with hq; omega)); have HM := Lib.hid (more_c hg); clear ho hg)
            | (refine Rot.step_append_any (.tmp 52) (.tmp 54) 31 rfl (by rfl) wn.heap.size 23 i0 (.int .u64 0) 1 8 Try.underlying31 hi0 hz0 hs0 hb0' rfl (by omega) v1 L (vk .u64 P) (by rfl) (HO1.out.alloc _) (some ⟨w9.heap.size, 0, none⟩) 1 1 [.int .u64 y] (by rfl) rfl (fun h => by cases h) (fun ad e => by injection e with e; subst e; exact new_cell w9 (.int .u64 y) 23 w9.heap.size rfl) (one_int .u64 y) B3.out B4.out (H9.out.alloc H9.out.size _).size ?_; intro v2 w10 ho hg; have hbn : Below wn.heap.size wn w10 := (H9.out.alloc H9.out.size _).grown hg (H9.out.alloc H9.out.size _).size (fun q hq => (HO1.out.lt q hq).1); have ho2 := app_own HLP.out ho; obtain ⟨A9, c9, rfl, hr9, hc9, _⟩ := Rk.ownedC ho2 HLQ.out HWQ.out; rw [List.length_append] at hr9 hc9; have HR9 := Lib.hid hr9; have HC9 := Lib.hid hc9; replace HP := Lib.hid (HP.out.up hbn); replace HB := Lib.hid (upB HB.out hbn); clear ho ho2 hr9 hc9 hg hbn)
            | (refine Rot.step_append_any (.tmp 52) (.tmp 54) 31 rfl (by rfl) wn.heap.size 23 i0 (.int .u64 0) 1 8 Try.underlying31 hi0 hz0 hs0 hb0' rfl (by omega) v1 L (vk .u64 P) (by rfl) HO1.out (some ⟨wn.heap.size + 1, 0, none⟩) 1 1 [.int .u64 y] (by rfl) rfl (fun h => by cases h) (one_src HM.out) (one_int .u64 y) B3.out B4.out H9.out.size ?_; intro v2 w10 ho hg; have hbn : Below wn.heap.size wn w10 := H9.out.grown hg H9.out.size (fun q hq => (HO1.out.lt q hq).1); have ho2 := app_own HLP.out ho; obtain ⟨A9, c9, rfl, hr9, hc9, _⟩ := Rk.ownedC ho2 HLQ.out HWQ.out; rw [List.length_append] at hr9 hc9; have HR9 := Lib.hid hr9; have HC9 := Lib.hid hc9; replace HP := Lib.hid (HP.out.up hbn); replace HB := Lib.hid (upB HB.out hbn); clear ho ho2 hr9 hc9 hg hbn)
            | (refine Rot.step_append_any (.tmp 52) (.tmp 54) 31 rfl (by rfl) wn.heap.size 23 i0 (.int .u64 0) 1 8 Try.underlying31 hi0 hz0 hs0 hb0' rfl (by omega) v1 L (vk .u64 P) (by rfl) HO1.out (some ⟨wn.heap.size, 0, none⟩) 1 1 [.int .u64 y] (by rfl) rfl (fun h => by cases h) (one_src HM.out) (one_int .u64 y) B3.out B4.out H9.out.size ?_; intro v2 w10 ho hg; have hbn : Below wn.heap.size wn w10 := H9.out.grown hg H9.out.size (fun q hq => (HO1.out.lt q hq).1); have ho2 := app_own HLP.out ho; obtain ⟨A9, c9, rfl, hr9, hc9, _⟩ := Rk.ownedC ho2 HLQ.out HWQ.out; rw [List.length_append] at hr9 hc9; have HR9 := Lib.hid hr9; have HC9 := Lib.hid hc9; replace HP := Lib.hid (HP.out.up hbn); replace HB := Lib.hid (upB HB.out hbn); clear ho ho2 hr9 hc9 hg hbn))) | fail
        all_goals (
          have HPW := HP
          clear HR9 HC9 HLQ HWQ HV1 HV2 H9 HO1
          rcases Nat.eq_zero_or_pos L with hz | hz
          · subst hz
            have g1 : decide ((0 : Int) < ((0 : Nat) : Int)) = false := by decide
            have d0 := HD.out _ HB.out
            go_wp2_with fail
            go_quiet (fail)
            go_wp2_with fail
            go_roundw
            case rel => exact ⟨i + 1, by omega, by go_num, Lib.hid (below_drewN HB.out nq)⟩
            case measure => simp [intOf]; omega
          · obtain ⟨m, rfl⟩ : ∃ m, L = m + 1 := ⟨L - 1, by omega⟩
            obtain ⟨bp, op, rfl, _, _⟩ := HP.out.get (i := 0) (by omega)
            have HPT := Lib.hid (HP.out.take (m := m) (by omega))
            have HV4 : Hid (vfS R x i n (P.take m) = false) := Lib.hid (HV3.out (by omega))
            have hc2 := HC1.out
            have hc3 : (m : Int) ≤ (c1 : Int) := by omega
            have hc4 : m ≤ c1 := by omega
            have g1 : (0 : Int) < (m : Int) + 1 := by omega
            have g2 : IntKind.i64.wrap ((m : Int) + 1 - 1) = (m : Int) := by rw [IntWalk.i64_in _ (by omega)]; omega
            have g3 : (0 : Int) ≤ (m : Int) := by omega
            have g4 : IntKind.i64.wrap (m : Int) = (m : Int) := IntWalk.i64_in _ (by omega)
            have g5 : (0 : Int) ≤ (m : Int) ∧ (m : Int) ≤ (c1 : Int) := by omega
            have d0 := HD.out _ HB.out
            clear hc2
            go_wp2_with fail
            go_still_tail 17, (by kernel_rfl)
            clear d0
            replace HB := Lib.hid (HB.out.drew)
            replace HPT := Lib.hid (HPT.out.up (Below.refl wn2.heap.size wn2).drew)
            go_wp2_with fail
            refine (verify24c R x i n (some ⟨bp, op, none⟩) m c1 (P.take m) _ (by rfl) HPT.out hc4 HXX.out (by omega)).mono ?_
            rintro e wz ⟨rfl, hb⟩
            rw [HV4.out]
            replace HB := Lib.hid (upB HB.out hb)
            clear hb
            go_wp2_with fail
            go_roundw
            case rel => exact ⟨i + 1, by omega, by go_num, HB⟩
            case measure => simp [intOf]; omega)
      · have hltI : ¬ (i : Int) < (n : Int) := by omega
        go_wp2_with fail
        refine (alive15 _).mono ?_
        rintro e wy ⟨rfl, hb⟩
        replace HB := Lib.hid (upB HB.out hb)
        clear hb
        go_wp2_with fail
        go_ret
        exact ⟨rfl, HB.out⟩
end Go.Proofs.Ytbhdghopdhehdaa.Wk
