/- The string at an offset, in the layer. Conditions: the reader lies in a block of its own; its bytes read as the list; at most 100000 bytes. -/
import Derived.Test.YtppgaddjjlcfcaaIn
set_option linter.unusedSimpArgs false
set_option linter.unusedVariables false
namespace Go.Proofs.Ytppgaddjjlcfcaa.Mt
open Go
def teE (zs : List Int) (n : Nat) (t : Int) : Int := if nuE zs n t ≠ 0 then nuE zs n t else if nuV zs n t < 0 then 5 else if 65536 < nuV zs n t then 4 else if (n : Int) - nuN zs n t < nuV zs n t then 7 else 0
def teN (zs : List Int) (n : Nat) (t : Int) : Int := if teE zs n t = 0 then nuN zs n t + nuV zs n t else 0
/-- the elements from lo on, v of them -/
def sub (zs : List Int) (lo v : Nat) : List Int := (zs.drop lo).take v
def teL (zs : List Int) (n : Nat) (t : Int) : List Int := if teE zs n t = 0 then sub zs (nuN zs n t).toNat (nuV zs n t).toNat else []
theorem te_num {zs : List Int} {n : Nat} {t : Int} (h : nuE zs n t ≠ 0) : teE zs n t = nuE zs n t := if_pos h
theorem te_neg {zs : List Int} {n : Nat} {t : Int} (h : nuE zs n t = 0) (h1 : nuV zs n t < 0) : teE zs n t = 5 := by unfold teE; rw [if_neg (fun h2 => h2 h), if_pos h1]
theorem te_long {zs : List Int} {n : Nat} {t : Int} (h : nuE zs n t = 0) (h1 : ¬ nuV zs n t < 0) (h2 : 65536 < nuV zs n t) : teE zs n t = 4 := by unfold teE; rw [if_neg (fun h2 => h2 h), if_neg h1, if_pos h2]
theorem te_short {zs : List Int} {n : Nat} {t : Int} (h : nuE zs n t = 0) (h1 : ¬ nuV zs n t < 0) (h2 : ¬ 65536 < nuV zs n t) (h3 : (n : Int) - nuN zs n t < nuV zs n t) : teE zs n t = 7 := by unfold teE; rw [if_neg (fun h2 => h2 h), if_neg h1, if_neg h2, if_pos h3]
theorem te_ok {zs : List Int} {n : Nat} {t : Int} (h : nuE zs n t = 0) (h1 : ¬ nuV zs n t < 0) (h2 : ¬ 65536 < nuV zs n t) (h3 : ¬ (n : Int) - nuN zs n t < nuV zs n t) : teE zs n t = 0 ∧ teN zs n t = nuN zs n t + nuV zs n t ∧ teL zs n t = sub zs (nuN zs n t).toNat (nuV zs n t).toNat := by
  have e : teE zs n t = 0 := by unfold teE; rw [if_neg (fun h2 => h2 h), if_neg h1, if_neg h2, if_neg h3]
  exact ⟨e, if_pos e, if_pos e⟩
theorem te_no {zs : List Int} {n : Nat} {t : Int} (h : teE zs n t ≠ 0) : teN zs n t = 0 ∧ teL zs n t = [] := ⟨if_neg h, if_neg h⟩
theorem nuN_in {zs : List Int} {n : Nat} {t : Int} (h : nuE zs n t = 0) : ∃ x : Nat, nuN zs n t = (x : Int) ∧ x ≤ n ∧ 0 < x := by
  rcases nu_cases zs n t with h1 | ⟨a, k, rfl, h1, h2, h3, h4, h5⟩
  · exact absurd h h1
  · exact ⟨a + k + 1, (nu_ok h1 h2 h3 h4 h5).2.2, by omega, by omega⟩
theorem sub_len {zs : List Int} {lo v : Nat} (h : lo + v ≤ zs.length) : (sub zs lo v).length = v := by unfold sub; rw [List.length_take, List.length_drop]; omega
theorem sub_at {zs : List Int} {lo v i : Nat} (h : i < v) : iat (sub zs lo v) i = iat zs (lo + i) := by
  unfold sub iat
  rw [List.getD_eq_getElem?_getD, List.getD_eq_getElem?_getD, List.getElem?_take, if_pos h, List.getElem?_drop]
theorem uz_in {c : Nat} (h : c < 2 ^ 64) : -9223372036854775808 ≤ uz c ∧ uz c ≤ 9223372036854775807 := by
  have : (2 : Nat) ^ 64 = 18446744073709551616 := by decide
  unfold uz
  split <;> omega
end Go.Proofs.Ytppgaddjjlcfcaa.Mt
namespace Go.Proofs.Ytppgaddjjlcfcaa.Wk
open Go.RowKit
open Go.Proofs.Ytppgaddjjlcfcaa.Mt
theorem Rk.sub {w : World} {B b off n lo v : Nat} {zs : List Int} (h : Rk .u8 w B (some ⟨b, off, none⟩) n zs) (hle : lo + v ≤ n) (hb : b < B) : Rk .u8 w B (some ⟨b, off + lo, none⟩) v (Mt.sub zs lo v) := by
  refine ⟨sub_len (by rw [h.1]; exact hle), by have := h.2.1; omega, fun _ => ⟨b, off + lo, rfl, hb, fun i hi => ?_⟩, fun i => ?_⟩
  · rw [sub_at hi, Nat.add_assoc]
    exact h.two (by omega)
  · by_cases hi : i < v
    · rw [sub_at hi]; exact h.2.2.2 _
    · have : iat (Mt.sub zs lo v) i = 0 := by
        unfold iat
        rw [List.getD_eq_getElem?_getD, List.getElem?_eq_none]
        · rfl
        · unfold Mt.sub; rw [List.length_take]; omega
      rw [this]
      decide
theorem rk_empty (w : World) (B : Nat) (A : Option Addr) : Rk .u8 w B A 0 [] := ⟨rfl, by omega, fun h => by omega, fun i => by simp [iat, Lit.wf, IntKind.min, IntKind.max, IntKind.signed, IntKind.bits]⟩
def TeR (zs : List Int) (n : Nat) (t : Int) (g B : Nat) (w : World) (e : Ending) (w' : World) : Prop :=
  (teE zs n t ≠ 0 ∧ e = .panicked [fl (teE zs n t)] ∧ ∃ x, Below w.heap.size (w.setCell ⟨g, 1, none⟩ (.int .i64 x)) w') ∨ (teE zs n t = 0 ∧ ∃ A' c', e = .returned (.slice A' (teL zs n t).length c') ∧ (teL zs n t).length ≤ c' ∧ Rk .u8 w' B A' (teL zs n t).length (teL zs n t) ∧ Below w.heap.size (w.setCell ⟨g, 1, none⟩ (.int .i64 (teN zs n t))) w')
theorem set_set {w : World} {g i : Nat} {x y : Value} : ((w.setCell ⟨g, i, none⟩ x).setCell ⟨g, i, none⟩ y) = w.setCell ⟨g, i, none⟩ y := by
  simp only [World.setCell]
  congr 1
  apply Array.ext_getElem?
  intro k
  simp only [Array.getElem?_modify]
  split
  · cases w.heap[k]? with
    | none => rfl
    | some o => cases o <;> simp
  · rfl
theorem set_same {w : World} {g i : Nat} {t : TypeId} {cs : Array Value} {u : Value} (h : Bx w g t cs) (hc : cs[i]? = some u) : w.setCell ⟨g, i, none⟩ u = w := by
  have h1 := h.set i u
  have hi : i < cs.size := (Array.getElem?_eq_some_iff.1 hc).1
  have e : cs.setIfInBounds i u = cs := by
    apply Array.ext_getElem?
    intro k
    by_cases hk : i = k
    · subst hk
      rw [Array.getElem?_setIfInBounds_self_of_lt hi, hc]
    · rw [Array.getElem?_setIfInBounds_ne hk]
  rw [e] at h1
  have hh : (w.setCell ⟨g, i, none⟩ u).heap = w.heap := by
    apply Array.ext_getElem?
    intro k
    by_cases hk : k = g
    · subst hk
      rw [h1, h]
    · exact Below.heap_setCell _ _ _ _ hk
  cases w
  simp only [World.setCell] at hh ⊢
  rw [hh]
set_option maxHeartbeats 4000000 in
set_option maxRecDepth 100000 in
theorem bytes40 (g n c : Nat) (A : Option Addr) (t : Int) (zs : List Int) (B : Nat) (w : World) (h : Bx w g 57 #[.slice A n c, .int .i64 t]) (hz : Rk .u8 w B A n zs) (hB : B ≤ g) (hn : n ≤ 100000) (hc : n ≤ c) (hcc : c ≤ 9223372036854775807) : Calls Try.prog 40 #[.pointer (some ⟨g, 0, none⟩)] w (TeR zs n t g B w) := by
  go_enter Try.func40, Try.ntmps40
  go_wp2_with fail
  refine (number37 g n c A t zs B w h hz hB hn).mono ?_
  rintro e w1 (⟨hne, rfl, hb⟩ | ⟨hE, rfl, hb⟩)
  · have he := te_num hne
    refine ⟨rfl, .inl ⟨by rw [he]; exact hne, by rw [he], t, ?_⟩⟩
    rw [set_same h (by rfl)]
    exact hb
  · obtain ⟨v, hv⟩ : ∃ v, nuV zs n t = v := ⟨_, rfl⟩
    obtain ⟨nx, hnx, hnxn, hnx0⟩ := nuN_in hE
    rw [hnx] at hb
    rw [hv]
    have hg : Bx w1 g 57 #[.slice A n c, .int .i64 (nx : Int)] := (h.set 1 (.int .i64 nx)).below hb (by have := h.lt; omega)
    have HW := Lib.hid hb
    have HZ1 := Lib.hid (hz.below (set_below hb hB h.lt) (Nat.le_refl _))
    have HGL := Lib.hid h.lt
    have HEE := Lib.hid hE
    have HV := Lib.hid hv
    have HNX := Lib.hid hnx
    clear hb hz h hE hv hnx
    by_cases h1 : v < 0
    · have he := te_neg HEE.out (by rw [HV.out]; exact h1)
      have HE := Lib.hid he
      clear he
      go_wp2_with fail
      refine (fail46 5 _).mono ?_
      rintro e w' ⟨rfl, rfl⟩
      exact ⟨rfl, .inl ⟨by rw [HE.out]; decide, by rw [HE.out], nx, HW.out⟩⟩
    · by_cases h2 : 65536 < v
      · have he := te_long HEE.out (by rw [HV.out]; exact h1) (by rw [HV.out]; exact h2)
        have HE := Lib.hid he
        clear he
        go_wp2_with fail
        refine (fail46 4 _).mono ?_
        rintro e w' ⟨rfl, rfl⟩
        exact ⟨rfl, .inl ⟨by rw [HE.out]; decide, by rw [HE.out], nx, HW.out⟩⟩
      · obtain ⟨m, rfl⟩ : ∃ m : Nat, v = (m : Int) := ⟨v.toNat, by omega⟩
        have hm6 : m ≤ 65536 := by omega
        have W1 : IntKind.i64.wrap ((n : Int) - (nx : Int)) = (n : Int) - (nx : Int) := IntWalk.i64_in _ (by omega)
        obtain ⟨c0, c1⟩ := hg.cells2
        have hlt := hg.lt
        have fz := hg.free 1
        by_cases h3 : (n : Int) - (nx : Int) < (m : Int)
        · have he := te_short HEE.out (by rw [HV.out]; exact h1) (by rw [HV.out]; exact h2) (by rw [HV.out, HNX.out]; exact h3)
          have HE := Lib.hid he
          clear he hg
          go_wp2_with fail
          go_quiet (fail)
          go_wp2_with fail
          refine (fail46 7 _).mono ?_
          rintro e w' ⟨rfl, rfl⟩
          exact ⟨rfl, .inl ⟨by rw [HE.out]; decide, by rw [HE.out], nx, below_drewN HW.out nq⟩⟩
        · have hok := te_ok HEE.out (by rw [HV.out]; exact h1) (by rw [HV.out]; exact h2) (by rw [HV.out, HNX.out]; exact h3)
          rw [HV.out, HNX.out] at hok
          simp only [Int.toNat_natCast] at hok
          have hln : nx + m ≤ n := by omega
          have HOK := Lib.hid hok
          have HLN : Hid ((Mt.sub zs nx m).length = m) := Lib.hid (sub_len (by rw [HZ1.out.1]; exact hln))
          have W2 : IntKind.i64.wrap ((nx : Int) + (m : Int)) = (nx : Int) + (m : Int) := IntWalk.i64_in _ (by omega)
          have W3 : IntKind.i64.wrap ((nx : Int) + (m : Int) - (m : Int)) = (nx : Int) := by rw [IntWalk.i64_in _ (by omega)]; omega
          have p1 : (0 : Int) ≤ (nx : Int) + (m : Int) := by omega
          have p2 : (nx : Int) + (m : Int) ≤ (c : Int) := by omega
          have p3 : (nx : Int) ≤ (nx : Int) + (m : Int) := by omega
          have T1 : ((nx : Int) + (m : Int)).toNat = nx + m := by omega
          have T2 : nx + m - nx = m := by omega
          clear hok h3
          rcases Nat.eq_zero_or_pos m with hm0 | hm0
          · subst hm0
            clear hg
            by_cases hcl : c = nx
            · as_aux_lemma =>
                go_wp2_with fail
                go_quiet (fail)
                go_wp2_with fail
                go_quiet (fail)
                go_wp2_with fail
                go_ret
                refine .inr ⟨HOK.out.1, ?_⟩
                rw [HOK.out.2.2, HLN.out, HOK.out.2.1]
                exact ⟨_, _, rfl, by omega, by rw [show Mt.sub zs nx 0 = [] by simp [Mt.sub]]; exact rk_empty _ _ _, below_drewN (by rw [← set_set (x := .int .i64 (nx : Int))]; exact below_set (below_drewN HW.out _) HGL.out) _⟩
            · as_aux_lemma =>
                go_wp2_with fail
                go_quiet (fail)
                go_wp2_with fail
                go_quiet (fail)
                go_wp2_with fail
                go_ret
                refine .inr ⟨HOK.out.1, ?_⟩
                rw [HOK.out.2.2, HLN.out, HOK.out.2.1]
                exact ⟨_, _, rfl, by omega, by rw [show Mt.sub zs nx 0 = [] by simp [Mt.sub]]; exact rk_empty _ _ _, below_drewN (by rw [← set_set (x := .int .i64 (nx : Int))]; exact below_set (below_drewN HW.out _) HGL.out) _⟩
          · obtain ⟨b, off, rfl, hbB, _⟩ := HZ1.out.get (i := 0) (by omega)
            have hcl : ¬ c = nx := by omega
            have hR := Lib.hid (HZ1.out.sub hln hbB)
            clear hg
            go_wp2_with fail
            go_quiet (fail)
            go_wp2_with fail
            go_quiet (fail)
            go_wp2_with fail
            go_ret
            refine .inr ⟨HOK.out.1, ?_⟩
            rw [HOK.out.2.2, HLN.out, HOK.out.2.1]
            exact ⟨_, _, rfl, by omega, hR.out.below (below_drewN ((below_drewN (Below.refl B w1) _).setCell (p := ⟨g, 1, none⟩) hB _) _) (Nat.le_refl _), below_drewN (by rw [← set_set (x := .int .i64 (nx : Int))]; exact below_set (below_drewN HW.out _) HGL.out) _⟩
end Go.Proofs.Ytppgaddjjlcfcaa.Wk
