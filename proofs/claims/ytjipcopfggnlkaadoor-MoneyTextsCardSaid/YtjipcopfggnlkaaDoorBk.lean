/- What is shown is parsed, and back: plain mathematics. No condition. -/
import Derived.Test.YtjipcopfggnlkaaDoorOp
set_option linter.unusedSimpArgs false
set_option linter.unusedVariables false
namespace Go.Proofs.YtjipcopfggnlkaaDoor.Mt
open Go
theorem nv_app (a : List UInt8) (c : UInt8) : nv (a ++ [c]) = st (nv a) c := by unfold nv; rw [List.foldl_append]; rfl
theorem dg_app {a b : List UInt8} : dgB (a ++ b) = true ↔ dgB a = true ∧ dgB b = true := by unfold dgB; rw [List.all_append, Bool.and_eq_true]
theorem dg_mem {a : List UInt8} (h : dgB a = true) {c : UInt8} (hc : c ∈ a) : 48 ≤ c.toNat ∧ c.toNat ≤ 57 := by
  unfold dgB at h
  have := List.all_eq_true.1 h c hc
  unfold dig at this
  simpa using this
theorem st_num {n : Nat} {c : UInt8} (h : 48 ≤ c.toNat) : st n c = 10 * n + (c.toNat - 48) := by
  unfold st
  rw [if_neg]
  rintro (h1 | h1) <;> rw [h1] at h <;> revert h <;> decide
theorem byte_num {d : Nat} (h : d < 10) : (UInt8.ofNat (48 + d)).toNat = 48 + d := by rw [UInt8.toNat_ofNat']; exact Nat.mod_eq_of_lt (by omega)
theorem lat_app {a b : List UInt8} (h : a ≠ []) : lat (a ++ b) 0 = lat a 0 := by
  cases a with
  | nil => exact absurd rfl h
  | cons x l => rfl
theorem dec_facts : ∀ (m u : Nat), u ≤ m → dgB (Lib.decDigits u) = true ∧ Lib.decDigits u ≠ [] ∧ nv (Lib.decDigits u) = u ∧ (Lib.decDigits u = [48] ∨ lat (Lib.decDigits u) 0 ≠ 48) := by
  intro m
  induction m with
  | zero =>
    intro u hu
    obtain rfl : u = 0 := by omega
    rw [Lib.decDigits_one (by decide)]
    exact ⟨by decide, by decide, by decide, .inl rfl⟩
  | succ m ih =>
    intro u hu
    by_cases h : u < 10
    · rw [Lib.decDigits_one h]
      refine ⟨?_, by simp, ?_, ?_⟩
      · unfold dgB
        simp only [List.all_cons, List.all_nil, Bool.and_true]
        unfold dig
        rw [byte_num h]
        simp
        omega
      · show st 0 _ = u
        rw [st_num (by rw [byte_num h]; omega), byte_num h]
        omega
      · rcases Nat.eq_zero_or_pos u with h0 | h0
        · subst h0; left; rfl
        · right
          show ((UInt8.ofNat (48 + u)).toNat : Int) ≠ 48
          rw [byte_num h]
          omega
    · obtain ⟨i1, i2, i3, i4⟩ := ih (u / 10) (by omega)
      have e : Lib.decDigits u = Lib.decDigits (u / 10) ++ [UInt8.ofNat (48 + u % 10)] := by rw [Lib.decDigits, dif_neg h]
      have h10 : u % 10 < 10 := Nat.mod_lt _ (by decide)
      rw [e]
      refine ⟨dg_app.2 ⟨i1, ?_⟩, by simp, ?_, .inr ?_⟩
      · unfold dgB
        simp only [List.all_cons, List.all_nil, Bool.and_true]
        unfold dig
        rw [byte_num h10]
        simp
        omega
      · rw [nv_app, i3, st_num (by rw [byte_num h10]; omega), byte_num h10]
        omega
      · rw [lat_app i2]
        rcases i4 with h4 | h4
        · rw [h4] at i3
          have : u / 10 = 0 := by rw [← i3]; decide
          omega
        · exact h4
theorem dec_of : ∀ (m : Nat) (U : List UInt8), U.length ≤ m → dgB U = true → U ≠ [] → (U = [48] ∨ lat U 0 ≠ 48) → Lib.decDigits (nv U) = U ∧ (U = [48] ∨ 0 < nv U) := by
  intro m
  induction m with
  | zero =>
    intro U hl _ hne _
    exact absurd (List.eq_nil_of_length_eq_zero (by omega)) hne
  | succ m ih =>
    intro U hl hd hne hh
    rcases List.eq_nil_or_concat U with h | ⟨V, c, h⟩
    · exact absurd h hne
    · rw [List.concat_eq_append] at h
      subst h
      obtain ⟨hdV, hdc⟩ := dg_app.1 hd
      have hc := dg_mem hdc (List.mem_singleton.2 rfl)
      have hcn : c = UInt8.ofNat (48 + (c.toNat - 48)) := by
        apply UInt8.toNat_inj.1
        rw [byte_num (by omega)]
        omega
      by_cases hV : V = []
      · subst hV
        rw [List.nil_append] at hh ⊢
        have e : nv [c] = c.toNat - 48 := by show st 0 c = _; rw [st_num hc.1]; omega
        rw [e, Lib.decDigits_one (by omega), ← hcn]
        refine ⟨rfl, ?_⟩
        rcases hh with h | h
        · exact .inl h
        · right
          have : ((c.toNat : Nat) : Int) ≠ 48 := h
          omega
      · have hh2 : V = [48] ∨ lat V 0 ≠ 48 := by
          rcases hh with h | h
          · have := congrArg List.length h
            rw [List.length_append] at this
            simp at this
            exact absurd this hV
          · rw [lat_app hV] at h; exact .inr h
        have hh3 : lat V 0 ≠ 48 := by
          rcases hh with h | h
          · have := congrArg List.length h
            rw [List.length_append] at this
            simp at this
            exact absurd this hV
          · rw [lat_app hV] at h; exact h
        rw [List.length_append] at hl
        have hl2 : V.length ≤ m := by
          have : [c].length = 1 := rfl
          omega
        obtain ⟨i1, i2⟩ := ih V hl2 hdV hV hh2
        have hpos : 0 < nv V := by
          rcases i2 with h | h
          · exfalso; apply hh3; rw [h]; rfl
          · exact h
        have e : nv (V ++ [c]) = 10 * nv V + (c.toNat - 48) := by rw [nv_app, st_num hc.1]
        rw [e]
        refine ⟨?_, .inr (by omega)⟩
        rw [Lib.decDigits, dif_neg (by omega), show (10 * nv V + (c.toNat - 48)) / 10 = nv V by omega, show (10 * nv V + (c.toNat - 48)) % 10 = c.toNat - 48 by omega, i1, ← hcn]
theorem nv_text (U : List UInt8) (a b : UInt8) (ha : 48 ≤ a.toNat) (hb : 48 ≤ b.toNat) : nv (U ++ 46 :: [a, b]) = 100 * nv U + 10 * (a.toNat - 48) + (b.toNat - 48) := by
  have e : U ++ 46 :: [a, b] = ((U ++ [46]) ++ [a]) ++ [b] := by simp
  rw [e, nv_app, nv_app, nv_app, st_num hb, st_num ha, st_skip (.inr rfl)]
  omega
theorem nv_neg (l : List UInt8) : nv (45 :: l) = nv l := rfl
theorem cU_text {U C : List UInt8} (h : dgB U = true) : cU (U ++ 46 :: C) = U ∧ cC (U ++ 46 :: C) = C := by
  have h1 : cU (U ++ 46 :: C) = U := by
    unfold cU
    rw [List.takeWhile_append_of_pos (fun c hc => by
      have := dg_mem h hc
      have hne : c ≠ 46 := fun h2 => by rw [h2] at this; revert this; decide
      simp [hne])]
    simp
  refine ⟨h1, ?_⟩
  unfold cC
  rw [h1, show U ++ 46 :: C = (U ++ [46]) ++ C by simp, List.drop_left' (by simp)]
theorem ce_dig (u : Nat) : dgB (ce u) = true ∧ (ce u).length = 2 := by
  refine ⟨?_, rfl⟩
  unfold dgB ce dig
  simp only [List.all_cons, List.all_nil, Bool.and_true]
  rw [byte_num (Nat.mod_lt _ (by decide)), byte_num (Nat.mod_lt _ (by decide))]
  simp
  omega
/-- what is shown has an amount's format, and its number -/
theorem show_facts (n : Int) : amB (shL n) = true ∧ nv (shL n) = n.natAbs ∧ (lat (shL n) 0 = 45 ↔ n < 0) := by
  obtain ⟨d1, d2, d3, d4⟩ := dec_facts _ (n.natAbs / 100) (Nat.le_refl _)
  obtain ⟨c1, c2⟩ := ce_dig n.natAbs
  have hb1 := byte_num (show n.natAbs / 10 % 10 < 10 by omega)
  have hb2 := byte_num (show n.natAbs % 10 < 10 by omega)
  have hT : nv (Lib.decDigits (n.natAbs / 100) ++ 46 :: ce n.natAbs) = n.natAbs := by
    unfold ce
    rw [nv_text _ _ _ (by rw [hb1]; omega) (by rw [hb2]; omega), d3, hb1, hb2]
    omega
  have hsh : shL n = sg n ++ (Lib.decDigits (n.natAbs / 100) ++ 46 :: ce n.natAbs) := by unfold shL; simp
  have htx : tx (shL n) = Lib.decDigits (n.natAbs / 100) ++ 46 :: ce n.natAbs ∧ nv (shL n) = n.natAbs ∧ (lat (shL n) 0 = 45 ↔ n < 0) := by
    rw [hsh]
    unfold sg
    by_cases h0 : n < 0
    · rw [if_pos h0]
      refine ⟨by simp [tx, Lib.trimPrefix, Lib.hasPrefix], hT, fun _ => h0, fun _ => rfl⟩
    · rw [if_neg h0, List.nil_append]
      have hne : lat (Lib.decDigits (n.natAbs / 100) ++ 46 :: ce n.natAbs) 0 ≠ 45 := by
        rw [lat_app d2]
        cases hd : Lib.decDigits (n.natAbs / 100) with
        | nil => exact absurd hd d2
        | cons x l =>
          rw [hd] at d1
          have := dg_mem d1 (c := x) (by simp)
          show ((x.toNat : Nat) : Int) ≠ 45
          omega
      refine ⟨?_, hT, fun h => absurd h hne, fun h => absurd h h0⟩
      rcases tx_cases (Lib.decDigits (n.natAbs / 100) ++ 46 :: ce n.natAbs) with ⟨t, e1, e2⟩ | ⟨_, e2⟩ | ⟨e1, e2⟩
      · exfalso; apply hne; rw [e1]; rfl
      · exact e2
      · exact absurd e1 (by simp)
  obtain ⟨t1, t2, t3⟩ := htx
  refine ⟨?_, t2, t3⟩
  unfold amB
  rw [t1, (cU_text d1).1, (cU_text d1).2, if_neg d2, if_neg (by rw [d1]; decide), if_neg (by rw [c2]; decide), if_neg (by rw [c1]; decide), if_pos d4]
  apply decide_eq_true
  intro h
  rw [h] at t2 t3
  have h1 : nv [45, 48, 46, 48, 48] = 0 := by decide
  have h2 := t3.1 rfl
  omega
/-- what is parsed is shown as it was -/
theorem parse_show {l : List UInt8} (h : amB l = true) : shL (if lat l 0 = 45 then -((nv l : Nat) : Int) else ((nv l : Nat) : Int)) = l := by
  have ha := am_parts h
  obtain ⟨d1, _⟩ := dec_of _ _ (Nat.le_refl _) ha.du ha.ne ha.lead
  generalize cU (tx l) = U at *
  generalize hC : cC (tx l) = C at *
  match C, ha.two with
  | [a, b], _ =>
    have hA := dg_mem ha.dc (c := a) (by simp)
    have hB := dg_mem ha.dc (c := b) (by simp)
    have hT : nv (tx l) = 100 * nv U + 10 * (a.toNat - 48) + (b.toNat - 48) := by rw [ha.text]; exact nv_text U a b hA.1 hB.1
    have hea : UInt8.ofNat (48 + (a.toNat - 48)) = a := by apply UInt8.toNat_inj.1; rw [byte_num (by omega)]; omega
    have heb : UInt8.ofNat (48 + (b.toNat - 48)) = b := by apply UInt8.toNat_inj.1; rw [byte_num (by omega)]; omega
    have key : ∀ m : Int, m.natAbs = nv (tx l) → Lib.decDigits (m.natAbs / 100) ++ [46] ++ ce m.natAbs = tx l := by
      intro m hm
      rw [hm, hT, show (100 * nv U + 10 * (a.toNat - 48) + (b.toNat - 48)) / 100 = nv U by omega, d1, ha.text]
      unfold ce
      rw [show (100 * nv U + 10 * (a.toNat - 48) + (b.toNat - 48)) / 10 % 10 = a.toNat - 48 by omega, show (100 * nv U + 10 * (a.toNat - 48) + (b.toNat - 48)) % 10 = b.toNat - 48 by omega, hea, heb]
      simp
    rcases tx_cases l with ⟨t, e1, e2⟩ | ⟨e1, e2⟩ | ⟨e1, e2⟩
    · have hn : nv l = nv (tx l) := by rw [e2, e1]; rfl
      have h45 : lat l 0 = 45 := by rw [e1]; rfl
      rw [if_pos h45]
      have hpos : 0 < nv l := by
        rcases Nat.eq_zero_or_pos (nv l) with h0 | h0
        · exfalso
          rw [hn, hT] at h0
          have hu : nv U = 0 := by omega
          have ha2 : a = 48 := by rw [← hea, show a.toNat - 48 = 0 by omega]; rfl
          have hb2 : b = 48 := by rw [← heb, show b.toNat - 48 = 0 by omega]; rfl
          have hU : U = [48] := by
            rw [← d1, hu, Lib.decDigits_one (by decide)]
            rfl
          apply ha.zero
          rw [e1, ← e2, ha.text, hU, ha2, hb2]
          rfl
        · exact h0
      have hk := key (-((nv l : Nat) : Int)) (by rw [← hn]; omega)
      unfold shL sg
      rw [if_pos (by omega), List.append_assoc, List.append_assoc, ← List.append_assoc (Lib.decDigits _), hk, e2, e1]
      rfl
    · rw [if_neg e1]
      have hk := key ((nv l : Nat) : Int) (by rw [e2]; omega)
      unfold shL sg
      rw [if_neg (by omega), List.nil_append, hk, e2]
    · exfalso
      have := congrArg List.length ha.text
      rw [e2] at this
      simp at this
end Go.Proofs.YtjipcopfggnlkaaDoor.Mt
