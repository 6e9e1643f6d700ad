/- The law that what was decoded has one encoding, walked. Conditions: the slice reads as bytes. -/
import Derived.Test.YtppgaddjjlcfcaaBd
import Derived.Test.YtppgaddjjlcfcaaLawD
set_option linter.unusedSimpArgs false
set_option linter.unusedVariables false
namespace Go.Proofs.Ytppgaddjjlcfcaa.Wk
open Go.RowKit
open Go.Proofs.Ytppgaddjjlcfcaa.Mt
theorem nuV_in {zs : List Int} (hz : ∀ k, 0 ≤ iat zs k ∧ iat zs k ≤ 255) (n : Nat) (t : Int) : -9223372036854775808 ≤ nuV zs n t ∧ nuV zs n t ≤ 9223372036854775807 := by
  rcases nu_cases zs n t with h3 | ⟨b, k, rfl, g1, g2, g3, g4, g5⟩
  · rw [(nu_ev h3).1]; omega
  · rw [(nu_ok g1 g2 g3 g4 g5).2.1]
    exact uz_in (dv_top g2 g4 (hz _).1 (fun h => g5 (.inl h)))
set_option maxHeartbeats 4000000 in
set_option maxRecDepth 100000 in
theorem part31 (A : Option Addr) (n c : Nat) (zs : List Int) (a x : Nat) (A' : Option Addr) (c' : Nat) (ys : List Int) (w : World) (h : Sl w A n c zs) (h' : Sl w A' (x - a) c' ys) (hax : a < x) (hxn : x ≤ n) (hn : n ≤ 100000) (hy : ys = Mt.sub zs a (x - a)) : Calls Try.prog 31 #[.slice A n c, .int .i64 a, .int .i64 x, .slice A' (x - a) c'] w fun e w' => e = .returned (.bool true) ∧ Below w.heap.size w w' := by
  obtain ⟨b, off, rfl, hbB, _⟩ := h.rk.get (i := 0) (by omega)
  have hcl := h.le
  have hcc := h.cap
  obtain ⟨m, hm⟩ : ∃ m, x - a = m := ⟨_, rfl⟩
  have HR := Lib.hid (h.rk.sub (lo := a) (v := x - a) (by omega) hbB)
  rw [← hy, hm] at HR
  have HY := Lib.hid h'.rk
  rw [hm] at HY ⊢
  have p1 : (0 : Int) ≤ (x : Int) := by omega
  have p2 : (x : Int) ≤ (c : Int) := by omega
  have p3 : (a : Int) ≤ (x : Int) := by omega
  have p4 : (x : Int) ≤ (n : Int) := by omega
  have p5 : ¬ c = a := by omega
  have d1 : decide ((a : Int) ≤ (x : Int)) = true := decide_eq_true p3
  have d2 : decide ((x : Int) ≤ (n : Int)) = true := decide_eq_true p4
  clear h h' hy
  go_enter Try.func31, Try.ntmps31
  go_wp2_with fail
  refine (same14 _ _ m (c - a) c' _ _ HR.out HY.out).mono ?_
  rintro e w1 ⟨rfl, hb⟩
  have HB := Lib.hid hb
  clear hb
  go_wp2_with fail
  go_ret
  exact ⟨rfl, HB.out⟩

theorem Wt.mono' {w : World} {L M : List Int} {e : Ending} {w' : World} (h : Wt L w e w') (hL : L = M) : Wt M w e w' := by subst hL; exact h
set_option maxHeartbeats 8000000 in
set_option maxRecDepth 100000 in
theorem again_law (A : Option Addr) (n c : Nat) (zs : List Int) (t : Int) (w : World) (h : Sl w A n c zs) (ht : -9223372036854775808 ≤ t ∧ t ≤ 9223372036854775807) : Calls Try.prog 9 #[.slice A n c, .int .i64 t] w fun e w' => e = .returned (.bool true) ∧ Below w.heap.size w w' := by
  have HS := Lib.hid h
  have HB := Lib.hid (Below.refl w.heap.size w)
  have HZ8 : Hid (∀ k, 0 ≤ iat zs k ∧ iat zs k ≤ 255) := Lib.hid (fun k => u8_r (h.rk.2.2.2 k))
  have HLN : Hid (n = zs.length) := Lib.hid h.rk.1.symm
  have hn9 := h.rk.2.1
  clear h
  by_cases hbig : 2000 < n
  · have hb1 : decide ((2000 : Int) < (n : Int)) = true := decide_eq_true (by omega)
    go_enter Try.func9, Try.ntmps9
    go_wp2_with fail
    go_ret
    exact ⟨rfl, Below.refl _ _⟩
  · have hb1 : decide ((2000 : Int) < (n : Int)) = false := decide_eq_false (by omega)
    by_cases h0 : t < 0
    · have hb2 : decide (t < 0) = true := decide_eq_true h0
      go_enter Try.func9, Try.ntmps9
      go_wp2_with fail
      go_ret
      exact ⟨rfl, Below.refl _ _⟩
    · by_cases h1 : (n : Int) < t
      · have hb2 : decide (t < 0) = false := decide_eq_false h0
        have hb3 : decide ((n : Int) < t) = true := decide_eq_true h1
        go_enter Try.func9, Try.ntmps9
        go_wp2_with fail
        go_ret
        exact ⟨rfl, Below.refl _ _⟩
      · obtain ⟨a, rfl⟩ : ∃ a : Nat, t = (a : Int) := ⟨t.toNat, by omega⟩
        have hb2 : decide ((a : Int) < 0) = false := decide_eq_false (by omega)
        have hb3 : decide ((n : Int) < (a : Int)) = false := decide_eq_false h1
        have han : a ≤ n := by omega
        clear h0 h1 ht
        go_enter Try.func9, Try.ntmps9
        go_wp2_with fail
        clear hb1 hb2 hb3
        refine (int18 A n c (a : Int) zs w HS.out.rk (by omega)).mono ?_
        rintro e w1 ⟨rfl, hb⟩
        replace HB := Lib.hid (upB HB.out hb)
        replace HS := Lib.hid (HS.out.up hb)
        clear hb
        by_cases hE : nuE zs n (a : Int) = 0
        · obtain ⟨x, hx, hax, hxn, he⟩ := nu_again HZ8.out HLN.out hE
          obtain ⟨v, hv⟩ : ∃ v, nuV zs n (a : Int) = v := ⟨_, rfl⟩
          have hvr : -9223372036854775808 ≤ v ∧ v ≤ 9223372036854775807 := by rw [← hv]; exact nuV_in HZ8.out _ _
          rw [hE, hx, hv]
          have HEN : Hid (([] : List Int) ++ enc (zz v) = Mt.sub zs a (x - a)) := Lib.hid (by rw [List.nil_append, ← hv]; exact he)
          have HLS : Hid ((Mt.sub zs a (x - a)).length = x - a) := Lib.hid (sub_len (by rw [← HLN.out]; omega))
          clear he hv hE hx
          go_wp2_with fail
          refine (putInt12 none 0 0 [] v w1 (Sl.nil0 _) (by omega) hvr).mono ?_
          rintro e w2 ⟨u, rfl, ho, hb⟩
          rw [HEN.out] at ho
          obtain ⟨Ax, cx, rfl, hs⟩ := ho.sl (by rw [HLS.out]; omega) (sub_in HZ8.out _ _)
          rw [HLS.out] at hs ⊢
          have HX := Lib.hid hs
          replace HB := Lib.hid (upB HB.out hb)
          replace HS := Lib.hid (HS.out.up hb)
          clear ho hb hs HEN HLS hvr
          go_wp2_with fail
          refine (part31 A n c zs a x Ax cx _ _ HS.out HX.out hax hxn (by omega) rfl).mono ?_
          rintro e w3 ⟨rfl, hb⟩
          replace HB := Lib.hid (upB HB.out hb)
          replace HS := Lib.hid (HS.out.up hb)
          clear hb HX hax hxn
          go_wp2_with fail
          refine (text20 A n c (a : Int) zs _ HS.out.rk (by omega) HS.out.le HS.out.cap).mono ?_
          rintro e w4 ⟨rfl, hb⟩
          replace HB := Lib.hid (upB HB.out hb)
          replace HS := Lib.hid (HS.out.up hb)
          clear hb
          by_cases hE : teE zs n (a : Int) = 0
          · obtain ⟨x, hx, hax, hxn, he⟩ := te_again HZ8.out HLN.out hE
            obtain ⟨L, hL⟩ : ∃ v, teL zs n (a : Int) = v := ⟨_, rfl⟩
            have hLi : ∀ y ∈ L, 0 ≤ y ∧ y ≤ 255 := by rw [← hL]; exact teL_in HZ8.out _ _
            rw [hE, hx, hL]
            rw [hL] at he
            have HLS : Hid ((Mt.sub zs a (x - a)).length = x - a) := Lib.hid (sub_len (by rw [← HLN.out]; omega))
            have hLl : L.length ≤ 2000 := by
              have h1 := congrArg List.length he
              rw [List.length_append, HLS.out] at h1
              omega
            have hsz : (bys L).size ≤ 100000 := by rw [bys_size']; omega
            have HEN : Hid (([] : List Int) ++ enc (zz ((bys L).size : Int)) ++ bl (bys L) = Mt.sub zs a (x - a)) := Lib.hid (by rw [List.nil_append, bys_size', bl_bys' hLi]; exact he)
            clear he hL hE hx hLl
            obtain ⟨s, hs⟩ : ∃ s, bys L = s := ⟨_, rfl⟩
            rw [hs] at HEN hsz ⊢
            clear hs hLi
            go_wp2_with fail
            refine (putText13 none 0 0 [] s w4 (Sl.nil0 _) (by omega) hsz).mono ?_
            rintro e w5 ⟨u, rfl, ho, hb⟩
            rw [HEN.out] at ho
            obtain ⟨Ax, cx, rfl, hs⟩ := ho.sl (by rw [HLS.out]; omega) (sub_in HZ8.out _ _)
            rw [HLS.out] at hs ⊢
            have HX := Lib.hid hs
            replace HB := Lib.hid (upB HB.out hb)
            replace HS := Lib.hid (HS.out.up hb)
            clear ho hb hs HEN HLS hsz
            go_wp2_with fail
            refine (part31 A n c zs a x Ax cx _ _ HS.out HX.out hax hxn (by omega) rfl).mono ?_
            rintro e w6 ⟨rfl, hb⟩
            replace HB := Lib.hid (upB HB.out hb)
            replace HS := Lib.hid (HS.out.up hb)
            clear hb HX hax hxn
            go_wp2_with fail
            refine (frame26 A n c (a : Int) zs _ HS.out.rk (by omega) HS.out.le HS.out.cap).mono ?_
            rintro e w7 ⟨u, rfl, ho, hb⟩
            replace HB := Lib.hid (upB HB.out hb)
            replace HS := Lib.hid (HS.out.up hb)
            clear hb
            by_cases hE : frE zs n (a : Int) = 0
            · obtain ⟨x, hx, hax, hxn, he⟩ := fr_again HZ8.out HLN.out hE
              obtain ⟨L, hL⟩ : ∃ v, frP zs n (a : Int) = v := ⟨_, rfl⟩
              obtain ⟨kk, hk⟩ : ∃ v, frK zs n (a : Int) = v := ⟨_, rfl⟩
              have hLi : ∀ y ∈ L, 0 ≤ y ∧ y ≤ 255 := by rw [← hL]; exact frP_in HZ8.out _ _
              rw [hL, hk] at he
              have HLS : Hid ((Mt.sub zs a (x - a)).length = x - a) := Lib.hid (sub_len (by rw [← HLN.out]; omega))
              have hLl : L.length ≤ 2000 := by
                have h1 := congrArg List.length he
                rw [fr, fb, List.length_append, List.length_append, List.length_append, HLS.out] at h1
                omega
              rw [hL] at ho
              obtain ⟨A1, c1, rfl, hs⟩ := ho.sl (by omega) hLi
              have HL1 := Lib.hid hs
              clear hs ho
              rw [hE, hx, hk]
              have HEN : Hid (([] : List Int) ++ fr kk L = Mt.sub zs a (x - a)) := Lib.hid (by rw [List.nil_append]; exact he)
              clear he hL hk hE hx hLi
              go_wp2_with fail
              refine (putFrame22 none 0 0 [] kk A1 L.length c1 L w7 (Sl.nil0 _) HL1.out (by omega) (by omega)).mono ?_
              rintro e w8 ⟨u, rfl, ho, hb⟩
              rw [HEN.out] at ho
              obtain ⟨Ax, cx, rfl, hs⟩ := ho.sl (by rw [HLS.out]; omega) (sub_in HZ8.out _ _)
              rw [HLS.out] at hs ⊢
              have HX := Lib.hid hs
              replace HB := Lib.hid (upB HB.out hb)
              replace HS := Lib.hid (HS.out.up hb)
              clear ho hb hs HEN HLS HL1 hLl
              go_wp2_with fail
              refine (part31 A n c zs a x Ax cx _ _ HS.out HX.out hax hxn (by omega) rfl).mono ?_
              rintro e w9 ⟨rfl, hb⟩
              replace HB := Lib.hid (upB HB.out hb)
              replace HS := Lib.hid (HS.out.up hb)
              clear hb HX hax hxn
              go_wp2_with fail
              refine (alive17 _).mono ?_
              rintro e w10 ⟨rfl, hb⟩
              replace HB := Lib.hid (upB HB.out hb)
              clear hb
              go_wp2_with fail
              go_ret
              exact ⟨rfl, HB.out⟩
            · obtain ⟨er, her⟩ : ∃ er, frE zs n (a : Int) = er := ⟨_, rfl⟩
              rw [her] at hE ⊢
              have e1 : (er == 0) = false := by simp [hE]
              obtain ⟨v, hv⟩ : ∃ v, frK zs n (a : Int) = v := ⟨_, rfl⟩
              obtain ⟨x, hx⟩ : ∃ v, frN zs n (a : Int) = v := ⟨_, rfl⟩
              rw [hv, hx]
              clear her hE hv hx ho
              go_wp2_with fail
              refine (alive17 _).mono ?_
              rintro e w10 ⟨rfl, hb⟩
              replace HB := Lib.hid (upB HB.out hb)
              clear hb
              go_wp2_with fail
              go_ret
              exact ⟨rfl, HB.out⟩
          · obtain ⟨er, her⟩ : ∃ er, teE zs n (a : Int) = er := ⟨_, rfl⟩
            rw [her] at hE ⊢
            have e1 : (er == 0) = false := by simp [hE]
            obtain ⟨v, hv⟩ : ∃ v, bys (teL zs n (a : Int)) = v := ⟨_, rfl⟩
            obtain ⟨x, hx⟩ : ∃ v, teN zs n (a : Int) = v := ⟨_, rfl⟩
            rw [hv, hx]
            clear her hE hv hx
            go_wp2_with fail
            refine (frame26 A n c (a : Int) zs _ HS.out.rk (by omega) HS.out.le HS.out.cap).mono ?_
            rintro e w7 ⟨u, rfl, ho, hb⟩
            replace HB := Lib.hid (upB HB.out hb)
            replace HS := Lib.hid (HS.out.up hb)
            clear hb
            by_cases hE : frE zs n (a : Int) = 0
            · obtain ⟨x, hx, hax, hxn, he⟩ := fr_again HZ8.out HLN.out hE
              obtain ⟨L, hL⟩ : ∃ v, frP zs n (a : Int) = v := ⟨_, rfl⟩
              obtain ⟨kk, hk⟩ : ∃ v, frK zs n (a : Int) = v := ⟨_, rfl⟩
              have hLi : ∀ y ∈ L, 0 ≤ y ∧ y ≤ 255 := by rw [← hL]; exact frP_in HZ8.out _ _
              rw [hL, hk] at he
              have HLS : Hid ((Mt.sub zs a (x - a)).length = x - a) := Lib.hid (sub_len (by rw [← HLN.out]; omega))
              have hLl : L.length ≤ 2000 := by
                have h1 := congrArg List.length he
                rw [fr, fb, List.length_append, List.length_append, List.length_append, HLS.out] at h1
                omega
              rw [hL] at ho
              obtain ⟨A1, c1, rfl, hs⟩ := ho.sl (by omega) hLi
              have HL1 := Lib.hid hs
              clear hs ho
              rw [hE, hx, hk]
              have HEN : Hid (([] : List Int) ++ fr kk L = Mt.sub zs a (x - a)) := Lib.hid (by rw [List.nil_append]; exact he)
              clear he hL hk hE hx hLi
              go_wp2_with fail
              refine (putFrame22 none 0 0 [] kk A1 L.length c1 L w7 (Sl.nil0 _) HL1.out (by omega) (by omega)).mono ?_
              rintro e w8 ⟨u, rfl, ho, hb⟩
              rw [HEN.out] at ho
              obtain ⟨Ax, cx, rfl, hs⟩ := ho.sl (by rw [HLS.out]; omega) (sub_in HZ8.out _ _)
              rw [HLS.out] at hs ⊢
              have HX := Lib.hid hs
              replace HB := Lib.hid (upB HB.out hb)
              replace HS := Lib.hid (HS.out.up hb)
              clear ho hb hs HEN HLS HL1 hLl
              go_wp2_with fail
              refine (part31 A n c zs a x Ax cx _ _ HS.out HX.out hax hxn (by omega) rfl).mono ?_
              rintro e w9 ⟨rfl, hb⟩
              replace HB := Lib.hid (upB HB.out hb)
              replace HS := Lib.hid (HS.out.up hb)
              clear hb HX hax hxn
              go_wp2_with fail
              refine (alive17 _).mono ?_
              rintro e w10 ⟨rfl, hb⟩
              replace HB := Lib.hid (upB HB.out hb)
              clear hb
              go_wp2_with fail
              go_ret
              exact ⟨rfl, HB.out⟩
            · obtain ⟨er, her⟩ : ∃ er, frE zs n (a : Int) = er := ⟨_, rfl⟩
              rw [her] at hE ⊢
              have e1 : (er == 0) = false := by simp [hE]
              obtain ⟨v, hv⟩ : ∃ v, frK zs n (a : Int) = v := ⟨_, rfl⟩
              obtain ⟨x, hx⟩ : ∃ v, frN zs n (a : Int) = v := ⟨_, rfl⟩
              rw [hv, hx]
              clear her hE hv hx ho
              go_wp2_with fail
              refine (alive17 _).mono ?_
              rintro e w10 ⟨rfl, hb⟩
              replace HB := Lib.hid (upB HB.out hb)
              clear hb
              go_wp2_with fail
              go_ret
              exact ⟨rfl, HB.out⟩
        · obtain ⟨er, her⟩ : ∃ er, nuE zs n (a : Int) = er := ⟨_, rfl⟩
          rw [her] at hE ⊢
          have e1 : (er == 0) = false := by simp [hE]
          obtain ⟨v, hv⟩ : ∃ v, nuV zs n (a : Int) = v := ⟨_, rfl⟩
          obtain ⟨x, hx⟩ : ∃ v, nuN zs n (a : Int) = v := ⟨_, rfl⟩
          rw [hv, hx]
          clear her hE hv hx
          go_wp2_with fail
          refine (text20 A n c (a : Int) zs _ HS.out.rk (by omega) HS.out.le HS.out.cap).mono ?_
          rintro e w4 ⟨rfl, hb⟩
          replace HB := Lib.hid (upB HB.out hb)
          replace HS := Lib.hid (HS.out.up hb)
          clear hb
          by_cases hE : teE zs n (a : Int) = 0
          · obtain ⟨x, hx, hax, hxn, he⟩ := te_again HZ8.out HLN.out hE
            obtain ⟨L, hL⟩ : ∃ v, teL zs n (a : Int) = v := ⟨_, rfl⟩
            have hLi : ∀ y ∈ L, 0 ≤ y ∧ y ≤ 255 := by rw [← hL]; exact teL_in HZ8.out _ _
            rw [hE, hx, hL]
            rw [hL] at he
            have HLS : Hid ((Mt.sub zs a (x - a)).length = x - a) := Lib.hid (sub_len (by rw [← HLN.out]; omega))
            have hLl : L.length ≤ 2000 := by
              have h1 := congrArg List.length he
              rw [List.length_append, HLS.out] at h1
              omega
            have hsz : (bys L).size ≤ 100000 := by rw [bys_size']; omega
            have HEN : Hid (([] : List Int) ++ enc (zz ((bys L).size : Int)) ++ bl (bys L) = Mt.sub zs a (x - a)) := Lib.hid (by rw [List.nil_append, bys_size', bl_bys' hLi]; exact he)
            clear he hL hE hx hLl
            obtain ⟨s, hs⟩ : ∃ s, bys L = s := ⟨_, rfl⟩
            rw [hs] at HEN hsz ⊢
            clear hs hLi
            go_wp2_with fail
            refine (putText13 none 0 0 [] s w4 (Sl.nil0 _) (by omega) hsz).mono ?_
            rintro e w5 ⟨u, rfl, ho, hb⟩
            rw [HEN.out] at ho
            obtain ⟨Ax, cx, rfl, hs⟩ := ho.sl (by rw [HLS.out]; omega) (sub_in HZ8.out _ _)
            rw [HLS.out] at hs ⊢
            have HX := Lib.hid hs
            replace HB := Lib.hid (upB HB.out hb)
            replace HS := Lib.hid (HS.out.up hb)
            clear ho hb hs HEN HLS hsz
            go_wp2_with fail
            refine (part31 A n c zs a x Ax cx _ _ HS.out HX.out hax hxn (by omega) rfl).mono ?_
            rintro e w6 ⟨rfl, hb⟩
            replace HB := Lib.hid (upB HB.out hb)
            replace HS := Lib.hid (HS.out.up hb)
            clear hb HX hax hxn
            go_wp2_with fail
            refine (frame26 A n c (a : Int) zs _ HS.out.rk (by omega) HS.out.le HS.out.cap).mono ?_
            rintro e w7 ⟨u, rfl, ho, hb⟩
            replace HB := Lib.hid (upB HB.out hb)
            replace HS := Lib.hid (HS.out.up hb)
            clear hb
            by_cases hE : frE zs n (a : Int) = 0
            · obtain ⟨x, hx, hax, hxn, he⟩ := fr_again HZ8.out HLN.out hE
              obtain ⟨L, hL⟩ : ∃ v, frP zs n (a : Int) = v := ⟨_, rfl⟩
              obtain ⟨kk, hk⟩ : ∃ v, frK zs n (a : Int) = v := ⟨_, rfl⟩
              have hLi : ∀ y ∈ L, 0 ≤ y ∧ y ≤ 255 := by rw [← hL]; exact frP_in HZ8.out _ _
              rw [hL, hk] at he
              have HLS : Hid ((Mt.sub zs a (x - a)).length = x - a) := Lib.hid (sub_len (by rw [← HLN.out]; omega))
              have hLl : L.length ≤ 2000 := by
                have h1 := congrArg List.length he
                rw [fr, fb, List.length_append, List.length_append, List.length_append, HLS.out] at h1
                omega
              rw [hL] at ho
              obtain ⟨A1, c1, rfl, hs⟩ := ho.sl (by omega) hLi
              have HL1 := Lib.hid hs
              clear hs ho
              rw [hE, hx, hk]
              have HEN : Hid (([] : List Int) ++ fr kk L = Mt.sub zs a (x - a)) := Lib.hid (by rw [List.nil_append]; exact he)
              clear he hL hk hE hx hLi
              go_wp2_with fail
              refine (putFrame22 none 0 0 [] kk A1 L.length c1 L w7 (Sl.nil0 _) HL1.out (by omega) (by omega)).mono ?_
              rintro e w8 ⟨u, rfl, ho, hb⟩
              rw [HEN.out] at ho
              obtain ⟨Ax, cx, rfl, hs⟩ := ho.sl (by rw [HLS.out]; omega) (sub_in HZ8.out _ _)
              rw [HLS.out] at hs ⊢
              have HX := Lib.hid hs
              replace HB := Lib.hid (upB HB.out hb)
              replace HS := Lib.hid (HS.out.up hb)
              clear ho hb hs HEN HLS HL1 hLl
              go_wp2_with fail
              refine (part31 A n c zs a x Ax cx _ _ HS.out HX.out hax hxn (by omega) rfl).mono ?_
              rintro e w9 ⟨rfl, hb⟩
              replace HB := Lib.hid (upB HB.out hb)
              replace HS := Lib.hid (HS.out.up hb)
              clear hb HX hax hxn
              go_wp2_with fail
              refine (alive17 _).mono ?_
              rintro e w10 ⟨rfl, hb⟩
              replace HB := Lib.hid (upB HB.out hb)
              clear hb
              go_wp2_with fail
              go_ret
              exact ⟨rfl, HB.out⟩
            · obtain ⟨er, her⟩ : ∃ er, frE zs n (a : Int) = er := ⟨_, rfl⟩
              rw [her] at hE ⊢
              have e1 : (er == 0) = false := by simp [hE]
              obtain ⟨v, hv⟩ : ∃ v, frK zs n (a : Int) = v := ⟨_, rfl⟩
              obtain ⟨x, hx⟩ : ∃ v, frN zs n (a : Int) = v := ⟨_, rfl⟩
              rw [hv, hx]
              clear her hE hv hx ho
              go_wp2_with fail
              refine (alive17 _).mono ?_
              rintro e w10 ⟨rfl, hb⟩
              replace HB := Lib.hid (upB HB.out hb)
              clear hb
              go_wp2_with fail
              go_ret
              exact ⟨rfl, HB.out⟩
          · obtain ⟨er, her⟩ : ∃ er, teE zs n (a : Int) = er := ⟨_, rfl⟩
            rw [her] at hE ⊢
            have e1 : (er == 0) = false := by simp [hE]
            obtain ⟨v, hv⟩ : ∃ v, bys (teL zs n (a : Int)) = v := ⟨_, rfl⟩
            obtain ⟨x, hx⟩ : ∃ v, teN zs n (a : Int) = v := ⟨_, rfl⟩
            rw [hv, hx]
            clear her hE hv hx
            go_wp2_with fail
            refine (frame26 A n c (a : Int) zs _ HS.out.rk (by omega) HS.out.le HS.out.cap).mono ?_
            rintro e w7 ⟨u, rfl, ho, hb⟩
            replace HB := Lib.hid (upB HB.out hb)
            replace HS := Lib.hid (HS.out.up hb)
            clear hb
            by_cases hE : frE zs n (a : Int) = 0
            · obtain ⟨x, hx, hax, hxn, he⟩ := fr_again HZ8.out HLN.out hE
              obtain ⟨L, hL⟩ : ∃ v, frP zs n (a : Int) = v := ⟨_, rfl⟩
              obtain ⟨kk, hk⟩ : ∃ v, frK zs n (a : Int) = v := ⟨_, rfl⟩
              have hLi : ∀ y ∈ L, 0 ≤ y ∧ y ≤ 255 := by rw [← hL]; exact frP_in HZ8.out _ _
              rw [hL, hk] at he
              have HLS : Hid ((Mt.sub zs a (x - a)).length = x - a) := Lib.hid (sub_len (by rw [← HLN.out]; omega))
              have hLl : L.length ≤ 2000 := by
                have h1 := congrArg List.length he
                rw [fr, fb, List.length_append, List.length_append, List.length_append, HLS.out] at h1
                omega
              rw [hL] at ho
              obtain ⟨A1, c1, rfl, hs⟩ := ho.sl (by omega) hLi
              have HL1 := Lib.hid hs
              clear hs ho
              rw [hE, hx, hk]
              have HEN : Hid (([] : List Int) ++ fr kk L = Mt.sub zs a (x - a)) := Lib.hid (by rw [List.nil_append]; exact he)
              clear he hL hk hE hx hLi
              go_wp2_with fail
              refine (putFrame22 none 0 0 [] kk A1 L.length c1 L w7 (Sl.nil0 _) HL1.out (by omega) (by omega)).mono ?_
              rintro e w8 ⟨u, rfl, ho, hb⟩
              rw [HEN.out] at ho
              obtain ⟨Ax, cx, rfl, hs⟩ := ho.sl (by rw [HLS.out]; omega) (sub_in HZ8.out _ _)
              rw [HLS.out] at hs ⊢
              have HX := Lib.hid hs
              replace HB := Lib.hid (upB HB.out hb)
              replace HS := Lib.hid (HS.out.up hb)
              clear ho hb hs HEN HLS HL1 hLl
              go_wp2_with fail
              refine (part31 A n c zs a x Ax cx _ _ HS.out HX.out hax hxn (by omega) rfl).mono ?_
              rintro e w9 ⟨rfl, hb⟩
              replace HB := Lib.hid (upB HB.out hb)
              replace HS := Lib.hid (HS.out.up hb)
              clear hb HX hax hxn
              go_wp2_with fail
              refine (alive17 _).mono ?_
              rintro e w10 ⟨rfl, hb⟩
              replace HB := Lib.hid (upB HB.out hb)
              clear hb
              go_wp2_with fail
              go_ret
              exact ⟨rfl, HB.out⟩
            · obtain ⟨er, her⟩ : ∃ er, frE zs n (a : Int) = er := ⟨_, rfl⟩
              rw [her] at hE ⊢
              have e1 : (er == 0) = false := by simp [hE]
              obtain ⟨v, hv⟩ : ∃ v, frK zs n (a : Int) = v := ⟨_, rfl⟩
              obtain ⟨x, hx⟩ : ∃ v, frN zs n (a : Int) = v := ⟨_, rfl⟩
              rw [hv, hx]
              clear her hE hv hx ho
              go_wp2_with fail
              refine (alive17 _).mono ?_
              rintro e w10 ⟨rfl, hb⟩
              replace HB := Lib.hid (upB HB.out hb)
              clear hb
              go_wp2_with fail
              go_ret
              exact ⟨rfl, HB.out⟩
end Go.Proofs.Ytppgaddjjlcfcaa.Wk
