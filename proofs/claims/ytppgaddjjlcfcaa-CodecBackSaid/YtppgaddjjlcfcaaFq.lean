/- Frame in the reference. Conditions: the bytes read as the list; at most 100000 bytes. -/
import Derived.Test.YtppgaddjjlcfcaaFa
import Derived.Test.YtppgaddjjlcfcaaCb
import Derived.Test.YtppgaddjjlcfcaaTr
set_option linter.unusedSimpArgs false
set_option linter.unusedVariables false
namespace Go.Proofs.Ytppgaddjjlcfcaa.Mt
theorem bys_size' (ps : List Int) : (bys ps).size = ps.length := by simp [bys, byl, ByteArray.size]
theorem bl_bys' {ps : List Int} (h : ∀ x ∈ ps, 0 ≤ x ∧ x ≤ 255) : bl (bys ps) = ps := by
  unfold bl bys byl
  simp only [List.map_map]
  have : ∀ x ∈ ps, ((fun b : UInt8 => (b.toNat : Int)) ∘ fun x : Int => UInt8.ofNat x.toNat) x = x := by
    intro x hx
    have := h x hx
    simp only [Function.comp, UInt8.toNat_ofNat']
    omega
  rw [List.map_congr_left this]
  simp
end Go.Proofs.Ytppgaddjjlcfcaa.Mt
namespace Go.Proofs.Ytppgaddjjlcfcaa.Wk
open Go.RowKit
open Go.Proofs.Ytppgaddjjlcfcaa.Mt
theorem sub_in {zs : List Int} (h : ∀ k, 0 ≤ iat zs k ∧ iat zs k ≤ 255) (lo v : Nat) : ∀ x ∈ Mt.sub zs lo v, 0 ≤ x ∧ x ≤ 255 := by
  intro x hx
  unfold Mt.sub at hx
  have h1 := List.mem_of_mem_drop (List.mem_of_mem_take hx)
  obtain ⟨i, hi, rfl⟩ := List.getElem_of_mem h1
  have := h i
  unfold iat at this
  rw [List.getD_eq_getElem?_getD, List.getElem?_eq_getElem hi] at this
  exact this
theorem teL_in {zs : List Int} (h : ∀ k, 0 ≤ iat zs k ∧ iat zs k ≤ 255) (n : Nat) (t : Int) : ∀ x ∈ teL zs n t, 0 ≤ x ∧ x ≤ 255 := by
  unfold teL
  split
  · exact sub_in h _ _
  · intro x hx; cases hx
set_option maxHeartbeats 8000000 in
set_option maxRecDepth 100000 in
theorem frame27 (A : Option Addr) (n c : Nat) (t : Int) (zs : List Int) (w : World) (h : Rk .u8 w w.heap.size A n zs) (ht : -9223372036854775808 ≤ t ∧ t ≤ 9223372036854775807) (hn : n ≤ 100000) (hc : n ≤ c) (hcc : c ≤ 9223372036854775807) : Calls Try.prog 27 #[.slice A n c, .int .i64 t] w fun e w' => ∃ A' c', e = .returned (.tuple #[.int .i64 (frK zs n t), .slice A' (frP zs n t).length c', .int .i64 (frN zs n t), .int .i64 (frE zs n t)]) ∧ Rk .u8 w' w'.heap.size A' (frP zs n t).length (frP zs n t) ∧ Below w.heap.size w w' := by
  go_enter Try.func27, Try.ntmps27
  by_cases hr : t < 0 ∨ (n : Int) < t
  · have he := fr_range (zs := zs) hr
    by_cases h0 : t < 0
    · have e1 : decide (t < 0) = true := decide_eq_true h0
      clear hr
      have HE := Lib.hid he
      have HN := Lib.hid (fr_no (zs := zs) (n := n) (t := t) (by rw [he]; decide))
      clear he
      as_aux_lemma =>
        go_wp2_with fail
        refine bodyPost_ret (v := .tuple #[.int .i64 0, .slice none 0 0, .int .i64 0, .int .i64 2]) (by simp [results, Try.results27, go_sem]) rfl ?_
        rw [HN.out.1, HN.out.2.1, HN.out.2.2, HE.out]
        first | exact ⟨none, 0, rfl, rk_none _ _ _ (by decide), Below.refl _ _⟩ | exact ⟨none, ⟨0, rfl⟩, rk_none _ _ _ (by decide), Below.refl _ _⟩
    · have e1 : decide (t < 0) = false := decide_eq_false h0
      have e2 : decide ((n : Int) < t) = true := decide_eq_true (by omega)
      clear hr
      have HE := Lib.hid he
      have HN := Lib.hid (fr_no (zs := zs) (n := n) (t := t) (by rw [he]; decide))
      clear he
      as_aux_lemma =>
        go_wp2_with fail
        refine bodyPost_ret (v := .tuple #[.int .i64 0, .slice none 0 0, .int .i64 0, .int .i64 2]) (by simp [results, Try.results27, go_sem]) rfl ?_
        rw [HN.out.1, HN.out.2.1, HN.out.2.2, HE.out]
        first | exact ⟨none, 0, rfl, rk_none _ _ _ (by decide), Below.refl _ _⟩ | exact ⟨none, ⟨0, rfl⟩, rk_none _ _ _ (by decide), Below.refl _ _⟩
  · obtain ⟨a, rfl⟩ : ∃ a : Nat, t = (a : Int) := ⟨t.toNat, by omega⟩
    have han : a ≤ n := by omega
    have e1 : decide ((a : Int) < 0) = false := decide_eq_false (by omega)
    have e2 : decide ((n : Int) < (a : Int)) = false := decide_eq_false (by omega)
    have HZ := Lib.hid h
    have HBY := Lib.hid (rk_byte h)
    have W1 : IntKind.i64.wrap ((a : Int) + 1) = (a : Int) + 1 := IntWalk.i64_in _ (by omega)
    clear h hr ht
    by_cases hend : a = n
    · have e3 : ((a : Int) == (n : Int)) = true := by simp [hend]
      have he : frE zs n (a : Int) = 7 := by rw [hend]; exact fr_end
      clear hend
      have HE := Lib.hid he
      have HN := Lib.hid (fr_no (zs := zs) (n := n) (t := (a : Int)) (by rw [he]; decide))
      clear he
      as_aux_lemma =>
        go_wp2_with fail
        refine bodyPost_ret (v := .tuple #[.int .i64 0, .slice none 0 0, .int .i64 0, .int .i64 7]) (by simp [results, Try.results27, go_sem]) rfl ?_
        rw [HN.out.1, HN.out.2.1, HN.out.2.2, HE.out]
        first | exact ⟨none, 0, rfl, rk_none _ _ _ (by decide), Below.refl _ _⟩ | exact ⟨none, ⟨0, rfl⟩, rk_none _ _ _ (by decide), Below.refl _ _⟩
    · have e3 : ((a : Int) == (n : Int)) = false := by simp; omega
      have hltn : a < n := by omega
      clear hend
      go_wp2_with fail
      clear e1 e2 e3
      refine (text21 A n c ((a : Int) + 1) zs w HZ.out (by omega) hn hc hcc).mono ?_
      rintro e w1 ⟨rfl, hb⟩
      have HB := Lib.hid hb
      have HZ1 := Lib.hid (HZ.out.up hb)
      clear hb W1
      by_cases hte : teE zs n ((a : Int) + 1) = 0
      · obtain ⟨x, hx, hxn, hax⟩ := te_bound (zs := zs) (n := n) (a := a + 1) (by rw [show (((a + 1 : Nat) : Nat) : Int) = (a : Int) + 1 by omega]; exact hte)
        rw [show (((a + 1 : Nat) : Nat) : Int) = (a : Int) + 1 by omega] at hx
        obtain ⟨pl, hpl⟩ : ∃ l, teL zs n ((a : Int) + 1) = l := ⟨_, rfl⟩
        have hpi := teL_in HBY.out n ((a : Int) + 1)
        rw [hpl] at hpi
        rw [hx, hte, hpl]
        have HPI := Lib.hid hpi
        have HPL := Lib.hid hpl
        have HTE := Lib.hid hte
        have HXT := Lib.hid hx
        clear hpi hpl hte hx
        obtain ⟨b, off, rfl, hbB, _⟩ := HZ1.out.get (i := 0) (by omega)
        have W2 : IntKind.i64.wrap ((n : Int) - (x : Int)) = (n : Int) - (x : Int) := IntWalk.i64_in _ (by omega)
        by_cases h4 : (n : Int) - (x : Int) < 4
        · have he := fr_short hltn HTE.out HXT.out h4
          have HE := Lib.hid he
          have HN := Lib.hid (fr_no (zs := zs) (n := n) (t := (a : Int)) (by rw [he]; decide))
          clear he
          as_aux_lemma =>
            go_wp2_with fail
            refine bodyPost_ret (v := .tuple #[.int .i64 0, .slice none 0 0, .int .i64 0, .int .i64 7]) (by simp [results, Try.results27, go_sem]) rfl ?_
            rw [HN.out.1, HN.out.2.1, HN.out.2.2, HE.out]
            first | exact ⟨none, 0, rfl, rk_none _ _ _ (by decide), HB.out⟩ | exact ⟨none, ⟨0, rfl⟩, rk_none _ _ _ (by decide), HB.out⟩
        · have H4 := Lib.hid h4
          have hx4 : x + 4 ≤ n := by omega
          go_wp2_with fail
          go_loopw [11, 12] (fun sv jv wr => ∃ j s : Nat, j ≤ 4 ∧ jv = .int .i64 j ∧ sv = .int .i64 (s : Int) ∧ Hid (s = be zs x j) ∧ wr = w1) (fun _ jv _ => 4 - (intOf jv).toNat)
          case atStart => exact ⟨0, 0, by omega, rfl, rfl, Lib.hid rfl, rfl⟩
          case round =>
            obtain ⟨j, s, hj, rfl, rfl, HS, rfl⟩ := hrel
            have hs32 : j < 4 → s < 16777216 := by
              intro hj4
              rw [HS.out]
              have h1 := be_lt HBY.out x j
              have h2 : (256 : Nat) ^ j ≤ 256 ^ 3 := Nat.pow_le_pow_right (by decide) (by omega)
              have h3 : (256 : Nat) ^ 3 = 16777216 := by decide
              omega
            by_cases hj4 : j < 4
            · have hjI : (j : Int) < 4 := by omega
              have hs := hs32 hj4
              have V1 : IntKind.i64.wrap ((j : Int) + 1) = (j : Int) + 1 := IntWalk.i64_in _ (by omega)
              have V4 : IntKind.i64.wrap ((x : Int) + (j : Int)) = (x : Int) + (j : Int) := IntWalk.i64_in _ (by omega)
              have p1 : (0 : Int) ≤ (x : Int) + (j : Int) := by omega
              have p2 : (x : Int) + (j : Int) < (n : Int) := by omega
              have T1 : ((x : Int) + (j : Int)).toNat = x + j := by omega
              have hcell := HZ1.out.two (i := x + j) (by omega)
              have hb8 := HBY.out (x + j)
              obtain ⟨v, hv⟩ : ∃ v : Nat, iat zs (x + j) = (v : Int) := ⟨(iat zs (x + j)).toNat, by omega⟩
              rw [hv] at hcell hb8
              have V2 : IntKind.i64.wrap (256 * (s : Int)) = 256 * (s : Int) := IntWalk.i64_in _ (by omega)
              have V3 : IntKind.i64.wrap (v : Int) = (v : Int) := IntWalk.i64_in _ (by omega)
              obtain ⟨s2, hs2⟩ : ∃ s2, s * 256 + v = s2 := ⟨_, rfl⟩
              have V5 : IntKind.i64.wrap (256 * (s : Int) + (v : Int)) = (s2 : Int) := by rw [IntWalk.i64_in _ (by omega)]; omega
              have HS2 : Hid (s2 = be zs x (j + 1)) := Lib.hid (by rw [be, ← HS.out, hv, Int.toNat_natCast, hs2])
              clear hv hs2 hs32
              go_wp2_with fail
              go_roundw
              case rel => exact ⟨j + 1, s2, by omega, by go_num, rfl, HS2, by trivial⟩
              case measure => simp [intOf]; omega
            · have hjI : ¬ (j : Int) < 4 := by omega
              obtain rfl : j = 4 := by omega
              have q1 : (a : Int) ≤ (x : Int) := by omega
              have q2 : (x : Int) ≤ (c : Int) := by omega
              have q3 : ¬ c = a := by omega
              have HSB := Lib.hid (HZ1.out.sub (lo := a) (v := x - a) (by omega) hbB)
              clear hs32
              go_wp2_with fail
              refine (sum25 _ (x - a) (c - a) _ wr HSB.out (by omega)).mono ?_
              rintro e w5 ⟨rfl, hb5⟩
              obtain ⟨cr, hcr⟩ : ∃ cr, crc (Mt.sub zs a (x - a)) = cr := ⟨_, rfl⟩
              rw [hcr]
              have HCR := Lib.hid hcr
              have HB5 := Lib.hid (upB HB.out hb5)
              have HZ5 := Lib.hid (HZ1.out.up hb5)
              clear hb5 hcr
              by_cases hs : s = cr
              · have e3 : ((s : Int) != (cr : Int)) = false := by simp [hs]
                have HOK := Lib.hid (fr_ok hltn HTE.out HXT.out (by have := H4.out; omega) (by rw [← HS.out, HCR.out]; exact hs))
                obtain ⟨v, hv⟩ : ∃ v : Nat, iat zs a = (v : Int) := ⟨(iat zs a).toNat, by have := HBY.out a; omega⟩
                have HV := Lib.hid hv
                have hcell6 := HZ5.out.two (i := a) hltn
                rw [hv] at hcell6
                have hv8 : (v : Int) ≤ 255 := by have := HBY.out a; omega
                have V3 : IntKind.i64.wrap (v : Int) = (v : Int) := IntWalk.i64_in _ (by omega)
                have V6 : IntKind.i64.wrap ((x : Int) + 4) = (x : Int) + 4 := IntWalk.i64_in _ (by omega)
                have r1 : (0 : Int) ≤ (a : Int) := by omega
                have r2 : (a : Int) < (n : Int) := by omega
                have hplb : pl.length ≤ 65536 := by
                  have h1 := frP_len (zs := zs) (n := n) (t := (a : Int))
                  rw [HOK.out.2.2.1, HPL.out] at h1
                  exact h1
                obtain ⟨cap, W, hcv, hrk, hbw⟩ := conv_bytes (bys pl) w5 (by rw [bys_size']; omega)
                rw [bys_size', bl_bys' HPI.out] at hrk
                rw [bys_size'] at hcv
                have HRK := Lib.hid hrk
                have HBW := Lib.hid (upB HB5.out hbw)
                clear hs hv hrk hbw hplb
                as_aux_lemma =>
                  go_wp2_with fail
                  refine bodyPost_ret (v := .tuple #[.int .i64 (v : Int), .slice (some ⟨w5.heap.size, 0, none⟩) pl.length cap, .int .i64 ((x : Int) + 4), .int .i64 0]) (by simp [results, Try.results27, go_sem]) rfl ?_
                  rw [HOK.out.1, HOK.out.2.1, HOK.out.2.2.1, HOK.out.2.2.2, HPL.out, HV.out]
                  exact ⟨_, _, rfl, HRK.out, HBW.out⟩
              · have e3 : ((s : Int) != (cr : Int)) = true := by simp; omega
                have he := fr_sum hltn HTE.out HXT.out (by have := H4.out; omega) (by rw [← HS.out, HCR.out]; exact hs)
                clear hs
                have HE := Lib.hid he
                have HN := Lib.hid (fr_no (zs := zs) (n := n) (t := (a : Int)) (by rw [he]; decide))
                clear he
                as_aux_lemma =>
                  go_wp2_with fail
                  refine bodyPost_ret (v := .tuple #[.int .i64 0, .slice none 0 0, .int .i64 0, .int .i64 8]) (by simp [results, Try.results27, go_sem]) rfl ?_
                  rw [HN.out.1, HN.out.2.1, HN.out.2.2, HE.out]
                  first | exact ⟨none, 0, rfl, rk_none _ _ _ (by decide), HB5.out⟩ | exact ⟨none, ⟨0, rfl⟩, rk_none _ _ _ (by decide), HB5.out⟩
      · have he := fr_text hltn hte
        obtain ⟨er, her⟩ : ∃ er, teE zs n ((a : Int) + 1) = er := ⟨_, rfl⟩
        rw [her] at he hte ⊢
        have e4 : (er != 0) = true := by simp [hte]
        have HTE := Lib.hid hte
        clear her hte
        have HE := Lib.hid he
        have HN := Lib.hid (fr_no (zs := zs) (n := n) (t := (a : Int)) (by rw [he]; exact HTE.out))
        clear he
        as_aux_lemma =>
          go_wp2_with fail
          refine bodyPost_ret (v := .tuple #[.int .i64 0, .slice none 0 0, .int .i64 0, .int .i64 er]) (by simp [results, Try.results27, go_sem]) rfl ?_
          rw [HN.out.1, HN.out.2.1, HN.out.2.2, HE.out]
          first | exact ⟨none, 0, rfl, rk_none _ _ _ (by decide), HB.out⟩ | exact ⟨none, ⟨0, rfl⟩, rk_none _ _ _ (by decide), HB.out⟩
end Go.Proofs.Ytppgaddjjlcfcaa.Wk
