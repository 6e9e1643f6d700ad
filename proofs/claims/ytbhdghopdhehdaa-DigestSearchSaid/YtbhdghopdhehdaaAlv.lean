/- The chapter's examples hold: the walk of alive. No condition. -/
import Derived.Test.YtbhdghopdhehdaaAm
import Derived.Test.YtbhdghopdhehdaaDf
import Derived.Test.YtbhdghopdhehdaaLawA
import Derived.Lib.SlBytesConst
set_option linter.unusedSimpArgs false
set_option linter.unusedVariables false
namespace Go.Proofs.Ytbhdghopdhehdaa.Wk
open Go.RowKit
open Go.Proofs.Ytbhdghopdhehdaa.Mt
theorem lit_u64 {w : World} {g : Nat} {t : TypeId} (zs : List Int) (h : Bx w g t (vk .u64 zs).toArray) (hz : zs.length ≤ 100) (hw : ∀ x ∈ zs, 0 ≤ x ∧ x ≤ 18446744073709551615) : Rk .u64 w w.heap.size (some ⟨g, 0, none⟩) zs.length zs :=
  Rk.block h (by omega) (fun i => u64_w (u64_mem hw i))
theorem lit_i64 {w : World} {g : Nat} {t : TypeId} (zs : List Int) (h : Bx w g t (vk .i64 zs).toArray) (hz : zs.length ≤ 100) (hw : ∀ x ∈ zs, 0 ≤ x ∧ x < 4096) : Rk .i64 w w.heap.size (some ⟨g, 0, none⟩) zs.length zs :=
  Rk.block h (by omega) (wf_all hw)
theorem lit_u8 (w : World) : Rk .u8 (w.alloc (.cells #[.int .u8 97] 5 (1, 2))) (w.alloc (.cells #[.int .u8 97] 5 (1, 2))).heap.size (some ⟨w.heap.size, 0, none⟩) 1 [97] := by
  refine ⟨rfl, by omega, fun _ => ⟨w.heap.size, 0, rfl, by simp, fun i hi => ?_⟩, fun i => u8_w ?_⟩
  · have h0 : i = 0 := by omega
    subst h0
    have := cell_of_row (w.alloc (.cells #[.int .u8 97] 5 (1, 2))) w.heap.size 0 #[.int .u8 97] 5 (1, 2) (heap_alloc_new w _)
    rw [Nat.add_zero, this]
    simp [iat]
  · rcases i with _ | i
    · simp [iat]
    · simp [iat]
/-- what alive keeps -/
structure Al (w0 wr : World) (A1 A2 : Option Addr) (J : Int) : Prop where
  bel : Below w0.heap.size w0 wr
  l : Rk .u64 wr wr.heap.size (some ⟨w0.heap.size, 0, none⟩) 3 [1, 2, 3]
  p : Rk .u64 wr wr.heap.size A1 1 [J]
  q : Rk .u64 wr wr.heap.size A2 2 [2, 3]
theorem Al.next {w0 wr w' : World} {A1 A2 : Option Addr} {J : Int} (h : Al w0 wr A1 A2 J) (hb : Below wr.heap.size wr w') : Al w0 w' A1 A2 J := ⟨upB h.bel hb, h.l.up hb, h.p.up hb, h.q.up hb⟩
theorem Al.new {w0 wr : World} {A1 A2 : Option Addr} {J : Int} (h : Al w0 wr A1 A2 J) (o : Obj) : Al w0 (wr.alloc o) A1 A2 J := h.next (b1 _ _)
set_option maxHeartbeats 800000 in
set_option maxRecDepth 100000 in
theorem alive15 : AliveC := by
  intro w
  obtain ⟨J, hJ⟩ : ∃ J, jn 1 2 = J := ⟨_, rfl⟩
  obtain ⟨R, hR⟩ : ∃ R, jn J 3 = R := ⟨_, rfl⟩
  have HJ := Lib.hid hJ
  have HRR := Lib.hid hR
  have HJI : Hid (0 ≤ J ∧ J ≤ 18446744073709551615) := Lib.hid (by rw [← hJ]; exact jn_in _ _)
  have HPA : Hid (prS [1, 2, 3] 2 = ([J], 0)) := Lib.hid (by rw [pr_a, hJ])
  have HRT : Hid (rootS [1, 2, 3] = R) := Lib.hid (by rw [rt_b, hJ, hR])
  have HVA : Hid (vfS R 3 2 3 [J] = true) := Lib.hid (by rw [← hR, ← hJ]; exact vf_a)
  have HVB : Hid (vfS R 3 2 4 [J] = false) := Lib.hid (by rw [← hR, ← hJ]; exact vf_b)
  have HB0 := Lib.hid (b1 w (.cells (vk .u64 [1, 2, 3]).toArray 23))
  have HL0 := Lib.hid (lit_u64 [1, 2, 3] (Bx.new w 23 (vk .u64 [1, 2, 3]).toArray) (by decide) (by decide))
  clear hJ hR
  have kc := fun (w : World) (C : Array Value) (n c : Nat) => Lib.run_convert_bytes_const (P := Try.prog) w 22 5 C n c Try.underlying22 Try.underlying5
  go_enter Try.func15, Try.ntmps15
  go_wp2_with fail
  refine (proof20c _ 3 3 [1, 2, 3] 2 _ HL0.out (by omega)).mono ?_
  rintro e w1 ⟨A1, c1, he, hr, hb, hc1⟩
  rw [HPA.out] at he hr hc1
  have HC1 : Hid (1 ≤ c1) := Lib.hid hc1.1
  have he : e = .returned (.tuple #[.slice A1 1 c1, .int .i64 0]) := he
  subst he
  have hr : Rk .u64 w1 w1.heap.size A1 1 [J] := hr
  have HP1 := Lib.hid hr
  have HB1 := Lib.hid (upB HB0.out hb)
  have HL1 := Lib.hid (HL0.out.up hb)
  clear hr hb HB0 HL0 hc1
  go_wp2_with fail
  refine (proof20 _ 3 3 [1, 2, 3] 0 _ HL1.out (by omega)).mono ?_
  rintro e w2 ⟨A2, c2, he, hr, hb⟩
  rw [pr_b] at he hr
  have he : e = .returned (.tuple #[.slice A2 2 c2, .int .i64 0]) := he
  subst he
  have hr : Rk .u64 w2 w2.heap.size A2 2 [2, 3] := hr
  have HA2 : Hid (Al w w2 A1 A2 J) := Lib.hid ⟨upB HB1.out hb, HL1.out.up hb, HP1.out.up hb, hr⟩
  clear hr hb HP1 HB1 HL1
  go_wp2_with fail
  refine (proof20 _ 3 3 [1, 2, 3] 3 _ HA2.out.l (by omega)).mono ?_
  rintro e w3 ⟨A3, c3, he, hr, hb⟩
  rw [pr_c] at he
  have he : e = .returned (.tuple #[.slice A3 0 c3, .int .i64 2]) := he
  subst he
  have HA := Lib.hid (HA2.out.next hb)
  clear hr hb HA2
  obtain ⟨b1', o1, rfl, _, _⟩ := HA.out.p.get (i := 0) (by omega)
  go_wp2_with fail
  replace HA := Lib.hid (HA.out.next (Below.refl w3.heap.size w3).drew)
  first | (go_region_held3 (fun w' => w'.cell? ⟨b1', o1, none⟩ = some (.int .u64 J)) (first | exact HA.out.p.two (i := 0) (by decide) | exact (HA.out.new _).p.two (i := 0) (by decide) | assumption)
    (first
      | (go_at_call 13; refine (join13 1 2 _ (by decide) (by decide)).mono ?_; rintro e wn ⟨rfl, hb⟩; rw [HJ.out]; first | (replace HA := Lib.hid (HA.out.next hb)) | (have HN1 := Lib.hid ((Bx.new _ 23 (vk .u64 [2, 3]).toArray).next hb); replace HA := Lib.hid ((HA.out.new _).next hb)))
      | (go_at_call 17; refine (same17 A2 _ 2 c2 2 [2, 3] _ (by first | exact HA.out.q | exact (HA.out.new _).q) (lit_u64 [2, 3] (by first | exact HN1.out | exact Bx.new _ 23 (vk .u64 [2, 3]).toArray) (by decide) (by decide))).mono ?_; rintro e wn ⟨rfl, hb⟩; first | (replace HA := Lib.hid (HA.out.next hb)) | (replace HA := Lib.hid ((HA.out.new _).next hb))))) | fail
  go_wp2_with fail
  refine (differ26 _ (some ⟨wn.heap.size, 0, none⟩) 3 3 3 3 [1, 2, 3] [1, 2, 4] _ (HA.out.new _).l (lit_u64 [1, 2, 4] (Bx.new _ 23 (vk .u64 [1, 2, 4]).toArray) (by decide) (by decide)) (by omega) (by omega)).mono ?_
  rintro e w5 ⟨A5, c5, he, hr, hb⟩
  rw [df_a] at he hr
  have he : e = .returned (.tuple #[.slice A5 1 c5, .int .i64 3]) := he
  subst he
  have hr : Rk .i64 w5 w5.heap.size A5 1 [2] := hr
  have HR5 := Lib.hid hr
  have HA5 := Lib.hid ((HA.out.new _).next hb)
  clear hr hb HA
  go_wp2_with fail
  refine (same28 A5 (some ⟨w5.heap.size, 0, none⟩) 1 c5 1 [2] _ (HR5.out.up (b1 _ _)) (lit_i64 [2] (Bx.new _ 3 (vk .i64 [2]).toArray) (by decide) (by decide))).mono ?_
  rintro e w6 ⟨rfl, hb⟩
  have HA6 := Lib.hid ((HA5.out.new _).next hb)
  clear hb HA5 HR5
  go_wp2_with fail
  refine (join13 1 2 _ (by decide) (by decide)).mono ?_
  rintro e w7 ⟨rfl, hb⟩
  rw [HJ.out]
  have HA7 := Lib.hid (HA6.out.next hb)
  clear hb HA6
  go_wp2_with fail
  refine (join13 J 3 _ HJI.out (by decide)).mono ?_
  rintro e w8 ⟨rfl, hb⟩
  rw [HRR.out]
  have HA8 := Lib.hid (HA7.out.next hb)
  clear hb HA7
  go_wp2_with fail
  refine (hash11 none 0 0 [] _ (rk_none _ _ _ rfl)).mono ?_
  rintro e w9 ⟨rfl, rfl⟩
  rw [hs_a]
  go_wp2_with fail
  refine (hash11 (some ⟨w8.heap.size, 0, none⟩) 1 1 [97] _ (lit_u8 w8)).mono ?_
  rintro e w10 ⟨rfl, rfl⟩
  rw [hs_b]
  have HA9 := Lib.hid (HA8.out.new (.cells #[.int .u8 97] 5 (1, 2)))
  clear HA8 kc
  go_wp2_with fail
  refine (root22 (some ⟨w8.heap.size + 1, 0, none⟩) 1 1 [5] _ (lit_u64 [5] (Bx.newAt (t := 23) (cs := (vk .u64 [5]).toArray) (by simp)) (by decide) (by decide)) (by omega)).mono ?_
  rintro e w11 ⟨rfl, hb⟩
  rw [rt_a]
  have HA11 := Lib.hid ((HA9.out.new _).next hb)
  clear hb HA9
  go_wp2_with fail
  refine (root22 _ 3 3 [1, 2, 3] _ HA11.out.l (by omega)).mono ?_
  rintro e w12 ⟨rfl, hb⟩
  rw [HRT.out]
  have HA12 := Lib.hid (HA11.out.next hb)
  clear hb HA11
  go_wp2_with fail
  refine (root22 none 0 0 [] _ (rk_none _ _ _ rfl) (by omega)).mono ?_
  rintro e w13 ⟨rfl, hb⟩
  rw [rt_c]
  have HA13 := Lib.hid (HA12.out.next hb)
  clear hb HA12
  go_wp2_with fail
  refine (verify24 R 3 2 3 _ 1 c1 [J] _ HA13.out.p HC1.out (by decide) (by decide)).mono ?_
  rintro e w14 ⟨rfl, hb⟩
  rw [HVA.out]
  have HA14 := Lib.hid (HA13.out.next hb)
  clear hb HA13
  go_wp2_with fail
  refine (verify24 R 3 2 4 _ 1 c1 [J] _ HA14.out.p HC1.out (by decide) (by decide)).mono ?_
  rintro e w15 ⟨rfl, hb⟩
  rw [HVB.out]
  have HA15 := Lib.hid (HA14.out.next hb)
  clear hb HA14
  go_wp2_with fail
  go_ret
  exact ⟨rfl, HA15.out.bel⟩
end Go.Proofs.Ytbhdghopdhehdaa.Wk
