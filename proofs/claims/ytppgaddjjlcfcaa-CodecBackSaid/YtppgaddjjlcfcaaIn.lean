/- Int in the layer: the number at an offset, or its error. Conditions: the bytes read as the list; at most 100000 bytes. -/
import Derived.Test.YtppgaddjjlcfcaaNu
import Derived.Test.YtppgaddjjlcfcaaNi
set_option linter.unusedSimpArgs false
set_option linter.unusedVariables false
namespace Go.Proofs.Ytppgaddjjlcfcaa.Wk
open Go.RowKit
open Go.Proofs.Ytppgaddjjlcfcaa.Mt
theorem set_below {B g i : Nat} {u : Value} {w w' : World} (h : Below w.heap.size (w.setCell ⟨g, i, none⟩ u) w') (hB : B ≤ g) (hg : g < w.heap.size) : Below B w w' :=
  (Below.refl B w |>.setCell (p := ⟨g, i, none⟩) hB u).trans (h.mono (by omega))
set_option maxHeartbeats 2000000 in
theorem clo36_ok (g gn ge n c : Nat) (A : Option Addr) (t : Int) (zs : List Int) (B : Nat) (w : World) (h : Bx w g 57 #[.slice A n c, .int .i64 t]) (hx : Bx w gn 3 #[.int .i64 0]) (he : Bx w ge 29 #[.int .i64 0]) (hz : Rk .u8 w B A n zs) (hB : B ≤ g) (hBn : B ≤ gn) (h1 : g ≠ gn) (h2 : g ≠ ge) (h3 : gn ≠ ge) (hn : n ≤ 100000) (hE : nuE zs n t = 0) :
    Calls Try.prog 36 #[.pointer (some ⟨g, 0, none⟩), .pointer (some ⟨gn, 0, none⟩)] w fun e w' => e = .returned (.tuple #[]) ∧ (Bx w' g 57 #[.slice A n c, .int .i64 (nuN zs n t)] ∧ Bx w' gn 3 #[.int .i64 (nuV zs n t)] ∧ Below B w w') ∧ Bx w' ge 29 #[.int .i64 0] := by
  go_enter Try.func36, Try.ntmps36
  go_wp2_with fail
  refine (number37 g n c A t zs B w h hz hB hn).mono ?_
  rintro e w1 (⟨hne, _, _⟩ | ⟨_, rfl, hb⟩)
  · exact absurd hE hne
  · obtain ⟨v, hv⟩ : ∃ v, nuV zs n t = v := ⟨_, rfl⟩
    obtain ⟨nx, hnx⟩ : ∃ v, nuN zs n t = v := ⟨_, rfl⟩
    rw [hnx] at hb
    rw [hv]
    have HV := Lib.hid hv
    have HNX := Lib.hid hnx
    have B0 := set_below hb hB h.lt
    have hg : Bx w1 g 57 #[.slice A n c, .int .i64 nx] := (h.set 1 (.int .i64 nx)).below hb (by have := h.lt; omega)
    have hgn : Bx w1 gn 3 #[.int .i64 0] := (hx.far (Ne.symm h1) 1 _).below hb (by have := hx.lt; omega)
    have hge : Bx w1 ge 29 #[.int .i64 0] := (he.far (Ne.symm h2) 1 _).below hb (by have := he.lt; omega)
    have c0 := (hgn.cell 0).trans rfl
    have f0 := hgn.free 0
    have hlt := hgn.lt
    have R1 := Lib.hid (hg.far h1 0 (.int .i64 v))
    have R2 := Lib.hid (hgn.set 0 (.int .i64 v))
    have R3 := Lib.hid (hge.far (Ne.symm h3) 0 (.int .i64 v))
    have R4 := Lib.hid (B0.setCell (p := ⟨gn, 0, none⟩) hBn (.int .i64 v))
    clear hv hnx hb B0 hg hgn hge h hx he hz hE h1 h2 h3
    go_wp2_with fail
    go_returns
    exact ⟨rfl, ⟨by rw [HNX.out]; exact R1.out, by rw [HV.out]; exact R2.out, R4.out⟩, R3.out⟩
theorem clo36_fail (g gn ge n c : Nat) (A : Option Addr) (t : Int) (zs : List Int) (B : Nat) (w : World) (h : Bx w g 57 #[.slice A n c, .int .i64 t]) (he : Bx w ge 29 #[.int .i64 0]) (hz : Rk .u8 w B A n zs) (hB : B ≤ g) (hn : n ≤ 100000) (hE : nuE zs n t ≠ 0) :
    Calls Try.prog 36 #[.pointer (some ⟨g, 0, none⟩), .pointer (some ⟨gn, 0, none⟩)] w fun e w' => e = .panicked [fl (nuE zs n t)] ∧ Below w.heap.size w w' ∧ Bx w' ge 29 #[.int .i64 0] := by
  go_enter Try.func36, Try.ntmps36
  go_wp2_with fail
  refine (number37 g n c A t zs B w h hz hB hn).mono ?_
  rintro e w1 (⟨_, rfl, hb⟩ | ⟨hne, _, _⟩)
  · exact ⟨rfl, rfl, hb, he.next hb⟩
  · exact absurd hne hE
set_option maxHeartbeats 4000000 in
set_option maxRecDepth 100000 in
theorem int18 (A : Option Addr) (n c : Nat) (t : Int) (zs : List Int) (w : World) (h : Rk .u8 w w.heap.size A n zs) (hn : n ≤ 100000) : Calls Try.prog 18 #[.slice A n c, .int .i64 t] w fun e w' => e = .returned (.tuple #[.int .i64 (nuV zs n t), .int .i64 (nuN zs n t), .int .i64 (nuE zs n t)]) ∧ Below w.heap.size w w' := by
  have hmf : ∀ (fn : Fn) (first cap : Array Value) (w : World), (Instr.makeFunc fn first cap).run Try.prog w = .ok (.func fn first cap) w := fun _ _ _ _ => rfl
  obtain ⟨g, hg⟩ : ∃ g, w.heap.size = g := ⟨_, rfl⟩
  have HX1 : Hid (Bx (w.alloc (.cells #[.slice A n c, .int .i64 t] 57)) g 57 #[.slice A n c, .int .i64 t]) := Lib.hid (Bx.newAt hg)
  have HX2 := Lib.hid (HX1.out.alloc (.cells #[.int .i64 0] 3))
  have HN2 : Hid (Bx ((w.alloc (.cells #[.slice A n c, .int .i64 t] 57)).alloc (.cells #[.int .i64 0] 3)) (g + 1) 3 #[.int .i64 0]) := Lib.hid (Bx.newAt (by simp; omega))
  have HX3 := Lib.hid (HX2.out.alloc (.cells #[.int .i64 0] 29))
  have HN3 := Lib.hid (HN2.out.alloc (.cells #[.int .i64 0] 29))
  have HE3 : Hid (Bx (((w.alloc (.cells #[.slice A n c, .int .i64 t] 57)).alloc (.cells #[.int .i64 0] 3)).alloc (.cells #[.int .i64 0] 29)) (g + 2) 29 #[.int .i64 0]) := Lib.hid (Bx.newAt (by simp; omega))
  have HB2 : Hid (Below w.heap.size w ((w.alloc (.cells #[.slice A n c, .int .i64 t] 57)).alloc (.cells #[.int .i64 0] 3))) := Lib.hid ((b1 w _).alloc (by simp) _)
  have HB3 : Hid (Below w.heap.size w (((w.alloc (.cells #[.slice A n c, .int .i64 t] 57)).alloc (.cells #[.int .i64 0] 3)).alloc (.cells #[.int .i64 0] 29))) := Lib.hid (HB2.out.alloc (by simp; omega) _)
  have HZ3 := Lib.hid (h.below HB3.out (Nat.le_refl _))
  have HG := Lib.hid hg
  have HS2 : Hid (((w.alloc (.cells #[.slice A n c, .int .i64 t] 57)).alloc (.cells #[.int .i64 0] 3)).heap.size = g + 2) := Lib.hid (by simp; omega)
  clear h
  go_enter Try.func18, Try.ntmps18
  by_cases hE : nuE zs n t = 0
  · obtain ⟨v, hv⟩ : ∃ v, nuV zs n t = v := ⟨_, rfl⟩
    obtain ⟨nx, hnx⟩ : ∃ v, nuN zs n t = v := ⟨_, rfl⟩
    have hc := clo36_ok g (g + 1) (g + 2) n c A t zs g _ HX3.out HN3.out HE3.out (by have := HZ3.out; rw [HG.out] at this; exact this) (Nat.le_refl _) (by omega) (by omega) (by omega) (by omega) hn hE
    have hrun := run_ok36 _ ((w.alloc (.cells #[.slice A n c, .int .i64 t] 57)).alloc (.cells #[.int .i64 0] 3)) _ (by rw [HS2.out]; exact hc)
    rw [hv, hnx] at hrun
    have HR := Lib.hid hrun
    have HE := Lib.hid hE
    rw [hv, hnx, hE]
    clear hc hrun hE hv hnx
    go_wp2_with fail
    refine HR.out.mono ?_
    rintro e w2 ⟨rfl, w1, ⟨r1, r2, r3⟩, hb⟩
    rw [HS2.out] at hb
    have q1 := r1.below hb (by omega)
    have q2 := r2.below hb (by omega)
    obtain ⟨d0, d1⟩ := q1.cells2
    have d2 := (q2.cell 0).trans rfl
    have HF : Hid (Below w.heap.size w w2) := Lib.hid (by
      have h3 := HB3.out
      rw [HG.out] at h3 ⊢
      exact (h3.trans r3).trans (hb.mono (by omega)))
    have l1 := q1.lt
    have l2 := q2.lt
    clear r1 r2 r3 hb q1 q2
    go_wp2_with fail
    go_quiet (fail)
    go_wp2_with fail
    go_ret3
    exact ⟨rfl, below_drewN HF.out nq⟩
  · have hc := clo36_fail g (g + 1) (g + 2) n c A t zs g _ HX3.out HE3.out (by have := HZ3.out; rw [HG.out] at this; exact this) (Nat.le_refl _) hn hE
    have hrun := run_fail36 _ ((w.alloc (.cells #[.slice A n c, .int .i64 t] 57)).alloc (.cells #[.int .i64 0] 3)) _ _ (by rw [HS2.out]; exact hc)
    obtain ⟨z1, z2⟩ := nu_ev hE
    obtain ⟨er, her⟩ : ∃ er, nuE zs n t = er := ⟨_, rfl⟩
    rw [her] at hrun hE
    rw [z1, z2, her]
    have HR := Lib.hid hrun
    have e1 : (er != 0) = true := by simp [hE]
    clear hc hrun hE z1 z2 her
    go_wp2_with fail
    refine HR.out.mono ?_
    rintro e w2 ⟨rfl, w1, r1, hb⟩
    rw [HS2.out] at hb
    have HF : Hid (Below w.heap.size w w2) := Lib.hid (by
      have h3 := HB3.out
      rw [HG.out] at h3 ⊢
      exact (h3.trans (r1.mono (by simp; omega))).trans (hb.mono (by omega)))
    clear r1 hb
    go_wp2_with fail
    go_ret3
    exact ⟨rfl, HF.out⟩
end Go.Proofs.Ytppgaddjjlcfcaa.Wk
