/- How many frames are intact, in the layer. Conditions: the bytes read as the list; at most 100000 bytes. -/
import Derived.Test.YtppgaddjjlcfcaaIt
set_option linter.unusedSimpArgs false
set_option linter.unusedVariables false
namespace Go.Proofs.Ytppgaddjjlcfcaa.Wk
open Go.RowKit
open Go.Proofs.Ytppgaddjjlcfcaa.Mt
set_option maxHeartbeats 4000000 in
set_option maxRecDepth 100000 in
theorem intact28 (A : Option Addr) (n c : Nat) (zs : List Int) (w : World) (h : Rk .u8 w w.heap.size A n zs) (hn : n ≤ 100000) (hc : n ≤ c) (hcc : c ≤ 9223372036854775807) : Calls Try.prog 28 #[.slice A n c] w (ItR zs n w) := by
  have hmf : ∀ (fn : Fn) (first cap : Array Value) (w : World), (Instr.makeFunc fn first cap).run Try.prog w = .ok (.func fn first cap) w := fun _ _ _ _ => rfl
  obtain ⟨g, hg⟩ : ∃ g, w.heap.size = g := ⟨_, rfl⟩
  have HX1 : Hid (Bx (w.alloc (.cells #[.slice A n c, .int .i64 0] 57)) g 57 #[.slice A n c, .int .i64 (0 : Nat)]) := Lib.hid (Bx.newAt hg)
  have HB1 : Hid (Below w.heap.size w (w.alloc (.cells #[.slice A n c, .int .i64 0] 57))) := Lib.hid (b1 w _)
  have HZ := Lib.hid h
  have HG := Lib.hid hg
  clear h
  go_enter Try.func28, Try.ntmps28
  go_wp2_with fail
  go_loopw [5, 6, 7] (fun nv _ _ wr => ∃ k a : Nat, nv = .int .i64 k ∧ Hid (a = sq zs n k) ∧ Hid (Fg zs n k) ∧ Hid (Bx wr g 57 #[.slice A n c, .int .i64 a]) ∧ Hid (Below w.heap.size w wr)) (fun nv _ _ _ => n + 1 - (intOf nv).toNat)
  case atStart => exact ⟨0, 0, rfl, Lib.hid rfl, Lib.hid (fun j hj => by omega), HX1, HB1⟩
  case round =>
    obtain ⟨k, a, rfl, HA, HFG, HX, HB⟩ := hrel
    obtain ⟨hk1, hk2⟩ := sq_in k HFG.out
    rw [← HA.out] at hk1 hk2
    have c1 := (HX.out.cell 1).trans rfl
    have hlt := HX.out.lt
    have HLT := Lib.hid hlt
    have W1 : IntKind.i64.wrap ((k : Int) + 1) = (k : Int) + 1 := IntWalk.i64_in _ (by omega)
    have HBA : Hid (Below w.heap.size w (wr.alloc (.cells #[.int .i64 0] 29))) := Lib.hid (HB.out.trans ((b1 wr _).mono HB.out.size))
    have HZ1 : Hid (Rk .u8 (wr.alloc (.cells #[.int .i64 0] 29)) g A n zs) := Lib.hid (by have := HZ.out.below HBA.out (Nat.le_refl _); rw [HG.out] at this; exact this)
    by_cases hE : frE zs n (a : Int) = 0
    · obtain ⟨x, hx, hax, hxn⟩ := fr_bound hE
      have hcl := clo43_ok g wr.heap.size n c A (a : Int) zs g _ (HX.out.alloc (.cells #[.int .i64 0] 29)) (Bx.new _ _ _) HZ1.out (Nat.le_refl _) (by omega) hn hc hcc hE
      have hrun := run_ok43 _ wr _ hcl
      rw [hx] at hrun
      have HR := Lib.hid hrun
      have HS : Hid (x = sq zs n (k + 1)) := Lib.hid (by rw [sq, ← HA.out, hx, Int.toNat_natCast])
      have HF2 : Hid (Fg zs n (k + 1)) := Lib.hid (HFG.out.next (by rw [← HA.out]; exact hE))
      clear hcl hrun hE hx
      go_wp2_with fail
      refine HR.out.mono ?_
      rintro e w2 ⟨rfl, w1, ⟨r1, r2⟩, hb⟩
      have HX2 := Lib.hid (r1.below hb HLT.out)
      have HB2 : Hid (Below w.heap.size w w2) := Lib.hid ((HBA.out.trans (by have := r2; rw [← HG.out] at this; exact this)).trans (hb.mono HB.out.size))
      clear r1 r2 hb
      go_wp2_with fail
      go_roundw
      case rel => exact ⟨k + 1, x, by go_num, HS, HF2, HX2, HB2⟩
      case measure => simp [intOf]; omega
    · have hcl := clo43_fail g wr.heap.size n c A (a : Int) zs g _ (HX.out.alloc (.cells #[.int .i64 0] 29)) (Bx.new _ _ _) HZ1.out (Nat.le_refl _) (by omega) hn hc hcc hE
      have hrun := run_fail43 _ wr _ _ hcl
      obtain ⟨er, her⟩ : ∃ er, frE zs n (a : Int) = er := ⟨_, rfl⟩
      rw [her] at hE hrun
      have HR := Lib.hid hrun
      have HER := Lib.hid her
      have HNE := Lib.hid hE
      have e1 : (er != 0) = true := by simp [hE]
      clear hcl hrun her hE
      go_wp2_with fail
      refine HR.out.mono ?_
      rintro e w2 ⟨rfl, w1, r2, hb⟩
      have HB2 : Hid (Below w.heap.size w w2) := Lib.hid ((HBA.out.trans (by have := r2; rw [← HG.out] at this; exact this)).trans (hb.mono HB.out.size))
      clear r2 hb
      go_wp2_with fail
      go_ret2
      exact ⟨k, by rw [← HA.out]; rfl, HFG.out, by rw [← HA.out, HER.out]; exact HNE.out, HB2.out⟩
end Go.Proofs.Ytppgaddjjlcfcaa.Wk
