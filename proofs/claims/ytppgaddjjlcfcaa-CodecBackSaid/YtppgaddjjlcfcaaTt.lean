/- Text in the layer. Conditions: the bytes read as the list; at most 100000 bytes. -/
import Derived.Test.YtppgaddjjlcfcaaTx
import Derived.Test.YtppgaddjjlcfcaaGe
import Derived.Laws.IdiomStrings
set_option linter.unusedSimpArgs false
set_option linter.unusedVariables false
namespace Go.Proofs.Ytppgaddjjlcfcaa.Mt
open Go
/-- the string that bytes are -/
def byl (l : List Int) : List UInt8 := l.map (fun x => UInt8.ofNat x.toNat)
def bys (l : List Int) : ByteArray := ⟨(byl l).toArray⟩
end Go.Proofs.Ytppgaddjjlcfcaa.Mt
namespace Go.Proofs.Ytppgaddjjlcfcaa.Wk
open Go.RowKit
open Go.Proofs.Ytppgaddjjlcfcaa.Mt
theorem conv_nil (w : World) (A : Option Addr) (c : Nat) : (convert 22 9 (.slice A 0 c)).run Try.prog w = .ok (.string ⟨#[]⟩) w := by
  rw [run_convert_bytes_string w 22 9 5 A 0 c Try.underlying22 Try.underlying5 Try.underlying9]
  cases A with
  | none => rfl
  | some a =>
    have h := run_convert_bytes_back (P := Try.prog) w 22 9 5 a c [] Try.underlying22 Try.underlying5 Try.underlying9 (fun j hj => by simp at hj)
    rw [run_convert_bytes_string w 22 9 5 (some a) [].length c Try.underlying22 Try.underlying5 Try.underlying9] at h
    exact h
theorem conv_rk {w : World} {B n c : Nat} {A : Option Addr} {zs : List Int} (h : Rk .u8 w B A n zs) : (convert 22 9 (.slice A n c)).run Try.prog w = .ok (.string (bys zs)) w := by
  rcases Nat.eq_zero_or_pos n with h0 | h0
  · subst h0
    have : zs = [] := List.eq_nil_of_length_eq_zero h.1
    subst this
    exact conv_nil w A c
  · obtain ⟨b, off, rfl, hb, _⟩ := h.get (i := 0) h0
    have hl : (byl zs).length = n := by unfold byl; rw [List.length_map]; exact h.1
    have hc := run_convert_bytes_back (P := Try.prog) w 22 9 5 ⟨b, off, none⟩ c (byl zs) Try.underlying22 Try.underlying5 Try.underlying9 (fun j hj => by
      have e : (⟨b, off, none⟩ : Addr).add j = ⟨b, off + j, none⟩ := by unfold Addr.add; by_cases hj : j = 0 <;> simp [hj]
      rw [e, h.two (by omega)]
      have hr := u8_r (h.2.2.2 j)
      have hz : j < zs.length := by rw [h.1]; omega
      have : iat zs j = zs[j] := by unfold iat; rw [List.getD_eq_getElem?_getD, List.getElem?_eq_getElem hz]; rfl
      have hb : (byl zs)[j] = UInt8.ofNat (zs[j]).toNat := by simp [byl]
      rw [hb, UInt8.toNat_ofNat', ← this]
      congr 2
      omega)
    rw [hl] at hc
    exact hc
set_option maxHeartbeats 2000000 in
theorem clo39_ok (g gn ge n c : Nat) (A : Option Addr) (t : Int) (zs : List Int) (B : Nat) (w : World) (h : Bx w g 57 #[.slice A n c, .int .i64 t]) (hx : Bx w gn 9 #[.string ⟨#[]⟩]) (he : Bx w ge 29 #[.int .i64 0]) (hz : Rk .u8 w B A n zs) (hB : B ≤ g) (hBn : B ≤ gn) (h1 : g ≠ gn) (h2 : g ≠ ge) (h3 : gn ≠ ge) (hn : n ≤ 100000) (hc : n ≤ c) (hcc : c ≤ 9223372036854775807) (hE : teE zs n t = 0) :
    Calls Try.prog 39 #[.pointer (some ⟨g, 0, none⟩), .pointer (some ⟨gn, 0, none⟩)] w fun e w' => e = .returned (.tuple #[]) ∧ (Bx w' g 57 #[.slice A n c, .int .i64 (teN zs n t)] ∧ Bx w' gn 9 #[.string (bys (teL zs n t))] ∧ Below B w w') ∧ Bx w' ge 29 #[.int .i64 0] := by
  go_enter Try.func39, Try.ntmps39
  go_wp2_with fail
  refine (bytes40 g n c A t zs B w h hz hB hn hc hcc).mono ?_
  rintro e w1 (⟨hne, _, _⟩ | ⟨_, A', c', rfl, hlc, hr, hb⟩)
  · exact absurd hE hne
  · obtain ⟨v, hv⟩ : ∃ v, teL zs n t = v := ⟨_, rfl⟩
    obtain ⟨nx, hnx⟩ : ∃ v, teN zs n t = v := ⟨_, rfl⟩
    rw [hnx] at hb
    rw [hv] at hr ⊢
    have HV := Lib.hid hv
    have HNX := Lib.hid hnx
    have B0 := set_below hb hB h.lt
    have hg : Bx w1 g 57 #[.slice A n c, .int .i64 nx] := (h.set 1 (.int .i64 nx)).below hb (by have := h.lt; omega)
    have hgn : Bx w1 gn 9 #[.string ⟨#[]⟩] := (hx.far (Ne.symm h1) 1 _).below hb (by have := hx.lt; omega)
    have hge : Bx w1 ge 29 #[.int .i64 0] := (he.far (Ne.symm h2) 1 _).below hb (by have := he.lt; omega)
    have hcv := conv_rk (c := c') hr
    have c0 := (hgn.cell 0).trans rfl
    have f0 := hgn.free 0
    have hlt := hgn.lt
    have R1 := Lib.hid (hg.far h1 0 (.string (bys v)))
    have R2 := Lib.hid (hgn.set 0 (.string (bys v)))
    have R3 := Lib.hid (hge.far (Ne.symm h3) 0 (.string (bys v)))
    have R4 := Lib.hid (B0.setCell (p := ⟨gn, 0, none⟩) hBn (.string (bys v)))
    clear hv hnx hb B0 hg hgn hge h hx he hz hE h1 h2 h3 hr hlc
    go_wp2_with fail
    go_returns
    exact ⟨rfl, ⟨by rw [HNX.out]; exact R1.out, by rw [HV.out]; exact R2.out, R4.out⟩, R3.out⟩
theorem clo39_fail (g gn ge n c : Nat) (A : Option Addr) (t : Int) (zs : List Int) (B : Nat) (w : World) (h : Bx w g 57 #[.slice A n c, .int .i64 t]) (he : Bx w ge 29 #[.int .i64 0]) (hz : Rk .u8 w B A n zs) (hB : B ≤ g) (h2 : g ≠ ge) (hn : n ≤ 100000) (hc : n ≤ c) (hcc : c ≤ 9223372036854775807) (hE : teE zs n t ≠ 0) :
    Calls Try.prog 39 #[.pointer (some ⟨g, 0, none⟩), .pointer (some ⟨gn, 0, none⟩)] w fun e w' => e = .panicked [fl (teE zs n t)] ∧ Below B w w' ∧ Bx w' ge 29 #[.int .i64 0] := by
  go_enter Try.func39, Try.ntmps39
  go_wp2_with fail
  refine (bytes40 g n c A t zs B w h hz hB hn hc hcc).mono ?_
  rintro e w1 (⟨_, rfl, x, hb⟩ | ⟨hne, _⟩)
  · exact ⟨rfl, rfl, set_below hb hB h.lt, (he.far (Ne.symm h2) 1 _).below hb (by have := he.lt; omega)⟩
  · exact absurd hne hE
set_option maxHeartbeats 4000000 in
set_option maxRecDepth 100000 in
theorem text20 (A : Option Addr) (n c : Nat) (t : Int) (zs : List Int) (w : World) (h : Rk .u8 w w.heap.size A n zs) (hn : n ≤ 100000) (hc : n ≤ c) (hcc : c ≤ 9223372036854775807) : Calls Try.prog 20 #[.slice A n c, .int .i64 t] w fun e w' => e = .returned (.tuple #[.string (bys (teL zs n t)), .int .i64 (teN zs n t), .int .i64 (teE zs n t)]) ∧ Below w.heap.size w w' := by
  have hmf : ∀ (fn : Fn) (first cap : Array Value) (w : World), (Instr.makeFunc fn first cap).run Try.prog w = .ok (.func fn first cap) w := fun _ _ _ _ => rfl
  obtain ⟨g, hg⟩ : ∃ g, w.heap.size = g := ⟨_, rfl⟩
  have HX1 : Hid (Bx (w.alloc (.cells #[.slice A n c, .int .i64 t] 57)) g 57 #[.slice A n c, .int .i64 t]) := Lib.hid (Bx.newAt hg)
  have HX2 := Lib.hid (HX1.out.alloc (.cells #[.string ⟨#[]⟩] 9))
  have HN2 : Hid (Bx ((w.alloc (.cells #[.slice A n c, .int .i64 t] 57)).alloc (.cells #[.string ⟨#[]⟩] 9)) (g + 1) 9 #[.string ⟨#[]⟩]) := Lib.hid (Bx.newAt (by simp; omega))
  have HX3 := Lib.hid (HX2.out.alloc (.cells #[.int .i64 0] 29))
  have HN3 := Lib.hid (HN2.out.alloc (.cells #[.int .i64 0] 29))
  have HE3 : Hid (Bx (((w.alloc (.cells #[.slice A n c, .int .i64 t] 57)).alloc (.cells #[.string ⟨#[]⟩] 9)).alloc (.cells #[.int .i64 0] 29)) (g + 2) 29 #[.int .i64 0]) := Lib.hid (Bx.newAt (by simp; omega))
  have HB2 : Hid (Below w.heap.size w ((w.alloc (.cells #[.slice A n c, .int .i64 t] 57)).alloc (.cells #[.string ⟨#[]⟩] 9))) := Lib.hid ((b1 w _).alloc (by simp) _)
  have HB3 : Hid (Below w.heap.size w (((w.alloc (.cells #[.slice A n c, .int .i64 t] 57)).alloc (.cells #[.string ⟨#[]⟩] 9)).alloc (.cells #[.int .i64 0] 29))) := Lib.hid (HB2.out.alloc (by simp; omega) _)
  have HZ3 := Lib.hid (h.below HB3.out (Nat.le_refl _))
  have HG := Lib.hid hg
  have HS2 : Hid (((w.alloc (.cells #[.slice A n c, .int .i64 t] 57)).alloc (.cells #[.string ⟨#[]⟩] 9)).heap.size = g + 2) := Lib.hid (by simp; omega)
  clear h
  go_enter Try.func20, Try.ntmps20
  by_cases hE : teE zs n t = 0
  · obtain ⟨v, hv⟩ : ∃ v, bys (teL zs n t) = v := ⟨_, rfl⟩
    obtain ⟨nx, hnx⟩ : ∃ v, teN zs n t = v := ⟨_, rfl⟩
    have hcl := clo39_ok g (g + 1) (g + 2) n c A t zs g _ HX3.out HN3.out HE3.out (by have := HZ3.out; rw [HG.out] at this; exact this) (Nat.le_refl _) (by omega) (by omega) (by omega) (by omega) hn hc hcc hE
    have hrun := run_ok39 _ ((w.alloc (.cells #[.slice A n c, .int .i64 t] 57)).alloc (.cells #[.string ⟨#[]⟩] 9)) _ (by rw [HS2.out]; exact hcl)
    rw [hv, hnx] at hrun
    have HR := Lib.hid hrun
    rw [hv, hnx, hE]
    clear hcl hrun hE hv hnx
    go_wp2_with fail
    refine HR.out.mono ?_
    rintro e w2 ⟨rfl, w1, ⟨r1, r2, r3⟩, hb⟩
    rw [HS2.out] at hb
    have q1 := r1.below hb (by omega)
    have q2 := r2.below hb (by omega)
    obtain ⟨d0, d1⟩ := q1.cells2
    have d2 := (q2.cell 0).trans rfl
    have HF : Hid (Below w.heap.size w w2) := Lib.hid (by
      have h3 := HB3.out
      rw [HG.out] at h3 ⊢
      exact (h3.trans r3).trans (hb.mono (by omega)))
    have l1 := q1.lt
    have l2 := q2.lt
    clear r1 r2 r3 hb q1 q2
    go_wp2_with fail
    go_quiet (fail)
    go_wp2_with fail
    go_ret3
    exact ⟨rfl, below_drewN HF.out nq⟩
  · have hcl := clo39_fail g (g + 1) (g + 2) n c A t zs g _ HX3.out HE3.out (by have := HZ3.out; rw [HG.out] at this; exact this) (Nat.le_refl _) (by omega) hn hc hcc hE
    have hrun := run_fail39 _ ((w.alloc (.cells #[.slice A n c, .int .i64 t] 57)).alloc (.cells #[.string ⟨#[]⟩] 9)) _ _ (by rw [HS2.out]; exact hcl)
    obtain ⟨z1, z2⟩ := te_no hE
    obtain ⟨er, her⟩ : ∃ er, teE zs n t = er := ⟨_, rfl⟩
    rw [her] at hrun hE
    rw [z1, z2, her]
    have HR := Lib.hid hrun
    have e1 : (er != 0) = true := by simp [hE]
    clear hcl hrun hE z1 z2 her
    go_wp2_with fail
    refine HR.out.mono ?_
    rintro e w2 ⟨rfl, w1, r1, hb⟩
    rw [HS2.out] at hb
    have HF : Hid (Below w.heap.size w w2) := Lib.hid (by
      have h3 := HB3.out
      rw [HG.out] at h3 ⊢
      exact (h3.trans r1).trans (hb.mono (by omega)))
    clear r1 hb
    go_wp2_with fail
    go_ret3
    exact ⟨rfl, HF.out⟩
end Go.Proofs.Ytppgaddjjlcfcaa.Wk
