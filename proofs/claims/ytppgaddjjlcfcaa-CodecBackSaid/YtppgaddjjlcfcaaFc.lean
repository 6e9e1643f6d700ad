/- The closures over frame. Conditions: as frame42. -/
import Derived.Test.YtppgaddjjlcfcaaFr
import Derived.Test.YtppgaddjjlcfcaaGe
set_option linter.unusedSimpArgs false
set_option linter.unusedVariables false
namespace Go.Proofs.Ytppgaddjjlcfcaa.Wk
open Go.RowKit
open Go.Proofs.Ytppgaddjjlcfcaa.Mt
set_option maxHeartbeats 2000000 in
theorem clo41_ok (g gk gp ge n c : Nat) (A : Option Addr) (t : Int) (zs : List Int) (B : Nat) (w : World) (h : Bx w g 57 #[.slice A n c, .int .i64 t]) (hx : Bx w gk 3 #[.int .i64 0]) (hy : Bx w gp 22 #[.slice none 0 0]) (he : Bx w ge 29 #[.int .i64 0]) (hz : Rk .u8 w B A n zs) (hB : B ≤ g) (hBk : B ≤ gk) (hBp : B ≤ gp) (h1 : g ≠ gk) (h2 : g ≠ gp) (h3 : g ≠ ge) (h4 : gk ≠ gp) (h5 : gk ≠ ge) (h6 : gp ≠ ge) (hn : n ≤ 100000) (hc : n ≤ c) (hcc : c ≤ 9223372036854775807) (hE : frE zs n t = 0) :
    Calls Try.prog 41 #[.pointer (some ⟨g, 0, none⟩), .pointer (some ⟨gk, 0, none⟩), .pointer (some ⟨gp, 0, none⟩)] w fun e w' => e = .returned (.tuple #[]) ∧ (∃ A' c', Bx w' g 57 #[.slice A n c, .int .i64 (frN zs n t)] ∧ Bx w' gk 3 #[.int .i64 (frK zs n t)] ∧ Bx w' gp 22 #[.slice A' (frP zs n t).length c'] ∧ A' ≠ none ∧ Rk .u8 w' B A' (frP zs n t).length (frP zs n t) ∧ Below B w w') ∧ Bx w' ge 29 #[.int .i64 0] := by
  go_enter Try.func41, Try.ntmps41
  go_wp2_with fail
  refine (frame42 g n c A t zs B w h hz hB hn hc hcc).mono ?_
  rintro e w1 (⟨hne, _, _⟩ | ⟨_, A', c', rfl, hA, hlc, hr, hb⟩)
  · exact absurd hE hne
  · obtain ⟨v, hv⟩ : ∃ v, frP zs n t = v := ⟨_, rfl⟩
    obtain ⟨kk, hk⟩ : ∃ v, frK zs n t = v := ⟨_, rfl⟩
    obtain ⟨nx, hnx⟩ : ∃ v, frN zs n t = v := ⟨_, rfl⟩
    rw [hnx] at hb
    rw [hv] at hr ⊢
    rw [hk]
    have HV := Lib.hid hv
    have HK := Lib.hid hk
    have HNX := Lib.hid hnx
    have B0 := set_below hb hB h.lt
    have hg : Bx w1 g 57 #[.slice A n c, .int .i64 nx] := (h.set 1 (.int .i64 nx)).below hb (by have := h.lt; omega)
    have hgk : Bx w1 gk 3 #[.int .i64 0] := (hx.far (Ne.symm h1) 1 _).below hb (by have := hx.lt; omega)
    have hgp : Bx w1 gp 22 #[.slice none 0 0] := (hy.far (Ne.symm h2) 1 _).below hb (by have := hy.lt; omega)
    have hge : Bx w1 ge 29 #[.int .i64 0] := (he.far (Ne.symm h3) 1 _).below hb (by have := he.lt; omega)
    have c0 := (hgk.cell 0).trans rfl
    have f0 := hgk.free 0
    have hlt := hgk.lt
    have hgp2 := hgp.far (Ne.symm h4) 0 (.int .i64 kk)
    have c1 := (hgp2.cell 0).trans rfl
    have f1 := hgp2.free 0
    have hlt1 := hgp2.lt
    have c2 := (hgp.cell 0).trans rfl
    have f2 := hgp.free 0
    have hlt2 := hgp.lt
    have hne4 : ¬ gk = gp := h4
    have hne5 : ¬ gp = gk := fun h => h4 h.symm
    have R1 := Lib.hid ((hg.far h1 0 (.int .i64 kk)).far h2 0 (.slice A' v.length c'))
    have R2 := Lib.hid ((hgk.set 0 (.int .i64 kk)).far h4 0 (.slice A' v.length c'))
    have R3 := Lib.hid (hgp2.set 0 (.slice A' v.length c'))
    have R4 := Lib.hid ((hge.far (Ne.symm h5) 0 (.int .i64 kk)).far (Ne.symm h6) 0 (.slice A' v.length c'))
    have B2 := ((Below.refl B w1).setCell (p := ⟨gk, 0, none⟩) hBk (.int .i64 kk)).setCell (p := ⟨gp, 0, none⟩) hBp (.slice A' v.length c')
    have R5 := Lib.hid (B0.trans B2)
    have R6 := Lib.hid (hr.below B2 (Nat.le_refl _))
    have HA := Lib.hid hA
    clear hv hk hnx hb B0 B2 hg hgk hgp hgp2 hge h hx hy he hz hE h1 h2 h3 h4 h5 h6 hr hlc hA
    go_wp2_with fail
    go_returns
    refine ⟨rfl, ⟨A', c', ?_⟩, R4.out⟩
    rw [HNX.out, HK.out, HV.out]
    exact ⟨R1.out, R2.out, R3.out, HA.out, R6.out, R5.out⟩
theorem clo41_fail (g gk gp ge n c : Nat) (A : Option Addr) (t : Int) (zs : List Int) (B : Nat) (w : World) (h : Bx w g 57 #[.slice A n c, .int .i64 t]) (he : Bx w ge 29 #[.int .i64 0]) (hz : Rk .u8 w B A n zs) (hB : B ≤ g) (h3 : g ≠ ge) (hn : n ≤ 100000) (hc : n ≤ c) (hcc : c ≤ 9223372036854775807) (hE : frE zs n t ≠ 0) :
    Calls Try.prog 41 #[.pointer (some ⟨g, 0, none⟩), .pointer (some ⟨gk, 0, none⟩), .pointer (some ⟨gp, 0, none⟩)] w fun e w' => e = .panicked [fl (frE zs n t)] ∧ Below B w w' ∧ Bx w' ge 29 #[.int .i64 0] := by
  go_enter Try.func41, Try.ntmps41
  go_wp2_with fail
  refine (frame42 g n c A t zs B w h hz hB hn hc hcc).mono ?_
  rintro e w1 (⟨_, rfl, x, hb⟩ | ⟨hne, _⟩)
  · exact ⟨rfl, rfl, set_below hb hB h.lt, (he.far (Ne.symm h3) 1 _).below hb (by have := he.lt; omega)⟩
  · exact absurd hne hE
/-- one frame more, or its error: for Intact -/
theorem clo43_ok (g ge n c : Nat) (A : Option Addr) (t : Int) (zs : List Int) (B : Nat) (w : World) (h : Bx w g 57 #[.slice A n c, .int .i64 t]) (he : Bx w ge 29 #[.int .i64 0]) (hz : Rk .u8 w B A n zs) (hB : B ≤ g) (h3 : g ≠ ge) (hn : n ≤ 100000) (hc : n ≤ c) (hcc : c ≤ 9223372036854775807) (hE : frE zs n t = 0) :
    Calls Try.prog 43 #[.pointer (some ⟨g, 0, none⟩)] w fun e w' => e = .returned (.tuple #[]) ∧ (Bx w' g 57 #[.slice A n c, .int .i64 (frN zs n t)] ∧ Below B w w') ∧ Bx w' ge 29 #[.int .i64 0] := by
  go_enter Try.func43, Try.ntmps43
  go_wp2_with fail
  refine (frame42 g n c A t zs B w h hz hB hn hc hcc).mono ?_
  rintro e w1 (⟨hne, _, _⟩ | ⟨_, A', c', rfl, hA, hlc, hr, hb⟩)
  · exact absurd hE hne
  · have R1 := Lib.hid ((h.set 1 (.int .i64 (frN zs n t))).below hb (by have := h.lt; simpa [World.setCell] using this))
    have R2 := Lib.hid (set_below hb hB h.lt)
    have R3 := Lib.hid ((he.far (Ne.symm h3) 1 (.int .i64 (frN zs n t))).below hb (by have := he.lt; simpa [World.setCell] using this))
    clear hb h he hz hE h3 hr hlc hA
    go_wp2_with fail
    go_returns
    exact ⟨rfl, ⟨R1.out, R2.out⟩, R3.out⟩
theorem clo43_fail (g ge n c : Nat) (A : Option Addr) (t : Int) (zs : List Int) (B : Nat) (w : World) (h : Bx w g 57 #[.slice A n c, .int .i64 t]) (he : Bx w ge 29 #[.int .i64 0]) (hz : Rk .u8 w B A n zs) (hB : B ≤ g) (h3 : g ≠ ge) (hn : n ≤ 100000) (hc : n ≤ c) (hcc : c ≤ 9223372036854775807) (hE : frE zs n t ≠ 0) :
    Calls Try.prog 43 #[.pointer (some ⟨g, 0, none⟩)] w fun e w' => e = .panicked [fl (frE zs n t)] ∧ Below B w w' ∧ Bx w' ge 29 #[.int .i64 0] := by
  go_enter Try.func43, Try.ntmps43
  go_wp2_with fail
  refine (frame42 g n c A t zs B w h hz hB hn hc hcc).mono ?_
  rintro e w1 (⟨_, rfl, x, hb⟩ | ⟨hne, _⟩)
  · exact ⟨rfl, rfl, set_below hb hB h.lt, (he.far (Ne.symm h3) 1 _).below hb (by have := he.lt; omega)⟩
  · exact absurd hne hE
end Go.Proofs.Ytppgaddjjlcfcaa.Wk
