/- Points, kinds and systems by the references. No condition. -/
import Derived.Test.YtlmihhecpaomjaaB2
set_option linter.unusedSimpArgs false
set_option linter.unusedVariables false
namespace Go.Proofs.Ytlmihhecpaomjaa.Wk
open Go Go.RowKit Go.Proofs.Ytlmihhecpaomjaa.Av
noncomputable def vT (t : Tpg) : Tpg := if tck t = 0 then t else ⟨⟨[], []⟩, []⟩
noncomputable def vN (n : Nwk) : Nwk := if gck n = 0 then n else ⟨[], []⟩
theorem tck_gck {t : Tpg} (h : tck t = 0) : gck t.net = 0 := by
  by_cases hg : gck t.net = 0
  · exact hg
  · rw [tck_g (bne_iff_ne.2 hg)] at h; exact h
theorem pt_parts {l : List Pnt} {k : Nat} (h : pt1 l k = 0) : Nm.nmB (ix l k).name = true ∧ dupP (l.take k) (ix l k).name = false := by
  unfold pt1 at h
  cases h1 : Nm.nmB (ix l k).name with
  | false => rw [h1] at h; cases h
  | true =>
    cases h2 : dupP (l.take k) (ix l k).name with
    | true => rw [h1, h2] at h; cases h
    | false => exact ⟨rfl, rfl⟩
def pF (l : List Pnt) (s : ByteArray) : Option Pnt := l.find? fun x => sEq x.name s
def zP : Pnt := ⟨⟨#[]⟩, 0, ⟨#[]⟩⟩
def zS : Sys := ⟨⟨#[]⟩, false, 0⟩
theorem vT_tck (t : Tpg) (h : tck t = 0) : vT t = t := if_pos h
def fN (l : List Pnt) (s : ByteArray) : Pnt × Bool := match pF l s with
  | some p => (p, true)
  | none => (zP, false)
def kd (l : List Pnt) (s : ByteArray) : Int := (fN l s).1.kind
def sy (l : List Pnt) (s : ByteArray) : ByteArray := (fN l s).1.sys
noncomputable def kn (t : Tpg) : List Pnt := (vT t).net.pts
noncomputable def sR (t : Tpg) (s : ByteArray) : Sys × Bool := match sF (vT t).syss (sy (kn t) s) with
  | some y => (y, true)
  | none => (zS, false)
end Go.Proofs.Ytlmihhecpaomjaa.Wk
