/- The difference of two sets; the reference's normal form, union, intersection, difference; the length in both. Conditions: the slices read as intervals; at most 400 each. -/
import Derived.Test.YtmdkhnndfhcfdaaRe
import Derived.Test.YtmdkhnndfhcfdaaCo
set_option linter.unusedSimpArgs false
set_option linter.unusedVariables false
namespace Go.Proofs.Ytmdkhnndfhcfdaa.Mt
theorem QS1 (a b : List Iv) (t : Int) : Wk.QS a b 1 t ↔ Hs a t ∨ Hs b t := by unfold Wk.QS inB; rw [if_pos rfl, Bool.or_eq_true, hsB_iff, hsB_iff]
theorem QS2 (a b : List Iv) (t : Int) : Wk.QS a b 2 t ↔ Hs a t ∧ Hs b t := by unfold Wk.QS inB; rw [if_neg (by decide), if_pos rfl, Bool.and_eq_true, hsB_iff, hsB_iff]
theorem QS3 (a b : List Iv) (t : Int) : Wk.QS a b 3 t ↔ Hs a t ∧ ¬ Hs b t := by
  unfold Wk.QS inB
  rw [if_neg (by decide), if_neg (by decide), Bool.and_eq_true, hsB_iff, Bool.not_eq_true', ← hsB_iff b t]
  simp
def lenk (l : List Iv) : Nat → Int
  | 0 => 0
  | k + 1 => lenk l k + ((vat l k).2 - (vat l k).1)
theorem lenk_in {l : List Iv} (h : Nf l) : ∀ k, k ≤ l.length → 0 ≤ lenk l k ∧ lenk l k ≤ rsf l k := by
  intro k
  induction k with
  | zero => intro _; simp [lenk, rsf]
  | succ k ih =>
    intro hk
    have i1 := ih (by omega)
    have o := h.ok _ (vat_mem (l := l) (i := k) (by omega))
    have g := rsf_le h (k := k) (by omega)
    unfold Ok at o
    rw [lenk, show rsf l (k + 1) = (vat l k).2 from rfl]
    omega
theorem Hs.in {l : List Iv} {t : Int} (h : Hs l t) : 0 ≤ t ∧ t < 68719476736 := by
  obtain ⟨v, _, o, a, b⟩ := h
  unfold Ok at o
  omega
end Go.Proofs.Ytmdkhnndfhcfdaa.Mt
namespace Go.Proofs.Ytmdkhnndfhcfdaa.Wk
open Go.RowKit
open Go.Proofs.Ytmdkhnndfhcfdaa.Mt
theorem NfR.to {w w2 w' : World} {P Q : Int → Prop} {L L' : Nat} {e : Ending} (h : NfR w2 P L e w') (hb : Below w.heap.size w w2) (hq : ∀ t, P t ↔ Q t) (hl : L ≤ L') : NfR w Q L' e w' := by
  obtain ⟨A', c', R, h1, h2, h3, h4, h5, h6, h7, h8⟩ := h
  exact ⟨A', c', R, h1, h2, h3, fun h0 b off sp e => ⟨Nat.le_trans hb.size (h4 h0 b off sp e).1, (h4 h0 b off sp e).2⟩, h5, fun t => (h6 t).trans (hq t), upB hb h7, by omega⟩
theorem rp_none (w : World) (B : Nat) : Rp w B none 0 [] := ⟨rfl, by omega, fun h => by omega, fun i => by simp [vat, In64]⟩
theorem ref14 (A : Option Addr) (n c : Nat) (a : List Iv) (w : World) (h : Rp w w.heap.size A n a) (hn : n ≤ 400) : Calls Try.prog 14 #[.slice A n c] w (NfR w (Hs a) (2 * n)) := by
  have HA := Lib.hid h
  clear h
  go_enter Try.func14, Try.ntmps14
  go_wp2_with fail
  refine (combine31 A none n c 0 0 a [] 1 _ HA.out (rp_none _ _) hn (by omega)).mono ?_
  intro e w1 hh
  have HH := Lib.hid (hh.to (Below.refl _ _) (fun t => (QS1 a [] t).trans ⟨fun h => h.elim id (fun h => absurd h (Hs.nil t)), .inl⟩) (by omega : _ ≤ (2 * n)))
  clear hh
  obtain ⟨A1, c1, R1, rfl, _⟩ := HH.out
  go_wp2_with fail
  go_ret
  exact HH.out
theorem ref17 (A B : Option Addr) (n m c c' : Nat) (a b : List Iv) (w : World) (h : Rp w w.heap.size A n a) (k : Rp w w.heap.size B m b) (hn : n ≤ 400) (hm : m ≤ 400) : Calls Try.prog 17 #[.slice A n c, .slice B m c'] w (NfR w (fun t => Hs a t ∨ Hs b t) (2 * (n + m))) := by
  have HA := Lib.hid h
  have HK := Lib.hid k
  clear h k
  go_enter Try.func17, Try.ntmps17
  go_wp2_with fail
  refine (combine31 A B n c m c' a b 1 _ HA.out HK.out hn hm).mono ?_
  intro e w1 hh
  have HH := Lib.hid (hh.to (Below.refl _ _) (QS1 a b) (by omega : _ ≤ (2 * (n + m))))
  clear hh
  obtain ⟨A1, c1, R1, rfl, _⟩ := HH.out
  go_wp2_with fail
  go_ret
  exact HH.out
theorem ref19 (A B : Option Addr) (n m c c' : Nat) (a b : List Iv) (w : World) (h : Rp w w.heap.size A n a) (k : Rp w w.heap.size B m b) (hn : n ≤ 400) (hm : m ≤ 400) : Calls Try.prog 19 #[.slice A n c, .slice B m c'] w (NfR w (fun t => Hs a t ∧ Hs b t) (2 * (n + m))) := by
  have HA := Lib.hid h
  have HK := Lib.hid k
  clear h k
  go_enter Try.func19, Try.ntmps19
  go_wp2_with fail
  refine (combine31 A B n c m c' a b 2 _ HA.out HK.out hn hm).mono ?_
  intro e w1 hh
  have HH := Lib.hid (hh.to (Below.refl _ _) (QS2 a b) (by omega : _ ≤ (2 * (n + m))))
  clear hh
  obtain ⟨A1, c1, R1, rfl, _⟩ := HH.out
  go_wp2_with fail
  go_ret
  exact HH.out
theorem ref21 (A B : Option Addr) (n m c c' : Nat) (a b : List Iv) (w : World) (h : Rp w w.heap.size A n a) (k : Rp w w.heap.size B m b) (hn : n ≤ 400) (hm : m ≤ 400) : Calls Try.prog 21 #[.slice A n c, .slice B m c'] w (NfR w (fun t => Hs a t ∧ ¬ Hs b t) (2 * (n + m))) := by
  have HA := Lib.hid h
  have HK := Lib.hid k
  clear h k
  go_enter Try.func21, Try.ntmps21
  go_wp2_with fail
  refine (combine31 A B n c m c' a b 3 _ HA.out HK.out hn hm).mono ?_
  intro e w1 hh
  have HH := Lib.hid (hh.to (Below.refl _ _) (QS3 a b) (by omega : _ ≤ (2 * (n + m))))
  clear hh
  obtain ⟨A1, c1, R1, rfl, _⟩ := HH.out
  go_wp2_with fail
  go_ret
  exact HH.out
theorem minus20 (A B : Option Addr) (n m c c' : Nat) (a b : List Iv) (w : World) (h : Rp w w.heap.size A n a) (k : Rp w w.heap.size B m b) (hn : n ≤ 900) (hm : m ≤ 900) : Calls Try.prog 20 #[.slice A n c, .slice B m c'] w (NfR w (fun t => Hs a t ∧ ¬ Hs b t) (n + m + 1)) := by
  have HA := Lib.hid h
  have HK := Lib.hid k
  clear h k
  go_enter Try.func20, Try.ntmps20
  go_wp2_with fail
  refine (normal13 B m c' b _ HK.out (by omega)).mono ?_
  rintro e w1 ⟨A1, c1, R1, rfl, h1, h2, h3, h4, h5, h6, h7⟩
  have HC1 := Lib.hid h1
  have HR1 := Lib.hid h2
  have HF1 := Lib.hid h3
  have HN1 := Lib.hid h4
  have HS1 := Lib.hid h5
  have HB1 := Lib.hid h6
  have HL1 := Lib.hid h7
  clear h1 h2 h3 h4 h5 h6 h7
  go_wp2_with fail
  refine (rest33 A1 R1.length c1 R1 _ HR1.out (by have := HL1.out; omega) HN1.out).mono ?_
  rintro e w2 ⟨A2, c2, rfl, g1, g2, g3⟩
  have HR2 := Lib.hid g2
  have HB2 := Lib.hid (upB HB1.out g3)
  clear g1 g2 g3
  go_wp2_with fail
  refine (meet18 A A2 n (R1.length + 1) c c2 a (rst R1) _ (HA.out.up HB2.out) HR2.out (by omega) (by have := HL1.out; omega)).mono ?_
  intro e w3 hh
  have HH := Lib.hid (hh.to (Q := fun t => Hs a t ∧ ¬ Hs b t) HB2.out (fun t => by
    rw [rst_hs HN1.out t, HS1.out t]
    exact ⟨fun h => ⟨h.1, h.2.2.2⟩, fun h => ⟨h.1, h.1.in.1, h.1.in.2, h.2⟩⟩) (by have := HL1.out; omega : _ ≤ n + m + 1))
  clear hh
  obtain ⟨A3, c3, R3, rfl, _⟩ := HH.out
  go_wp2_with fail
  go_ret
  exact HH.out
/-- what a length returns: that of the normal form -/
def LnR (w : World) (l : List Iv) (e : Ending) (w' : World) : Prop := ∃ R, Nf R ∧ (∀ t, Hs R t ↔ Hs l t) ∧ e = .returned (.int .i64 (lenk R R.length)) ∧ Below w.heap.size w w'
set_option maxHeartbeats 1000000 in
theorem length22 (A : Option Addr) (n c : Nat) (a : List Iv) (w : World) (h : Rp w w.heap.size A n a) (hn : n ≤ 1000) : Calls Try.prog 22 #[.slice A n c] w (LnR w a) := by
  have HA := Lib.hid h
  clear h
  go_enter Try.func22, Try.ntmps22
  go_wp2_with fail
  refine (normal13 A n c a _ HA.out hn).mono ?_
  rintro e w1 ⟨A1, c1, R1, rfl, h1, h2, h3, h4, h5, h6, h7⟩
  have HC1 := Lib.hid h1
  have HR1 := Lib.hid h2
  have HF1 := Lib.hid h3
  have HN1 := Lib.hid h4
  have HS1 := Lib.hid h5
  have HB1 := Lib.hid h6
  have HL1 := Lib.hid h7
  clear h1 h2 h3 h4 h5 h6 h7
  obtain ⟨N, hN⟩ : ∃ N, R1.length = N := ⟨_, rfl⟩
  have HN := Lib.hid hN
  rw [hN] at HR1 ⊢
  clear hN
  have hn2 := HR1.out.2.1
  go_wp2_with fail
  go_loopw [3, 9] (fun fv iv wr => ∃ k : Nat, k ≤ N ∧ fv = .int .i64 (lenk R1 k) ∧ iv = .int .i64 k ∧ Hid (Below w1.heap.size w1 wr)) (fun _ iv _ => N - (intOf iv).toNat)
  case atStart => exact ⟨0, Nat.zero_le _, rfl, rfl, Lib.hid (Below.refl _ _)⟩
  case round =>
    obtain ⟨k, hk, rfl, rfl, HW⟩ := hrel
    have hin := lenk_in HN1.out k (by rw [HN.out]; exact hk)
    have hin2 := rsf_in HN1.out (k := k) (by rw [HN.out]; exact hk)
    by_cases hlt : k < N
    · have hltI : (k : Int) < (N : Int) := by omega
      obtain ⟨b, off, rfl, hbb, d1, d2⟩ := (HR1.out.up HW.out).get hlt
      have ho := HN1.out.ok _ (vat_mem (l := R1) (i := k) (by rw [HN.out]; exact hlt))
      obtain ⟨⟨x, y⟩, hxy⟩ : ∃ v, vat R1 k = v := ⟨_, rfl⟩
      obtain ⟨f, hf⟩ : ∃ f, lenk R1 k = f := ⟨_, rfl⟩
      have HE : Hid (lenk R1 (k + 1) = f + (y - x)) := Lib.hid (by rw [lenk, hxy, hf])
      rw [hxy] at d1 d2 ho
      rw [hf] at hin ⊢
      unfold Ok at ho
      simp only at d1 d2 ho
      have E1 : IntKind.i64.wrap (y - x) = y - x := IntWalk.i64_in _ (by omega)
      have E2 : IntKind.i64.wrap (f + (y - x)) = f + (y - x) := IntWalk.i64_in _ (by omega)
      clear hxy hf hin hin2 ho
      go_wp2_with fail
      go_roundw
      case rel => exact ⟨k + 1, by omega, by first | (rw [HE.out]; done) | (rw [HE.out]; go_num), by go_num, Lib.hid (HW.out.alloc HW.out.size _)⟩
      case measure => simp [intOf]; omega
    · have hltI : ¬ (k : Int) < (N : Int) := by omega
      have hkn : k = R1.length := by rw [HN.out]; omega
      have HE : Hid (lenk R1 k = lenk R1 R1.length) := Lib.hid (by rw [← hkn])
      clear hkn hin hin2
      go_wp2_with fail
      go_ret
      exact ⟨R1, HN1.out, HS1.out, by first | (rw [HE.out]; done) | (rw [HE.out]; rfl), upB HB1.out HW.out⟩
set_option maxHeartbeats 1000000 in
theorem length23 (A : Option Addr) (n c : Nat) (a : List Iv) (w : World) (h : Rp w w.heap.size A n a) (hn : n ≤ 400) : Calls Try.prog 23 #[.slice A n c] w (LnR w a) := by
  have HA := Lib.hid h
  clear h
  go_enter Try.func23, Try.ntmps23
  go_wp2_with fail
  refine (ref14 A n c a _ HA.out hn).mono ?_
  rintro e w1 ⟨A1, c1, R1, rfl, h1, h2, h3, h4, h5, h6, h7⟩
  have HC1 := Lib.hid h1
  have HR1 := Lib.hid h2
  have HF1 := Lib.hid h3
  have HN1 := Lib.hid h4
  have HS1 := Lib.hid h5
  have HB1 := Lib.hid h6
  have HL1 := Lib.hid h7
  clear h1 h2 h3 h4 h5 h6 h7
  obtain ⟨N, hN⟩ : ∃ N, R1.length = N := ⟨_, rfl⟩
  have HN := Lib.hid hN
  rw [hN] at HR1 ⊢
  clear hN
  have hn2 := HR1.out.2.1
  go_wp2_with fail
  go_loopw [3, 5] (fun fv iv wr => ∃ k : Nat, k ≤ N ∧ fv = .int .i64 (lenk R1 k) ∧ iv = .int .i64 k ∧ Hid (Below w1.heap.size w1 wr)) (fun _ iv _ => N - (intOf iv).toNat)
  case atStart => exact ⟨0, Nat.zero_le _, rfl, rfl, Lib.hid (Below.refl _ _)⟩
  case round =>
    obtain ⟨k, hk, rfl, rfl, HW⟩ := hrel
    have hin := lenk_in HN1.out k (by rw [HN.out]; exact hk)
    have hin2 := rsf_in HN1.out (k := k) (by rw [HN.out]; exact hk)
    by_cases hlt : k < N
    · have hltI : (k : Int) < (N : Int) := by omega
      obtain ⟨b, off, rfl, hbb, d1, d2⟩ := (HR1.out.up HW.out).get hlt
      have ho := HN1.out.ok _ (vat_mem (l := R1) (i := k) (by rw [HN.out]; exact hlt))
      obtain ⟨⟨x, y⟩, hxy⟩ : ∃ v, vat R1 k = v := ⟨_, rfl⟩
      obtain ⟨f, hf⟩ : ∃ f, lenk R1 k = f := ⟨_, rfl⟩
      have HE : Hid (lenk R1 (k + 1) = f + (y - x)) := Lib.hid (by rw [lenk, hxy, hf])
      rw [hxy] at d1 d2 ho
      rw [hf] at hin ⊢
      unfold Ok at ho
      simp only at d1 d2 ho
      have E1 : IntKind.i64.wrap (f + y) = f + y := IntWalk.i64_in _ (by omega)
      have E2 : IntKind.i64.wrap (f + y - x) = f + y - x := IntWalk.i64_in _ (by omega)
      clear hxy hf hin hin2 ho
      go_wp2_with fail
      go_quiet (fail)
      go_wp2_with fail
      go_roundw
      case rel => exact ⟨k + 1, by omega, by first | (rw [HE.out]; done) | (rw [HE.out]; go_num), by go_num, Lib.hid (below_drewN HW.out nq)⟩
      case measure => simp [intOf]; omega
    · have hltI : ¬ (k : Int) < (N : Int) := by omega
      have hkn : k = R1.length := by rw [HN.out]; omega
      have HE : Hid (lenk R1 k = lenk R1 R1.length) := Lib.hid (by rw [← hkn])
      clear hkn hin hin2
      go_wp2_with fail
      go_ret
      exact ⟨R1, HN1.out, HS1.out, by first | (rw [HE.out]; done) | (rw [HE.out]; rfl), upB HB1.out HW.out⟩
end Go.Proofs.Ytmdkhnndfhcfdaa.Wk
