/- The times that are not in a normal form, and the difference of two sets. Conditions: the slices read as intervals; at most 900 each. -/
import Derived.Test.YtmdkhnndfhcfdaaMe
set_option linter.unusedSimpArgs false
set_option linter.unusedVariables false
namespace Go.Proofs.Ytmdkhnndfhcfdaa.Mt
def rsf (L : List Iv) : Nat → Int
  | 0 => 0
  | k + 1 => (vat L k).2
def rsp (L : List Iv) : Nat → List Iv
  | 0 => []
  | k + 1 => rsp L k ++ [(rsf L k, (vat L k).1)]
def rst (L : List Iv) : List Iv := rsp L L.length ++ [(rsf L L.length, 68719476736)]
theorem rsp_len (L : List Iv) : ∀ k, (rsp L k).length = k := by
  intro k
  induction k with
  | zero => rfl
  | succ k ih => rw [rsp, List.length_append, ih]; rfl
theorem rst_len (L : List Iv) : (rst L).length = L.length + 1 := by rw [rst, List.length_append, rsp_len]; rfl
theorem Nf.gap {L : List Iv} (h : Nf L) : ∀ i j, i < j → j < L.length → (vat L i).2 < (vat L j).1 := by
  induction L with
  | nil => intro i j _ hj; simp at hj
  | cons v l ih =>
    intro i j hij hj
    rcases j with _ | j
    · omega
    have hj' : j < l.length := by simpa using hj
    have e : vat (v :: l) (j + 1) = vat l j := by simp [vat]
    rw [e]
    rcases i with _ | i
    · have : vat (v :: l) 0 = v := rfl
      rw [this]
      exact h.2.1 _ (vat_mem hj')
    · have e2 : vat (v :: l) (i + 1) = vat l i := by simp [vat]
      rw [e2]
      exact ih h.2.2 i j (by omega) hj'
theorem rsf_in {L : List Iv} (h : Nf L) {k : Nat} (hk : k ≤ L.length) : 0 ≤ rsf L k ∧ rsf L k ≤ 68719476736 := by
  rcases k with _ | k
  · simp [rsf]
  · have := h.ok _ (vat_mem (l := L) (i := k) (by omega))
    unfold Ok at this
    simp only [rsf]
    omega
theorem rsf_le {L : List Iv} (h : Nf L) {k : Nat} (hk : k < L.length) : rsf L k ≤ (vat L k).1 := by
  rcases k with _ | k
  · have := h.ok _ (vat_mem hk)
    unfold Ok at this
    simp only [rsf]
    omega
  · have := h.gap k (k + 1) (by omega) hk
    simp only [rsf]
    omega
theorem rsf_far {L : List Iv} (h : Nf L) : ∀ {k : Nat}, k ≤ L.length → ∀ t, Hs (L.take k) t → t < rsf L k := by
  intro k
  induction k with
  | zero => intro _ t ht; rw [List.take_zero] at ht; exact absurd ht (Hs.nil t)
  | succ k ih =>
    intro hk t ht
    rw [take_next (by omega), Hs.app, Hs.single] at ht
    have := rsf_le h (k := k) (by omega)
    have o := h.ok _ (vat_mem (l := L) (i := k) (by omega))
    unfold Ok at o
    rw [show rsf L (k + 1) = (vat L k).2 from rfl]
    rcases ht with ht | ht
    · have := ih (by omega) t ht; omega
    · omega
theorem rsp_hs {L : List Iv} (h : Nf L) : ∀ {k : Nat}, k ≤ L.length → ∀ t, Hs (rsp L k) t ↔ 0 ≤ t ∧ t < rsf L k ∧ ¬ Hs (L.take k) t := by
  intro k
  induction k with
  | zero => intro _ t; simp only [rsp, rsf]; exact ⟨fun h => absurd h (Hs.nil t), fun h => by omega⟩
  | succ k ih =>
    intro hk t
    have h1 := rsf_le h (k := k) (by omega)
    have h2 := rsf_in h (k := k) (by omega)
    have h3 := rsf_far h (k := k) (by omega) t
    have o := h.ok _ (vat_mem (l := L) (i := k) (by omega))
    have i1 := ih (by omega) t
    rw [rsp, Hs.app, Hs.single, take_next (by omega), Hs.app, Hs.single, i1]
    unfold Ok at o
    unfold Ok
    rw [show rsf L (k + 1) = (vat L k).2 from rfl]
    by_cases c : t < rsf L k
    · constructor
      · rintro (⟨a, _, b⟩ | a)
        · exact ⟨a, by omega, fun x => x.elim b (fun x => by omega)⟩
        · omega
      · rintro ⟨a, _, b⟩
        exact .inl ⟨a, c, fun x => b (.inl x)⟩
    · have h4 : ¬ Hs (L.take k) t := fun x => c (h3 x)
      constructor
      · rintro (⟨a, b, _⟩ | a)
        · omega
        · exact ⟨by omega, by omega, fun x => x.elim h4 (fun x => by omega)⟩
      · rintro ⟨a, b, x⟩
        refine .inr ?_
        have : ¬ ((vat L k).1 ≤ t) := fun y => x (.inr ⟨o, y, b⟩)
        omega
theorem rst_hs {L : List Iv} (h : Nf L) (t : Int) : Hs (rst L) t ↔ 0 ≤ t ∧ t < 68719476736 ∧ ¬ Hs L t := by
  have h1 := rsp_hs h (Nat.le_refl _) t
  have h2 := rsf_in h (Nat.le_refl _)
  have h3 := rsf_far h (Nat.le_refl _) t
  rw [List.take_length] at h1 h3
  rw [rst, Hs.app, Hs.single, h1]
  unfold Ok
  simp only
  by_cases c : t < rsf L L.length
  · exact ⟨fun x => x.elim (fun x => ⟨x.1, by omega, x.2.2⟩) (fun x => by omega), fun x => .inl ⟨x.1, c, x.2.2⟩⟩
  · exact ⟨fun x => x.elim (fun x => absurd x.2.1 c) (fun x => ⟨by omega, x.2.2, fun y => c (h3 y)⟩), fun x => .inr ⟨by omega, by omega, x.2.1⟩⟩
theorem rst_in {L : List Iv} (h : Nf L) : ∀ v ∈ rst L, 0 ≤ v.1 ∧ v.1 ≤ 68719476736 ∧ 0 ≤ v.2 ∧ v.2 ≤ 68719476736 := by
  have hp : ∀ k, k ≤ L.length → ∀ v ∈ rsp L k, 0 ≤ v.1 ∧ v.1 ≤ 68719476736 ∧ 0 ≤ v.2 ∧ v.2 ≤ 68719476736 := by
    intro k
    induction k with
    | zero => intro _ v hv; simp [rsp] at hv
    | succ k ih =>
      intro hk v hv
      rw [rsp] at hv
      rcases List.mem_append.1 hv with hv | hv
      · exact ih (by omega) v hv
      · have e : v = (rsf L k, (vat L k).1) := by simpa using hv
        have h2 := rsf_in h (k := k) (by omega)
        have o := h.ok _ (vat_mem (l := L) (i := k) (by omega))
        unfold Ok at o
        rw [e]
        simp only
        omega
  intro v hv
  rw [rst] at hv
  rcases List.mem_append.1 hv with hv | hv
  · exact hp _ (Nat.le_refl _) v hv
  · have e : v = (rsf L L.length, 68719476736) := by simpa using hv
    have h2 := rsf_in h (Nat.le_refl _)
    rw [e]
    simp only
    omega
end Go.Proofs.Ytmdkhnndfhcfdaa.Mt
namespace Go.Proofs.Ytmdkhnndfhcfdaa.Wk
open Go.RowKit
open Go.Proofs.Ytmdkhnndfhcfdaa.Mt
theorem Gr.outI {w wr : World} {v : Value} {R : List Iv} (h : Gr w wr v R) (hl : R.length ≤ 2000) (hin : ∀ i, In64 (vat R i).1 ∧ In64 (vat R i).2) : ∃ P cp, v = .slice P R.length cp ∧ R.length ≤ cp ∧ Rp wr wr.heap.size P R.length R ∧ (0 < R.length → ∀ b off sp, P = some ⟨b, off, sp⟩ → w.heap.size ≤ b) := by
  rcases Nat.eq_zero_or_pos R.length with h0 | h0
  · rcases h.2.2 with ⟨e, _⟩ | ⟨g, cap, cur, e, _, _, hc, _⟩
    · exact ⟨none, 0, by rw [h0]; exact e, by omega, ⟨rfl, by omega, fun h => by omega, hin⟩, fun h => by omega⟩
    · exact ⟨_, cap, e, hc, ⟨rfl, by omega, fun h => by omega, hin⟩, fun h => by omega⟩
  · obtain ⟨g, cap, e, hc, hb, hq⟩ := Qb.own h.2 h0
    refine ⟨_, cap, e, hc, ⟨rfl, by omega, fun _ => ⟨g, 0, rfl, hq.lt, fun i hi => ?_⟩, hin⟩, fun _ b off sp e => ?_⟩
    · rw [Nat.zero_add]
      exact hq.cell hi
    · injection e with e
      injection e with e1
      omega
theorem in64_of {R : List Iv} (h : ∀ v ∈ R, 0 ≤ v.1 ∧ v.1 ≤ 68719476736 ∧ 0 ≤ v.2 ∧ v.2 ≤ 68719476736) : ∀ i, In64 (vat R i).1 ∧ In64 (vat R i).2 := by
  intro i
  rcases Nat.lt_or_ge i R.length with hi | hi
  · have := h _ (vat_mem hi)
    unfold In64
    omega
  · have : vat R i = (0, 0) := by simp [vat, hi]
    rw [this]
    unfold In64
    omega
theorem Bx.aside {w w' : World} {g : Nat} {t : TypeId} {cs : Array Value} {row : Option Nat} (h : Bx w g t cs) (hg : w.grownBy w' row) (hne : row ≠ some g) : Bx w' g t cs := (hg.block g h.lt (fun e => hne e.symm)).trans h
set_option maxHeartbeats 2000000 in
set_option maxRecDepth 100000 in
theorem rest33 (A : Option Addr) (n c : Nat) (L : List Iv) (w : World) (h : Rp w w.heap.size A n L) (hn : n ≤ 1500) (hf : Nf L) : Calls Try.prog 33 #[.slice A n c] w fun e w' => ∃ A' c' , e = .returned (.slice A' (n + 1) c') ∧ n + 1 ≤ c' ∧ Rp w' w'.heap.size A' (n + 1) (rst L) ∧ Below w.heap.size w w' := by
  have HR := Lib.hid h
  have HL := Lib.hid h.1
  have HF := Lib.hid hf
  have hn2 := h.2.1
  clear h hf
  obtain ⟨i0, hi0, hz0, hs0, hb0'⟩ := info_parts iv_info
  have HG0 : Hid (Gr w w (.slice none 0 0) (rsp L 0)) := Lib.hid ⟨Below.refl _ _, World.ownsRow_nil _ _ _ _⟩
  go_enter Try.func33, Try.ntmps33
  go_wp2_with fail
  go_loopw [3, 4, 9] (fun v fv iv wr => ∃ k : Nat, k ≤ n ∧ fv = .int .i64 (rsf L k) ∧ iv = .int .i64 k ∧ Hid (Gr w wr v (rsp L k))) (fun _ _ iv _ => n - (intOf iv).toNat)
  case atStart => exact ⟨0, Nat.zero_le _, rfl, rfl, HG0⟩
  case round =>
    obtain ⟨k, hk, rfl, rfl, HG⟩ := hrel
    obtain ⟨f, hf⟩ : ∃ f, rsf L k = f := ⟨_, rfl⟩
    have HFF := Lib.hid hf
    rw [hf]
    obtain ⟨s, hs⟩ : ∃ s, rsp L k = s := ⟨_, rfl⟩
    have HSS := Lib.hid hs
    rw [hs] at HG
    have hsl : s.length = k := by rw [← hs]; exact rsp_len L k
    have HSL := Lib.hid hsl
    clear hf hs hsl
    have HOW := Lib.hid HG.out.2
    have hbs := HG.out.1.size
    by_cases hlt : k < n
    · have hltI : (k : Int) < (n : Int) := by omega
      obtain ⟨b, off, rfl, hbb, d1, d2⟩ := (HR.out.below HG.out.1 (Nat.le_refl _)).get hlt
      have hb2 : b < wr.heap.size := by omega
      obtain ⟨⟨x, y⟩, hxy⟩ : ∃ v, vat L k = v := ⟨_, rfl⟩
      have HV := Lib.hid hxy
      rw [hxy] at d1 d2
      simp only at d1 d2
      clear hxy
      have HBX := Lib.hid (Bx.new wr 25 #[.int .i64 x, .int .i64 y])
      have C4 : Hid (s.length + 1 ≤ maxLen) := Lib.hid (by have := HSL.out; unfold maxLen; omega)
      have C5 : Hid ((s.length + 1) * 16 ≤ 140737488355328) := Lib.hid (by have := HSL.out; omega)
      have HSP : Hid (rsp L (k + 1) = s ++ [(f, x)]) := Lib.hid (by rw [rsp, HSS.out, HFF.out, HV.out])
      have HSF : Hid (rsf L (k + 1) = y) := Lib.hid (by rw [rsf, HV.out])
      go_wp2_with (first | (go_loud (at_builtin; refine wpList_append_own _ rfl _ _ 22 rfl w.heap.size 25 i0 (.agg #[.int .i64 0, .int .i64 0]) 2 16 Try.underlying22 hi0 hz0 hs0 hb0' rfl (by omega) _ _ _ rfl ((HOW.out.alloc _).alloc _) ⟨_, 0, none⟩ 1 1 [.int .i64 f, .int .i64 x] rfl rfl (fun j u hu => new_two (wr.alloc (.cells #[.int .i64 x, .int .i64 y] 25)) (.int .i64 f) (.int .i64 x) 25 _ (by simp) j u hu) (two_one f x) C4.out C5.out (by simp; omega) ?_)) | fail)
      intro v' w9 hown hgrow _
      have hlv := HOW.out.lt
      have HG9 := Lib.hid (Gr.appW (W := ((wr.alloc (.cells #[.int .i64 x, .int .i64 y] 25)).alloc (.cells #[.int .i64 f, .int .i64 x] 25))) ⟨(HG.out.1.alloc HG.out.1.size _).alloc (by have := HG.out.1.size; simp; omega) _, ((HOW.out.alloc _).alloc _)⟩ hown hgrow)
      have HX9 : Hid (Bx w9 wr.heap.size 25 #[.int .i64 x, .int .i64 y]) := Lib.hid ((HBX.out.alloc _).aside hgrow (fun e => by have := (hlv _ e).2; omega))
      clear hown hgrow d1 d2 hlv HOW
      obtain ⟨c0, c1⟩ := HX9.out.cells2
      have hlx := HX9.out.lt
      rw [← HSP.out] at HG9
      go_wp2_with fail
      go_roundw
      case rel => exact ⟨k + 1, by omega, by rw [HSF.out], by go_num, HG9⟩
      case measure => simp [intOf]; omega
    · have hltI : ¬ (k : Int) < (n : Int) := by omega
      have hkn : k = n := by omega
      have C4 : Hid (s.length + 1 ≤ maxLen) := Lib.hid (by have := HSL.out; unfold maxLen; omega)
      have C5 : Hid ((s.length + 1) * 16 ≤ 140737488355328) := Lib.hid (by have := HSL.out; omega)
      have HSP : Hid (rst L = s ++ [(f, 68719476736)]) := Lib.hid (by rw [rst, HL.out, ← hkn, HSS.out, HFF.out])
      have HIN : Hid (∀ i, In64 (vat (s ++ [(f, 68719476736)]) i).1 ∧ In64 (vat (s ++ [(f, 68719476736)]) i).2) := Lib.hid (by rw [← HSP.out]; exact in64_of (rst_in HF.out))
      go_wp2_with (first | (go_loud (at_builtin; refine wpList_append_own _ rfl _ _ 22 rfl w.heap.size 25 i0 (.agg #[.int .i64 0, .int .i64 0]) 2 16 Try.underlying22 hi0 hz0 hs0 hb0' rfl (by omega) _ _ _ rfl (HOW.out.alloc _) ⟨_, 0, none⟩ 1 1 [.int .i64 f, .int .i64 68719476736] rfl rfl (new_two _ _ _ _ _ (by simp)) (two_one f 68719476736) C4.out C5.out (by simp; omega) ?_)) | fail)
      intro v' w9 hown hgrow _
      have HG9 := Lib.hid (HG.out.app hown hgrow)
      clear hown hgrow HOW
      obtain ⟨PR, cR, rfl, hcR, hpR, hoR⟩ := HG9.out.outI (by have := HSL.out; rw [List.length_append]; simp; omega) HIN.out
      have HCR := Lib.hid hcR
      have HPR := Lib.hid hpR
      have HLL : Hid ((s ++ [(f, 68719476736)]).length = n + 1) := Lib.hid (by have := HSL.out; rw [List.length_append]; simp; omega)
      rw [HLL.out] at HCR HPR ⊢
      rw [← HSP.out] at HPR
      clear hcR hpR hoR
      go_wp2_with fail
      go_ret
      exact ⟨PR, cR, rfl, HCR.out, HPR.out, HG9.out.1⟩
end Go.Proofs.Ytmdkhnndfhcfdaa.Wk
