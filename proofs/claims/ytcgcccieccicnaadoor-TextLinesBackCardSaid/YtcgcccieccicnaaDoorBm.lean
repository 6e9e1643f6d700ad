/- Escapes, fields and lines and back: plain mathematics. No condition. -/
import Derived.Test.YtcgcccieccicnaaDoorBk
set_option linter.unusedSimpArgs false
set_option linter.unusedVariables false
namespace Go.Proofs.YtcgcccieccicnaaDoor.Mt
open Go
theorem strd_data (s : ByteArray) : strd s.data.toList = s := by
  apply ba_eq
  simp [strd]
theorem strd_list (l : List UInt8) : (strd l).data.toList = l := by simp [strd]
theorem ek_all (s : ByteArray) : ek s s.size = esc s.data.toList := by
  unfold ek
  rw [List.take_of_length_le (by simp)]
theorem nil_of {s : ByteArray} (h : s.size = 0) : s = ⟨#[]⟩ := bt_eq h (fun i hi => by omega)
theorem un_es (s : ByteArray) : usS (esS s) = s ∧ usE (esS s) = 0 := by
  by_cases h0 : s.size = 0
  · have e : esS s = ⟨#[37]⟩ := if_pos h0
    rw [e]
    have := us_pc (s := ⟨#[37]⟩) rfl
    exact ⟨by rw [this.1, nil_of h0], this.2⟩
  · have e : esS s = strd (ek s s.size) := if_neg h0
    rw [ek_all] at e
    have hu := une_esc s.data.toList
    have h1 : une (esS s).data.toList = some s.data.toList := by rw [e, strd_list]; exact hu
    have hne : s.data.toList ≠ [] := fun h => h0 (by have := congrArg List.length h; simpa using this)
    have h2 : (esS s).size ≠ 0 := by
      intro h
      have h3 := nil_of h
      rw [h3] at h1
      have : une [] = some s.data.toList := h1
      rw [une_nil] at this
      injection this with this
      exact hne this.symm
    have h3 : esS s ≠ ⟨#[37]⟩ := by
      intro h
      rw [h] at h1
      have : une [37] = some s.data.toList := h1
      rw [une_s1 pl37] at this
      cases this
    have := us_yes h2 h3 h1
    exact ⟨by rw [this.1, strd_data], this.2⟩
theorem e1_pos (b : UInt8) : 0 < (e1 b).length := by unfold e1; split <;> simp
theorem esc_more : ∀ (l : List UInt8), l.length ≤ (esc l).length := by
  intro l
  induction l with
  | nil => exact Nat.zero_le _
  | cons b t ih =>
    rw [esc, List.length_append, List.length_cons]
    have := e1_pos b
    omega
theorem es_un {s : ByteArray} (h : usE s = 0) : esS (usS s) = s ∧ (usS s).size ≤ s.size := by
  by_cases h0 : s.size = 0
  · have := (us_nil h0).2; omega
  · by_cases hp : s = ⟨#[37]⟩
    · have := (us_pc hp).1
      rw [this]
      subst hp
      exact ⟨rfl, by decide⟩
    · rcases hu : une s.data.toList with _ | u
      · have := (us_no h0 hp hu).2; omega
      · have := (us_yes h0 hp hu).1
        rw [this]
        have he := esc_une _ _ u (Nat.le_refl _) hu
        have hl := esc_more u
        rw [he] at hl
        have hsz : s.data.toList.length = s.size := by simp
        have hu0 : (strd u).size ≠ 0 := by
          rw [strd_size]
          intro h9
          have h8 : u = [] := List.eq_nil_of_length_eq_zero h9
          subst h8
          have h7 := congrArg List.length he
          have h6 : esc [] = [] := by rw [esc]
          rw [h6, List.length_nil] at h7
          omega
        have e : esS (strd u) = strd (ek (strd u) (strd u).size) := if_neg hu0
        rw [ek_all, strd_list, he, strd_data] at e
        exact ⟨e, by rw [strd_size]; omega⟩
theorem es_size (s : ByteArray) : (esS s).size ≤ 3 * s.size + 1 := by
  by_cases h0 : s.size = 0
  · have e : esS s = ⟨#[37]⟩ := if_pos h0
    rw [e]
    have : (ByteArray.mk #[37]).size = 1 := rfl
    omega
  · have e : esS s = strd (ek s s.size) := if_neg h0
    rw [e, strd_size]
    have := ek_len s s.size
    omega
theorem es_byte (s : ByteArray) : ∀ i, i < (esS s).size → 33 ≤ bt (esS s) i ∧ bt (esS s) i ≤ 126 := by
  by_cases h0 : s.size = 0
  · have e : esS s = ⟨#[37]⟩ := if_pos h0
    rw [e]
    decide
  · have e : esS s = strd (ek s s.size) := if_neg h0
    rw [ek_all] at e
    rw [e]
    intro i hi
    rw [strd_size] at hi
    rw [bt_strd hi]
    have := esc_in s.data.toList _ (List.getElem_mem hi)
    omega
theorem es_pos (s : ByteArray) : (esS s).size ≠ 0 := by
  intro h
  have h1 := un_es s
  have h2 := us_nil h
  omega
/-- without blanks nothing is split -/
theorem frm_none {s : ByteArray} {c : Int} : ∀ i, (∀ j, j < i → bt s j ≠ c) → frm s c i = 0 ∧ pcs s c i = [] := by
  intro i h
  have := run_no (s := s) (c := c) (p := 0) (q := i) (Nat.zero_le _) (fun j _ hj => h j hj)
  exact this
theorem fl_one {s : ByteArray} (h1 : ¬ 512 < s.size) (h2 : s.size ≠ 0) (h : ∀ i, i < s.size → 33 ≤ bt s i ∧ bt s i ≤ 126) : flL s = [s] ∧ flE s = 0 := by
  have h3 := frm_none (s := s) (c := 32) s.size (fun j hj => by have := h j hj; omega)
  have hok : Fok s := ⟨fun j hj => ⟨by have := h j hj; omega, fun e => by have := h j hj; omega⟩, by rw [h3.1]; omega⟩
  obtain ⟨e1, e2⟩ := fl_ok h1 h2 hok
  refine ⟨?_, e2⟩
  rw [e1, h3.1, h3.2]
  have : s.extract 0 s.size = s := by simp
  rw [this]
  rfl
theorem js_left (l m : List ByteArray) : ∀ k, k ≤ l.length → js (l ++ m) k = js l k := by
  intro k
  induction k with
  | zero => intro _; rfl
  | succ k ih =>
    intro hk
    have e : sat (l ++ m) k = sat l k := by unfold sat; rw [List.getD_eq_getElem?_getD, List.getD_eq_getElem?_getD, List.getElem?_append_left (by omega)]
    show (if 0 < k then js (l ++ m) k ++ ⟨#[32]⟩ else js (l ++ m) k) ++ sat (l ++ m) k = (if 0 < k then js l k ++ ⟨#[32]⟩ else js l k) ++ sat l k
    rw [ih (by omega), e]
theorem sat_last (l : List ByteArray) (x : ByteArray) : sat (l ++ [x]) l.length = x := by simp [sat]
theorem js_last (l : List ByteArray) (x : ByteArray) : js (l ++ [x]) (l ++ [x]).length = if 0 < l.length then js l l.length ++ ⟨#[32]⟩ ++ x else x := by
  rw [List.length_append, List.length_singleton]
  show (if 0 < l.length then js (l ++ [x]) l.length ++ ⟨#[32]⟩ else js (l ++ [x]) l.length) ++ sat (l ++ [x]) l.length = _
  rw [sat_last, js_left l [x] _ (Nat.le_refl _)]
  split
  · rfl
  · next h =>
    have : l = [] := List.eq_nil_of_length_eq_zero (by omega)
    subst this
    exact ByteArray.empty_append
theorem ext_app {s : ByteArray} {a b c : Nat} (h1 : a ≤ b) (h2 : b ≤ c) : s.extract a b ++ s.extract b c = s.extract a c := by
  rw [ByteArray.extract_append_extract, Nat.min_eq_left h1, Nat.max_eq_right h2]
theorem ext_byte {s : ByteArray} {i : Nat} (h : i < s.size) {c : Nat} (hc : c < 256) (hb : bt s i = (c : Int)) : s.extract i (i + 1) = ⟨#[UInt8.ofNat c]⟩ := by
  rw [ext_one h]
  have := by_bt h
  rw [hb] at this
  rw [u8_eq hc this]
  rfl
/-- the ended pieces, joined, are what stands before the next one -/
theorem js_pcs {s : ByteArray} : ∀ i, i ≤ s.size → (frm s 32 i = 0 ∧ pcs s 32 i = []) ∨ (0 < (pcs s 32 i).length ∧ js (pcs s 32 i) (pcs s 32 i).length ++ ⟨#[32]⟩ = s.extract 0 (frm s 32 i)) := by
  intro i
  induction i with
  | zero => intro _; exact .inl ⟨rfl, rfl⟩
  | succ i ih =>
    intro hi
    have h1 := ih (by omega)
    by_cases h : bt s i = 32
    · right
      rw [frm_yes h, pcs_yes h]
      have hb : s.extract i (i + 1) = ⟨#[32]⟩ := ext_byte (c := 32) (by omega) (by omega) h
      have hf := frm_le s 32 i
      refine ⟨by simp, ?_⟩
      rw [js_last]
      rcases h1 with ⟨h2, h3⟩ | ⟨h2, h3⟩
      · rw [h2, h3, if_neg (by simp), ← hb, ext_app (Nat.zero_le _) (by omega)]
      · rw [if_pos h2, h3, ← hb, ext_app (Nat.zero_le _) hf, ext_app (Nat.zero_le _) (by omega)]
    · rw [frm_no h, pcs_no h]
      exact h1
theorem ext_pos {s : ByteArray} {a b : Nat} (h1 : a < b) (h2 : b ≤ s.size) : (s.extract a b).size ≠ 0 := by rw [ByteArray.size_extract]; omega
theorem pcs_pos {s : ByteArray} : ∀ i, i ≤ s.size → Okf s i → ∀ x ∈ pcs s 32 i, x.size ≠ 0 := by
  intro i
  induction i with
  | zero => intro _ _ x hx; cases hx
  | succ i ih =>
    intro hi ho x hx
    have ho2 : Okf s i := fun j hj => ho j (by omega)
    by_cases h : bt s i = 32
    · rw [pcs_yes h, List.mem_append] at hx
      rcases hx with hx | hx
      · exact ih (by omega) ho2 x hx
      · simp only [List.mem_singleton] at hx
        subst hx
        have := (ho i (by omega)).2 h
        have := frm_le s 32 i
        exact ext_pos (by omega) (by omega)
    · rw [pcs_no h] at hx
      exact ih (by omega) ho2 x hx
/-- the fields of a line, joined, are the line; none is empty -/
theorem fl_back {s : ByteArray} (h : flE s = 0) : js (flL s) (flL s).length = s ∧ ∀ i, i < (flL s).length → (sat (flL s) i).size ≠ 0 := by
  by_cases hb : 512 < s.size
  · have := (fl_big hb).2; omega
  · by_cases h0 : s.size = 0
    · rw [(fl_nil h0).1]
      exact ⟨(nil_of h0).symm, fun i hi => by simp at hi⟩
    · by_cases hok : Fok s
      · have e := (fl_ok hb h0 hok).1
        have hf := frm_le s 32 s.size
        have hx : s.extract 0 s.size = s := by simp
        rw [e]
        refine ⟨?_, fun i hi => ?_⟩
        · rw [js_last]
          rcases js_pcs s.size (Nat.le_refl _) with ⟨h2, h3⟩ | ⟨h2, h3⟩
          · rw [h2, h3, if_neg (by simp)]
            exact hx
          · rw [if_pos h2, h3, ext_app (Nat.zero_le _) hf]
            exact hx
        · have hm : sat (pcs s 32 s.size ++ [s.extract (frm s 32 s.size) s.size]) i ∈ pcs s 32 s.size ++ [s.extract (frm s 32 s.size) s.size] := by
            unfold sat
            rw [List.getD_eq_getElem?_getD, List.getElem?_eq_getElem hi]
            exact List.getElem_mem hi
          rw [List.mem_append] at hm
          rcases hm with hm | hm
          · exact pcs_pos s.size (Nat.le_refl _) hok.1 _ hm
          · simp only [List.mem_singleton] at hm
            rw [hm]
            have := hok.2
            exact ext_pos (by omega) (Nat.le_refl _)
      · have := (fl_bad hb h0 hok).2; omega
theorem fl_not {s : ByteArray} (h : flE s ≠ 0) : flL s = [] ∧ s.size ≠ 0 := by
  by_cases hb : 512 < s.size
  · exact ⟨(fl_big hb).1, by omega⟩
  · by_cases h0 : s.size = 0
    · exact absurd (fl_nil h0).2 h
    · by_cases hok : Fok s
      · exact absurd (fl_ok hb h0 hok).2 h
      · exact ⟨(fl_bad hb h0 hok).1, h0⟩
/-- the first k lines, each with a line feed -/
def cat (l : List ByteArray) : Nat → ByteArray
  | 0 => ⟨#[]⟩
  | k + 1 => cat l k ++ sat l k ++ ⟨#[10]⟩
theorem cat_left (l m : List ByteArray) : ∀ k, k ≤ l.length → cat (l ++ m) k = cat l k := by
  intro k
  induction k with
  | zero => intro _; rfl
  | succ k ih =>
    intro hk
    have e : sat (l ++ m) k = sat l k := by unfold sat; rw [List.getD_eq_getElem?_getD, List.getD_eq_getElem?_getD, List.getElem?_append_left (by omega)]
    rw [cat, cat, ih (by omega), e]
theorem cat_last (l : List ByteArray) (x : ByteArray) : cat (l ++ [x]) (l ++ [x]).length = cat l l.length ++ x ++ ⟨#[10]⟩ := by
  rw [List.length_append, List.length_singleton, cat, sat_last, cat_left l [x] _ (Nat.le_refl _)]
theorem cat_pcs {s : ByteArray} : ∀ i, i ≤ s.size → cat (pcs s 10 i) (pcs s 10 i).length = s.extract 0 (frm s 10 i) := by
  intro i
  induction i with
  | zero => intro _; apply ba_eq; simp [pcs, cat, frm]
  | succ i ih =>
    intro hi
    have h1 := ih (by omega)
    by_cases h : bt s i = 10
    · rw [frm_yes h, pcs_yes h]
      have hb : s.extract i (i + 1) = ⟨#[10]⟩ := ext_byte (c := 10) (by omega) (by omega) h
      have hf := frm_le s 10 i
      rw [cat_last, h1, ext_app (Nat.zero_le _) hf, ← hb, ext_app (Nat.zero_le _) (by omega)]
    · rw [frm_no h, pcs_no h]
      exact h1
theorem frm_clean {s : ByteArray} {c : Int} : ∀ i j, frm s c i ≤ j → j < i → bt s j ≠ c := by
  intro i
  induction i with
  | zero => intro j _ hj; omega
  | succ i ih =>
    intro j h1 h2
    by_cases h : bt s i = c
    · rw [frm_yes h] at h1; omega
    · rw [frm_no h] at h1
      rcases Nat.lt_or_ge j i with h3 | h3
      · exact ih j h1 h3
      · obtain rfl : j = i := by omega
        exact h
theorem bt_ex {s : ByteArray} {a b i : Nat} (hb : b ≤ s.size) (h : i < (s.extract a b).size) : bt (s.extract a b) i = bt s (a + i) := by
  have h2 := h
  rw [ByteArray.size_extract] at h2
  rw [← bt_at h, ← bt_at (show a + i < s.size by omega)]
  congr 2
  rw [ByteArray.getElem_extract]
def Nof (c : Int) (x : ByteArray) : Prop := ∀ i, i < x.size → bt x i ≠ c
theorem nof_ext {s : ByteArray} {c : Int} {a b : Nat} (hb : b ≤ s.size) (ha : frm s c b = a) : Nof c (s.extract a b) := by
  intro i hi
  rw [bt_ex hb hi]
  rw [ByteArray.size_extract] at hi
  exact frm_clean b (a + i) (by omega) (by omega)
theorem pcs_clean {s : ByteArray} {c : Int} : ∀ i, i ≤ s.size → ∀ x ∈ pcs s c i, Nof c x := by
  intro i
  induction i with
  | zero => intro _ x hx; cases hx
  | succ i ih =>
    intro hi x hx
    by_cases h : bt s i = c
    · rw [pcs_yes h, List.mem_append] at hx
      rcases hx with hx | hx
      · exact ih (by omega) x hx
      · simp only [List.mem_singleton] at hx
        subst hx
        exact nof_ext (by omega) rfl
    · rw [pcs_no h] at hx
      exact ih (by omega) x hx
theorem frm_end {s : ByteArray} {c : Int} (h : s.size ≠ 0) : frm s c s.size < s.size ↔ bt s (s.size - 1) ≠ c := by
  obtain ⟨n, hn⟩ : ∃ n, s.size = n + 1 := ⟨s.size - 1, by omega⟩
  rw [hn, Nat.add_sub_cancel]
  by_cases h1 : bt s n = c
  · rw [frm_yes h1]
    exact ⟨fun h => by omega, fun h2 => absurd h1 h2⟩
  · rw [frm_no h1]
    have := frm_le s c n
    exact ⟨fun _ => h1, fun _ => by omega⟩
theorem ln_mem {s : ByteArray} : ∀ i, i < (lnL s).length → Nof 10 (sat (lnL s) i) := by
  intro i hi
  have hm : sat (lnL s) i ∈ lnL s := by
    unfold sat
    rw [List.getD_eq_getElem?_getD, List.getElem?_eq_getElem hi]
    exact List.getElem_mem hi
  generalize sat (lnL s) i = x at hm
  unfold lnL at hm
  split at hm
  · cases hm
  · rw [List.mem_append] at hm
    rcases hm with hm | hm
    · exact pcs_clean s.size (Nat.le_refl _) _ hm
    · split at hm
      · simp only [List.mem_singleton] at hm
        rw [hm]
        exact nof_ext (Nat.le_refl _) rfl
      · cases hm
/-- the lines, with line feeds, are the text, or want one at its end -/
theorem ln_back {s : ByteArray} (hb : ¬ 65536 < s.size) : cat (lnL s) (lnL s).length = if s.size ≠ 0 ∧ bt s (s.size - 1) ≠ 10 then s ++ ⟨#[10]⟩ else s := by
  have hx : s.extract 0 s.size = s := by simp
  have hf := frm_le s 10 s.size
  unfold lnL
  rw [if_neg hb]
  by_cases h0 : s.size = 0
  · rw [if_neg (show ¬ (s.size ≠ 0 ∧ bt s (s.size - 1) ≠ 10) from fun h => h.1 h0), if_neg (show ¬ frm s 10 s.size < s.size by omega), List.append_nil, cat_pcs _ (Nat.le_refl _), show frm s 10 s.size = s.size by omega]
    exact hx
  · by_cases hl : frm s 10 s.size < s.size
    · rw [if_pos hl, if_pos ⟨h0, (frm_end h0).1 hl⟩, cat_last, cat_pcs _ (Nat.le_refl _), ext_app (Nat.zero_le _) hf, hx]
    · rw [if_neg hl, if_neg (show ¬ (s.size ≠ 0 ∧ bt s (s.size - 1) ≠ 10) from fun h => hl ((frm_end h0).2 h.2)), List.append_nil, cat_pcs _ (Nat.le_refl _), show frm s 10 s.size = s.size by omega]
      exact hx
theorem cat_size {l : List ByteArray} : ∀ k j, k ≤ j → (cat l k).size ≤ (cat l j).size := by
  intro k j h
  obtain ⟨d, rfl⟩ : ∃ d, j = k + d := ⟨j - k, by omega⟩
  induction d with
  | zero => exact Nat.le_refl _
  | succ d ih =>
    have := ih (by omega)
    rw [← Nat.add_assoc, cat, ByteArray.size_append, ByteArray.size_append]
    omega
theorem js_bound {l : List ByteArray} {m : Nat} : ∀ k, (∀ i, i < k → (sat l i).size ≤ m) → (js l k).size ≤ k * (m + 1) := by
  intro k
  induction k with
  | zero => intro _; exact Nat.zero_le _
  | succ k ih =>
    intro h
    have h1 := ih (fun i hi => h i (by omega))
    have h2 := h k (by omega)
    have z1 : (ByteArray.mk #[32]).size = 1 := rfl
    show ((if 0 < k then js l k ++ ⟨#[32]⟩ else js l k) ++ sat l k).size ≤ _
    rw [ByteArray.size_append, Nat.succ_mul]
    split
    · rw [ByteArray.size_append]; omega
    · omega
end Go.Proofs.YtcgcccieccicnaaDoor.Mt
