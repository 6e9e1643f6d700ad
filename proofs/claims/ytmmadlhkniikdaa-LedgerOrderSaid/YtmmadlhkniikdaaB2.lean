/- Balances and trial balance, both sides. Condition: few entries, amounts that fit. -/
import Derived.Test.YtmmadlhkniikdaaTy2
import Derived.Test.YtmmadlhkniikdaaB1
set_option linter.unusedSimpArgs false
set_option linter.unusedVariables false
namespace Go.Proofs.Ytmmadlhkniikdaa.Wk
open Go Go.RowKit Go.Proofs.Ytmmadlhkniikdaa.Av
/-- what the posts of an entry add to an account -/
def pb (ps : List Po) (a : ByteArray) : Nat → Int
  | 0 => 0
  | k + 1 => pb ps a k + (bif sEq (ix ps k).acc a then (ix ps k).cents else 0)
def bl (l : List En) (a : ByteArray) : Nat → Int
  | 0 => 0
  | k + 1 => bl l a k + pb (ix l k).posts a (ix l k).posts.length
def bal (l : List En) (a : ByteArray) : Int := bl l a l.length
theorem pb_y {ps : List Po} {a : ByteArray} {k : Nat} (h : sEq (ix ps k).acc a = true) : pb ps a (k + 1) = pb ps a k + (ix ps k).cents := by simp only [pb, h, cond_true]
theorem pb_n {ps : List Po} {a : ByteArray} {k : Nat} (h : sEq (ix ps k).acc a = false) : pb ps a (k + 1) = pb ps a k := by simp only [pb, h, cond_false]; omega
/-- an entry whose amounts fit, with few posts -/
structure okE (e : En) : Prop where
  l : e.posts.length ≤ 40
  k : e.key.size ≤ 100
  a : ∀ p ∈ e.posts, p.acc.size ≤ 100
  c : ∀ p ∈ e.posts, -1125899906842624 ≤ p.cents ∧ p.cents ≤ 1125899906842624
structure okL (l : List En) : Prop where
  n : l.length ≤ 42
  e : ∀ x ∈ l, okE x
theorem pb_in {ps : List Po} {a : ByteArray} (h : ∀ p ∈ ps, -1125899906842624 ≤ p.cents ∧ p.cents ≤ 1125899906842624) : ∀ k, k ≤ ps.length → -(1125899906842624 * (k : Int)) ≤ pb ps a k ∧ pb ps a k ≤ 1125899906842624 * (k : Int)
  | 0, _ => by simp [pb]
  | k + 1, hk => by
    have ih := pb_in h (a := a) k (by omega)
    have hc := h _ (ix_mem (by omega : k < ps.length))
    cases hb : sEq (ix ps k).acc a with
    | true => rw [pb_y hb]; omega
    | false => rw [pb_n hb]; omega
theorem okE.pb {e : En} (h : okE e) (a : ByteArray) (k : Nat) (hk : k ≤ e.posts.length) : -45035996273704960 ≤ Wk.pb e.posts a k ∧ Wk.pb e.posts a k ≤ 45035996273704960 := by
  have := pb_in h.c (a := a) k hk
  have := h.l
  omega
theorem bl_in {l : List En} {a : ByteArray} (h : ∀ x ∈ l, okE x) : ∀ k, k ≤ l.length → -(45035996273704960 * (k : Int)) ≤ bl l a k ∧ bl l a k ≤ 45035996273704960 * (k : Int)
  | 0, _ => by simp [bl]
  | k + 1, hk => by
    have ih := bl_in h (a := a) k (by omega)
    have hc := (h _ (ix_mem (by omega : k < l.length))).pb a (ix l k).posts.length (Nat.le_refl _)
    simp only [bl]; omega
theorem okL.bl {l : List En} (h : okL l) (a : ByteArray) (k : Nat) (hk : k ≤ l.length) : -1891511843495608320 ≤ Wk.bl l a k ∧ Wk.bl l a k ≤ 1891511843495608320 := by
  have := bl_in h.e (a := a) k hk
  have := h.n
  omega
/-- sums of one kind over posts and entries -/
def ps1 (g : Int → Int) (ps : List Po) : Nat → Int
  | 0 => 0
  | k + 1 => ps1 g ps k + g (ix ps k).cents
def es1 (g : Int → Int) (l : List En) : Nat → Int
  | 0 => 0
  | k + 1 => es1 g l k + ps1 g (ix l k).posts (ix l k).posts.length
def gD (n : Int) : Int := max n 0
def gC (n : Int) : Int := max (-n) 0
theorem gD_in {n : Int} (h : -1125899906842624 ≤ n ∧ n ≤ 1125899906842624) : 0 ≤ gD n ∧ gD n ≤ 1125899906842624 := by unfold gD; omega
theorem gC_in {n : Int} (h : -1125899906842624 ≤ n ∧ n ≤ 1125899906842624) : 0 ≤ gC n ∧ gC n ≤ 1125899906842624 := by unfold gC; omega
theorem ps1_in {g : Int → Int} (hg : ∀ n : Int, -1125899906842624 ≤ n ∧ n ≤ 1125899906842624 → 0 ≤ g n ∧ g n ≤ 1125899906842624) {ps : List Po} (h : ∀ p ∈ ps, -1125899906842624 ≤ p.cents ∧ p.cents ≤ 1125899906842624) : ∀ k, k ≤ ps.length → 0 ≤ ps1 g ps k ∧ ps1 g ps k ≤ 1125899906842624 * (k : Int)
  | 0, _ => by simp [ps1]
  | k + 1, hk => by
    have ih := ps1_in hg h k (by omega)
    have hc := hg _ (h _ (ix_mem (by omega : k < ps.length)))
    simp only [ps1]; omega
theorem es1_in {g : Int → Int} (hg : ∀ n : Int, -1125899906842624 ≤ n ∧ n ≤ 1125899906842624 → 0 ≤ g n ∧ g n ≤ 1125899906842624) {l : List En} (h : ∀ x ∈ l, okE x) : ∀ k, k ≤ l.length → 0 ≤ es1 g l k ∧ es1 g l k ≤ 45035996273704960 * (k : Int)
  | 0, _ => by simp [es1]
  | k + 1, hk => by
    have ih := es1_in hg h k (by omega)
    have he := h _ (ix_mem (by omega : k < l.length))
    have hc := ps1_in hg he.c (ix l k).posts.length (Nat.le_refl _)
    have := he.l
    simp only [es1]; omega

set_option maxHeartbeats 4000000 in
set_option maxRecDepth 100000 in
theorem balC (x : Led) (a : ByteArray) (hx : okL x.ents) : Ctr Try.prog 23 [.ag (eLe x), .fl (.string a)] (.d (.fl (.int .i64 (bal x.ents a)))) := by
  refine ctr (n := 35) (rs := #[.tmp 4]) (L := [(0, .d (.ag (eLe x))), (1, .d (.fl (.string a)))]) Try.func23 rfl rfl rfl rfl rfl (fun w0 U0 => ?_)
  refine a_rseq ?_
  have hxl := hx.n
  refine rg_nam (d := 2) (v := .pt 101 0) (m := 101) (nw := [(101, .bx 35 (eLe x))]) rfl (og rfl (of_eff (op_box 101 rfl rfl rfl rfl) rfl)) rfl ?_
  refine rg_put (d := 4) (v := .d (.fl (.int .i64 0))) rfl (og rfl (op_assign rfl rfl rfl)) ?_
  refine rg_done rfl ?_
  refine a_rseq ?_
  refine rg_put (d := 5) (v := .d (.fl (.int .i64 0))) rfl (og rfl (op_assign rfl rfl rfl)) ?_
  refine rg_done rfl ?_
  refine a_seq ?_
  refine a_rseq ?_
  refine rg_put (d := 10) (v := .pt 101 0) rfl (og rfl (of_eff (s_field_pt rfl Try.underlying35 rfl ti33 rfl rfl rfl) rfl)) ?_
  refine rg_put (d := 11) (v := .d (.sl 3 (List.map eEn x.ents))) rfl (og rfl (op_load_pt rfl Try.underlying33 rfl rfl rfl rfl rfl)) ?_
  refine rg_put (d := 12) (v := .d (.fl (.int .i64 (x.ents.length : Int)))) rfl (og rfl (s_len rfl Try.underlying33 rfl rfl)) ?_
  refine rg_put (d := 13) (v := .d (.fl (.int .i64 0))) rfl (og rfl (op_move rfl rfl rfl)) ?_
  refine rg_done rfl ?_
  refine a_block ?_
  refine a_loop (ι := Nat) (fun i => SS [(0, .d (.ag (eLe x))), (1, .d (.fl (.string a))), (2, .pt 101 0), (4, .d (.fl (.int .i64 0))), (11, .d (.sl 3 (List.map eEn x.ents))), (12, .d (.fl (.int .i64 (x.ents.length : Int)))), (13, .d (.fl (.int .i64 (i : Int)))), (5, .d (.fl (.int .i64 (bl x.ents a i))))] [(101, .bx 35 (eLe x))]) (fun i => i ≤ x.ents.length) (fun i => x.ents.length - i) 0 (by omega) (imp_forget rfl ⟨rfl, rfl, rfl, rfl, rfl, rfl, (by first | rfl | exact ci (by omega) | exact ci (by simp) | exact cd (by simp) | simp), rfl, trivial⟩ ⟨rfl, trivial⟩) (fun i hok => ?_)
  have hi := hok
  have hbi := hx.bl a i hi
  refine a_rseq ?_
  refine rg_put (d := 14) (v := .d (.fl (.bool ((decide ((i : Int) < (x.ents.length : Int))))))) rfl (og rfl (op_bin rfl rfl rfl (b_lss _ _ _ _) rfl)) ?_
  refine rg_done rfl ?_
  refine a_seq ?_
  refine a_cond rfl (fun h1 => ?_) (fun h1 => ?_)
  · skip
    have h2 := t_dec h1
    refine a_skip ?_
    show A _ _ _ _ _ _ _
    refine a_seq ?_
    refine a_block ?_
    refine a_rseq ?_
    have hpe := hx.e _ (ix_mem (by omega : i < x.ents.length))
    have hpl := hpe.l
    refine rg_put (d := 15) (v := .el ((eEn (ix x.ents i)))) rfl (og rfl (s_index rfl Try.underlying33 ti24 rfl rfl (by omega) (row_at (by omega)) rfl)) ?_
    refine rg_put (d := 16) (v := .d (.ag (eEn (ix x.ents i)))) rfl (og rfl (of_eff (s_load_els rfl Try.underlying24 rfl ti24 rfl rfl rfl) rfl)) ?_
    refine rg_nam (d := 7) (v := .pt 102 0) (m := 102) (nw := [(102, .bx 24 ([.fl (.string (⟨#[]⟩)), .fl (.int .i64 0), .fl (.slice none 0 0)]))]) rfl (og rfl (of_eff (s_alloc 102 rfl ti24 (by kernel_rfl) rfl) rfl)) rfl ?_
    refine rg_sto (nw := [(102, .bx 24 ((eEn (ix x.ents i))))]) rfl (og rfl (of_eff (s_store rfl rfl ti24 rfl rfl rfl rfl rfl rfl) rfl)) ?_
    refine rg_done rfl ?_
    refine a_rseq ?_
    refine rg_put (d := 17) (v := .pt 102 2) rfl (og rfl (of_eff (s_field_pt rfl Try.underlying24 rfl ti22 rfl rfl rfl) rfl)) ?_
    refine rg_put (d := 18) (v := .d (.sl 2 (List.map ePo ((ix x.ents i).posts)))) rfl (og rfl (op_load_pt rfl Try.underlying22 rfl rfl rfl rfl rfl)) ?_
    refine rg_put (d := 19) (v := .d (.fl (.int .i64 ((((ix x.ents i).posts).length : Int))))) rfl (og rfl (s_len rfl Try.underlying22 rfl rfl)) ?_
    refine rg_put (d := 20) (v := .d (.fl (.int .i64 0))) rfl (og rfl (op_move rfl rfl rfl)) ?_
    refine rg_done rfl ?_
    refine a_block ?_
    refine a_loop (ι := Nat) (fun k => SS [(0, .d (.ag (eLe x))), (1, .d (.fl (.string a))), (2, .pt 101 0), (4, .d (.fl (.int .i64 0))), (7, .pt 102 0), (11, .d (.sl 3 (List.map eEn x.ents))), (12, .d (.fl (.int .i64 (x.ents.length : Int)))), (13, .d (.fl (.int .i64 (i : Int)))), (14, .d (.fl (.bool ((decide ((i : Int) < (x.ents.length : Int))))))), (18, .d (.sl 2 (List.map ePo ((ix x.ents i).posts)))), (19, .d (.fl (.int .i64 ((((ix x.ents i).posts).length : Int))))), (20, .d (.fl (.int .i64 (k : Int)))), (5, .d (.fl (.int .i64 ((bl x.ents a i + pb (ix x.ents i).posts a k)))))] [(101, .bx 35 (eLe x)), (102, .bx 24 ((eEn (ix x.ents i))))]) (fun k => k ≤ (ix x.ents i).posts.length) (fun k => (ix x.ents i).posts.length - k) 0 (by omega) (imp_forget rfl ⟨rfl, rfl, rfl, rfl, rfl, rfl, rfl, rfl, rfl, rfl, rfl, (by first | rfl | exact ci (by omega) | exact ci (by simp) | exact cd (by simp) | simp), (ci (by simp [pb])), trivial⟩ ⟨rfl, rfl, trivial⟩) (fun k hok => ?_)
    have hk := hok
    have hpk := hpe.pb a k hk
    refine a_rseq ?_
    refine rg_put (d := 21) (v := .d (.fl (.bool ((decide ((k : Int) < (((ix x.ents i).posts).length : Int))))))) rfl (og rfl (op_bin rfl rfl rfl (b_lss _ _ _ _) rfl)) ?_
    refine rg_done rfl ?_
    refine a_seq ?_
    refine a_cond rfl (fun h3 => ?_) (fun h3 => ?_)
    · skip
      have h4 := t_dec h3
      refine a_skip ?_
      show A _ _ _ _ _ _ _
      refine a_seq ?_
      refine a_block ?_
      refine a_rseq ?_
      refine rg_put (d := 22) (v := .el ((ePo ((ix ((ix x.ents i).posts) k))))) rfl (og rfl (s_index rfl Try.underlying22 ti31 rfl rfl (by omega) (row_at (by omega)) rfl)) ?_
      refine rg_put (d := 23) (v := .d (.ag (ePo (((ix ((ix x.ents i).posts) k)))))) rfl (og rfl (of_eff (s_load_els rfl Try.underlying31 rfl ti31 rfl rfl rfl) rfl)) ?_
      refine rg_nam (d := 9) (v := .pt 103 0) (m := 103) (nw := [(103, .bx 31 ([.fl (.string (⟨#[]⟩)), .fl (.int .i64 0)]))]) rfl (og rfl (of_eff (s_alloc 103 rfl ti31 (by kernel_rfl) rfl) rfl)) rfl ?_
      refine rg_sto (nw := [(103, .bx 31 ((ePo (((ix ((ix x.ents i).posts) k))))))]) rfl (og rfl (of_eff (s_store rfl rfl ti31 rfl rfl rfl rfl rfl rfl) rfl)) ?_
      refine rg_done rfl ?_
      refine a_rseq ?_
      refine rg_put (d := 24) (v := .pt 103 0) rfl (og rfl (of_eff (s_field_pt rfl Try.underlying31 rfl ti9 rfl rfl rfl) rfl)) ?_
      refine rg_put (d := 25) (v := .d (.fl (.string ((((ix ((ix x.ents i).posts) k))).acc)))) rfl (og rfl (op_load_pt rfl Try.underlying9 rfl rfl rfl rfl rfl)) ?_
      refine rg_put (d := 26) (v := .d (.fl (.string a))) rfl (og rfl (op_move rfl rfl rfl)) ?_
      refine rg_put (d := 27) (v := .d (.fl (.bool ((sEq ((((ix ((ix x.ents i).posts) k))).acc) a))))) rfl (og rfl (op_bin rfl rfl rfl (b_seq _ _ _) rfl)) ?_
      refine rg_done rfl ?_
      refine a_cond rfl (fun h5 => ?_) (fun h5 => ?_)
      · skip
        refine a_region ?_
        have hcc := hpe.c _ (ix_mem (by omega : k < (ix x.ents i).posts.length))
        refine rg_put (d := 28) (v := .d (.fl (.int .i64 ((bl x.ents a i + pb (ix x.ents i).posts a k))))) rfl (og rfl (op_move rfl rfl rfl)) ?_
        refine rg_put (d := 29) (v := .pt 103 1) rfl (og rfl (of_eff (s_field_pt rfl Try.underlying31 rfl ti3 rfl rfl rfl) rfl)) ?_
        refine rg_put (d := 30) (v := .d (.fl (.int .i64 ((((ix ((ix x.ents i).posts) k))).cents)))) rfl (og rfl (op_load_pt rfl Try.underlying3 rfl rfl rfl rfl rfl)) ?_
        refine rg_put (d := 31) (v := .d (.fl (.int .i64 (((bl x.ents a i + pb (ix x.ents i).posts a k) + (((ix ((ix x.ents i).posts) k))).cents))))) rfl (og rfl (op_bin rfl rfl rfl (fun x y w => b_add64 _ _ _ x y w (by omega)) rfl)) ?_
        refine rg_put (d := 5) (v := .d (.fl (.int .i64 (((bl x.ents a i + pb (ix x.ents i).posts a k) + (((ix ((ix x.ents i).posts) k))).cents))))) rfl (og rfl (op_assign rfl rfl rfl)) ?_
        refine rg_done rfl ?_
        show A _ _ _ _ _ _ _
        refine a_region ?_
        refine rg_put (d := 32) (v := .d (.fl (.int .i64 (((k : Int) + 1))))) rfl (og rfl (op_bin rfl rfl rfl (fun x y w => b_add64 _ _ _ x y w (by omega)) rfl)) ?_
        refine rg_put (d := 20) (v := .d (.fl (.int .i64 (((k : Int) + 1))))) rfl (og rfl (op_move rfl rfl rfl)) ?_
        refine rg_done rfl ?_
        have hst := pb_y h5
        show ∃ i, _ ∧ _ ∧ Imp _ _ _ _ _
        refine ⟨k + 1, (by omega), by omega, imp_forget rfl ⟨rfl, rfl, rfl, rfl, rfl, rfl, rfl, rfl, rfl, rfl, rfl, (by first | rfl | exact ci (by omega)), (ci (by omega)), trivial⟩ ⟨rfl, rfl, trivial⟩⟩
      · skip
        refine a_skip ?_
        show A _ _ _ _ _ _ _
        refine a_region ?_
        refine rg_put (d := 32) (v := .d (.fl (.int .i64 (((k : Int) + 1))))) rfl (og rfl (op_bin rfl rfl rfl (fun x y w => b_add64 _ _ _ x y w (by omega)) rfl)) ?_
        refine rg_put (d := 20) (v := .d (.fl (.int .i64 (((k : Int) + 1))))) rfl (og rfl (op_move rfl rfl rfl)) ?_
        refine rg_done rfl ?_
        have hst := pb_n h5
        show ∃ i, _ ∧ _ ∧ Imp _ _ _ _ _
        refine ⟨k + 1, (by omega), by omega, imp_forget rfl ⟨rfl, rfl, rfl, rfl, rfl, rfl, rfl, rfl, rfl, rfl, rfl, (by first | rfl | exact ci (by omega)), (ci (by omega)), trivial⟩ ⟨rfl, rfl, trivial⟩⟩
    · skip
      have h6 := f_dec h3
      refine a_exit ?_
      show A _ _ _ _ _ _ _
      refine a_region ?_
      refine rg_put (d := 33) (v := .d (.fl (.int .i64 (((i : Int) + 1))))) rfl (og rfl (op_bin rfl rfl rfl (fun x y w => b_add64 _ _ _ x y w (by omega)) rfl)) ?_
      refine rg_put (d := 13) (v := .d (.fl (.int .i64 (((i : Int) + 1))))) rfl (og rfl (op_move rfl rfl rfl)) ?_
      refine rg_done rfl ?_
      show ∃ i, _ ∧ _ ∧ Imp _ _ _ _ _
      refine ⟨i + 1, (by omega), by omega, imp_forget rfl ⟨rfl, rfl, rfl, rfl, rfl, rfl, (by first | rfl | exact ci (by omega)), (ci (by have e : k = (ix x.ents i).posts.length := (by omega); simp only [bl]; rw [e])), trivial⟩ ⟨rfl, trivial⟩⟩
  · skip
    have h7 := f_dec h1
    refine a_exit ?_
    show A _ _ _ _ _ _ _
    refine a_rseq ?_
    refine rg_put (d := 34) (v := .d (.fl (.int .i64 (bl x.ents a i)))) rfl (og rfl (op_move rfl rfl rfl)) ?_
    refine rg_put (d := 4) (v := .d (.fl (.int .i64 (bl x.ents a i)))) rfl (og rfl (op_assign rfl rfl rfl)) ?_
    refine rg_done rfl ?_
    refine a_ret ?_
    show ∃ ds, ResL _ _ _ ds ∧ RV.of ds = _
    refine ⟨[.fl (.int .i64 (bl x.ents a i))], (.cons (.tmp rfl (.d _)) .nil), ?_⟩
    have hie : i = x.ents.length := by omega
    subst hie
    rfl
set_option maxHeartbeats 4000000 in
set_option maxRecDepth 100000 in
theorem balR (x : Led) (a : ByteArray) (hx : okL x.ents) : Ctr Try.prog 24 [.ag (eLe x), .fl (.string a)] (.d (.fl (.int .i64 (bal x.ents a)))) := by
  refine ctr (n := 51) (rs := #[.tmp 4]) (L := [(0, .d (.ag (eLe x))), (1, .d (.fl (.string a)))]) Try.func24 rfl rfl rfl rfl rfl (fun w0 U0 => ?_)
  refine a_rseq ?_
  have hxl := hx.n
  refine rg_nam (d := 2) (v := .pt 101 0) (m := 101) (nw := [(101, .bx 35 (eLe x))]) rfl (og rfl (of_eff (op_box 101 rfl rfl rfl rfl) rfl)) rfl ?_
  refine rg_put (d := 4) (v := .d (.fl (.int .i64 0))) rfl (og rfl (op_assign rfl rfl rfl)) ?_
  refine rg_done rfl ?_
  refine a_rseq ?_
  refine rg_put (d := 5) (v := .d (.fl (.int .i64 0))) rfl (og rfl (op_assign rfl rfl rfl)) ?_
  refine rg_done rfl ?_
  refine a_seq ?_
  refine a_rseq ?_
  refine rg_put (d := 6) (v := .d (.fl (.int .i64 0))) rfl (og rfl (op_assign rfl rfl rfl)) ?_
  refine rg_done rfl ?_
  refine a_block ?_
  refine a_loop (ι := Nat) (fun i => SS [(0, .d (.ag (eLe x))), (1, .d (.fl (.string a))), (2, .pt 101 0), (4, .d (.fl (.int .i64 0))), (6, .d (.fl (.int .i64 (i : Int)))), (5, .d (.fl (.int .i64 (bl x.ents a i))))] [(101, .bx 35 (eLe x))]) (fun i => i ≤ x.ents.length) (fun i => x.ents.length - i) 0 (by omega) (imp_forget rfl ⟨rfl, rfl, rfl, rfl, (by first | rfl | exact ci (by omega) | exact ci (by simp) | exact cd (by simp) | simp), rfl, trivial⟩ ⟨rfl, trivial⟩) (fun i hok => ?_)
  have hi := hok
  have hbi := hx.bl a i hi
  refine a_seq ?_
  refine a_rseq ?_
  refine rg_put (d := 8) (v := .d (.fl (.int .i64 (i : Int)))) rfl (og rfl (op_move rfl rfl rfl)) ?_
  refine rg_put (d := 9) (v := .pt 101 0) rfl (og rfl (of_eff (s_field_pt rfl Try.underlying35 rfl ti33 rfl rfl rfl) rfl)) ?_
  refine rg_put (d := 10) (v := .d (.sl 3 (List.map eEn x.ents))) rfl (og rfl (op_load_pt rfl Try.underlying33 rfl rfl rfl rfl rfl)) ?_
  refine rg_put (d := 11) (v := .d (.fl (.int .i64 (x.ents.length : Int)))) rfl (og rfl (s_len rfl Try.underlying33 rfl rfl)) ?_
  refine rg_put (d := 12) (v := .d (.fl (.bool ((decide ((i : Int) < (x.ents.length : Int))))))) rfl (og rfl (op_bin rfl rfl rfl (b_lss _ _ _ _) rfl)) ?_
  refine rg_done rfl ?_
  refine a_cond rfl (fun h1 => ?_) (fun h1 => ?_)
  · skip
    have h2 := t_dec h1
    refine a_skip ?_
    show A _ _ _ _ _ _ _
    refine a_seq ?_
    refine a_block ?_
    refine a_rseq ?_
    have hpe := hx.e _ (ix_mem (by omega : i < x.ents.length))
    have hpl := hpe.l
    refine rg_put (d := 7) (v := .d (.fl (.int .i64 0))) rfl (og rfl (op_assign rfl rfl rfl)) ?_
    refine rg_done rfl ?_
    refine a_block ?_
    refine a_loop (ι := Nat) (fun k => SS [(0, .d (.ag (eLe x))), (1, .d (.fl (.string a))), (2, .pt 101 0), (4, .d (.fl (.int .i64 0))), (6, .d (.fl (.int .i64 (i : Int)))), (12, .d (.fl (.bool ((decide ((i : Int) < (x.ents.length : Int))))))), (7, .d (.fl (.int .i64 (k : Int)))), (5, .d (.fl (.int .i64 ((bl x.ents a i + pb (ix x.ents i).posts a k)))))] [(101, .bx 35 (eLe x))]) (fun k => k ≤ (ix x.ents i).posts.length) (fun k => (ix x.ents i).posts.length - k) 0 (by omega) (imp_forget rfl ⟨rfl, rfl, rfl, rfl, rfl, rfl, (by first | rfl | exact ci (by omega) | exact ci (by simp) | exact cd (by simp) | simp), (ci (by simp [pb])), trivial⟩ ⟨rfl, trivial⟩) (fun k hok => ?_)
    have hk := hok
    have hpk := hpe.pb a k hk
    refine a_seq ?_
    refine a_rseq ?_
    refine rg_put (d := 15) (v := .d (.fl (.int .i64 (k : Int)))) rfl (og rfl (op_move rfl rfl rfl)) ?_
    refine rg_put (d := 16) (v := .pt 101 0) rfl (og rfl (of_eff (s_field_pt rfl Try.underlying35 rfl ti33 rfl rfl rfl) rfl)) ?_
    refine rg_put (d := 17) (v := .d (.sl 3 (List.map eEn x.ents))) rfl (og rfl (op_load_pt rfl Try.underlying33 rfl rfl rfl rfl rfl)) ?_
    refine rg_put (d := 18) (v := .d (.fl (.int .i64 (i : Int)))) rfl (og rfl (op_move rfl rfl rfl)) ?_
    refine rg_put (d := 19) (v := .el ((eEn (ix x.ents i)))) rfl (og rfl (s_index rfl Try.underlying33 ti24 rfl rfl (by omega) (row_at (by omega)) rfl)) ?_
    refine rg_put (d := 20) (v := .el ((List.drop 2 ((eEn (ix x.ents i)))))) rfl (og rfl (of_eff (s_field_el rfl Try.underlying24 rfl ti22 rfl rfl rfl) rfl)) ?_
    refine rg_put (d := 21) (v := .d (.sl 2 (List.map ePo ((ix x.ents i).posts)))) rfl (og rfl (op_load_el rfl Try.underlying22 rfl rfl rfl rfl)) ?_
    refine rg_put (d := 22) (v := .d (.fl (.int .i64 ((((ix x.ents i).posts).length : Int))))) rfl (og rfl (s_len rfl Try.underlying22 rfl rfl)) ?_
    refine rg_put (d := 23) (v := .d (.fl (.bool ((decide ((k : Int) < (((ix x.ents i).posts).length : Int))))))) rfl (og rfl (op_bin rfl rfl rfl (b_lss _ _ _ _) rfl)) ?_
    refine rg_done rfl ?_
    refine a_cond rfl (fun h3 => ?_) (fun h3 => ?_)
    · skip
      have h4 := t_dec h3
      refine a_skip ?_
      show A _ _ _ _ _ _ _
      refine a_seq ?_
      refine a_block ?_
      refine a_rseq ?_
      refine rg_put (d := 26) (v := .pt 101 0) rfl (og rfl (of_eff (s_field_pt rfl Try.underlying35 rfl ti33 rfl rfl rfl) rfl)) ?_
      refine rg_put (d := 27) (v := .d (.sl 3 (List.map eEn x.ents))) rfl (og rfl (op_load_pt rfl Try.underlying33 rfl rfl rfl rfl rfl)) ?_
      refine rg_put (d := 28) (v := .d (.fl (.int .i64 (i : Int)))) rfl (og rfl (op_move rfl rfl rfl)) ?_
      refine rg_put (d := 29) (v := .el ((eEn (ix x.ents i)))) rfl (og rfl (s_index rfl Try.underlying33 ti24 rfl rfl (by omega) (row_at (by omega)) rfl)) ?_
      refine rg_put (d := 30) (v := .el ((List.drop 2 ((eEn (ix x.ents i)))))) rfl (og rfl (of_eff (s_field_el rfl Try.underlying24 rfl ti22 rfl rfl rfl) rfl)) ?_
      refine rg_put (d := 31) (v := .d (.sl 2 (List.map ePo ((ix x.ents i).posts)))) rfl (og rfl (op_load_el rfl Try.underlying22 rfl rfl rfl rfl)) ?_
      refine rg_put (d := 32) (v := .d (.fl (.int .i64 (k : Int)))) rfl (og rfl (op_move rfl rfl rfl)) ?_
      refine rg_put (d := 33) (v := .el ((ePo ((ix ((ix x.ents i).posts) k))))) rfl (og rfl (s_index rfl Try.underlying22 ti31 rfl rfl (by omega) (row_at (by omega)) rfl)) ?_
      refine rg_put (d := 34) (v := .el ((List.drop 0 ((ePo ((ix ((ix x.ents i).posts) k))))))) rfl (og rfl (of_eff (s_field_el rfl Try.underlying31 rfl ti9 rfl rfl rfl) rfl)) ?_
      refine rg_put (d := 35) (v := .d (.fl (.string (((ix ((ix x.ents i).posts) k)).acc)))) rfl (og rfl (op_load_el rfl Try.underlying9 rfl rfl rfl rfl)) ?_
      refine rg_put (d := 36) (v := .d (.fl (.string a))) rfl (og rfl (op_move rfl rfl rfl)) ?_
      refine rg_put (d := 37) (v := .d (.fl (.bool ((sEq (((ix ((ix x.ents i).posts) k)).acc) a))))) rfl (og rfl (op_bin rfl rfl rfl (b_seq _ _ _) rfl)) ?_
      refine rg_done rfl ?_
      refine a_cond rfl (fun h5 => ?_) (fun h5 => ?_)
      · skip
        refine a_region ?_
        have hcc := hpe.c _ (ix_mem (by omega : k < (ix x.ents i).posts.length))
        refine rg_put (d := 38) (v := .d (.fl (.int .i64 ((bl x.ents a i + pb (ix x.ents i).posts a k))))) rfl (og rfl (op_move rfl rfl rfl)) ?_
        refine rg_put (d := 39) (v := .pt 101 0) rfl (og rfl (of_eff (s_field_pt rfl Try.underlying35 rfl ti33 rfl rfl rfl) rfl)) ?_
        refine rg_put (d := 40) (v := .d (.sl 3 (List.map eEn x.ents))) rfl (og rfl (op_load_pt rfl Try.underlying33 rfl rfl rfl rfl rfl)) ?_
        refine rg_put (d := 41) (v := .d (.fl (.int .i64 (i : Int)))) rfl (og rfl (op_move rfl rfl rfl)) ?_
        refine rg_put (d := 42) (v := .el ((eEn (ix x.ents i)))) rfl (og rfl (s_index rfl Try.underlying33 ti24 rfl rfl (by omega) (row_at (by omega)) rfl)) ?_
        refine rg_put (d := 43) (v := .el ((List.drop 2 ((eEn (ix x.ents i)))))) rfl (og rfl (of_eff (s_field_el rfl Try.underlying24 rfl ti22 rfl rfl rfl) rfl)) ?_
        refine rg_put (d := 44) (v := .d (.sl 2 (List.map ePo ((ix x.ents i).posts)))) rfl (og rfl (op_load_el rfl Try.underlying22 rfl rfl rfl rfl)) ?_
        refine rg_put (d := 45) (v := .d (.fl (.int .i64 (k : Int)))) rfl (og rfl (op_move rfl rfl rfl)) ?_
        refine rg_put (d := 46) (v := .el ((ePo ((ix ((ix x.ents i).posts) k))))) rfl (og rfl (s_index rfl Try.underlying22 ti31 rfl rfl (by omega) (row_at (by omega)) rfl)) ?_
        refine rg_put (d := 47) (v := .el ((List.drop 1 ((ePo ((ix ((ix x.ents i).posts) k))))))) rfl (og rfl (of_eff (s_field_el rfl Try.underlying31 rfl ti3 rfl rfl rfl) rfl)) ?_
        refine rg_put (d := 48) (v := .d (.fl (.int .i64 (((ix ((ix x.ents i).posts) k)).cents)))) rfl (og rfl (op_load_el rfl Try.underlying3 rfl rfl rfl rfl)) ?_
        refine rg_put (d := 49) (v := .d (.fl (.int .i64 (((bl x.ents a i + pb (ix x.ents i).posts a k) + ((ix ((ix x.ents i).posts) k)).cents))))) rfl (og rfl (op_bin rfl rfl rfl (fun x y w => b_add64 _ _ _ x y w (by omega)) rfl)) ?_
        refine rg_put (d := 5) (v := .d (.fl (.int .i64 (((bl x.ents a i + pb (ix x.ents i).posts a k) + ((ix ((ix x.ents i).posts) k)).cents))))) rfl (og rfl (op_assign rfl rfl rfl)) ?_
        refine rg_done rfl ?_
        show A _ _ _ _ _ _ _
        refine a_region ?_
        refine rg_put (d := 24) (v := .d (.fl (.int .i64 (k : Int)))) rfl (og rfl (op_move rfl rfl rfl)) ?_
        refine rg_put (d := 25) (v := .d (.fl (.int .i64 (((k : Int) + 1))))) rfl (og rfl (op_bin rfl rfl rfl (fun x y w => b_add64 _ _ _ x y w (by omega)) rfl)) ?_
        refine rg_put (d := 7) (v := .d (.fl (.int .i64 (((k : Int) + 1))))) rfl (og rfl (op_assign rfl rfl rfl)) ?_
        refine rg_done rfl ?_
        have hst := pb_y h5
        show ∃ i, _ ∧ _ ∧ Imp _ _ _ _ _
        refine ⟨k + 1, (by omega), by omega, imp_forget rfl ⟨rfl, rfl, rfl, rfl, rfl, rfl, (by first | rfl | exact ci (by omega)), (ci (by omega)), trivial⟩ ⟨rfl, trivial⟩⟩
      · skip
        refine a_skip ?_
        show A _ _ _ _ _ _ _
        refine a_region ?_
        refine rg_put (d := 24) (v := .d (.fl (.int .i64 (k : Int)))) rfl (og rfl (op_move rfl rfl rfl)) ?_
        refine rg_put (d := 25) (v := .d (.fl (.int .i64 (((k : Int) + 1))))) rfl (og rfl (op_bin rfl rfl rfl (fun x y w => b_add64 _ _ _ x y w (by omega)) rfl)) ?_
        refine rg_put (d := 7) (v := .d (.fl (.int .i64 (((k : Int) + 1))))) rfl (og rfl (op_assign rfl rfl rfl)) ?_
        refine rg_done rfl ?_
        have hst := pb_n h5
        show ∃ i, _ ∧ _ ∧ Imp _ _ _ _ _
        refine ⟨k + 1, (by omega), by omega, imp_forget rfl ⟨rfl, rfl, rfl, rfl, rfl, rfl, (by first | rfl | exact ci (by omega)), (ci (by omega)), trivial⟩ ⟨rfl, trivial⟩⟩
    · skip
      have h6 := f_dec h3
      refine a_exit ?_
      show A _ _ _ _ _ _ _
      refine a_region ?_
      refine rg_put (d := 13) (v := .d (.fl (.int .i64 (i : Int)))) rfl (og rfl (op_move rfl rfl rfl)) ?_
      refine rg_put (d := 14) (v := .d (.fl (.int .i64 (((i : Int) + 1))))) rfl (og rfl (op_bin rfl rfl rfl (fun x y w => b_add64 _ _ _ x y w (by omega)) rfl)) ?_
      refine rg_put (d := 6) (v := .d (.fl (.int .i64 (((i : Int) + 1))))) rfl (og rfl (op_assign rfl rfl rfl)) ?_
      refine rg_done rfl ?_
      show ∃ i, _ ∧ _ ∧ Imp _ _ _ _ _
      refine ⟨i + 1, (by omega), by omega, imp_forget rfl ⟨rfl, rfl, rfl, rfl, (by first | rfl | exact ci (by omega)), (ci (by have e : k = (ix x.ents i).posts.length := (by omega); simp only [bl]; rw [e])), trivial⟩ ⟨rfl, trivial⟩⟩
  · skip
    have h7 := f_dec h1
    refine a_exit ?_
    show A _ _ _ _ _ _ _
    refine a_rseq ?_
    refine rg_put (d := 50) (v := .d (.fl (.int .i64 (bl x.ents a i)))) rfl (og rfl (op_move rfl rfl rfl)) ?_
    refine rg_put (d := 4) (v := .d (.fl (.int .i64 (bl x.ents a i)))) rfl (og rfl (op_assign rfl rfl rfl)) ?_
    refine rg_done rfl ?_
    refine a_ret ?_
    show ∃ ds, ResL _ _ _ ds ∧ RV.of ds = _
    refine ⟨[.fl (.int .i64 (bl x.ents a i))], (.cons (.tmp rfl (.d _)) .nil), ?_⟩
    have hie : i = x.ents.length := by omega
    subst hie
    rfl
set_option maxHeartbeats 4000000 in
set_option maxRecDepth 100000 in
theorem triC (x : Led) (hx : okL x.ents) : Ctr Try.prog 20 [.ag (eLe x)] (.tu [.fl (.int .i64 (es1 gD x.ents x.ents.length)), .fl (.int .i64 (es1 gC x.ents x.ents.length))]) := by
  refine ctr (n := 39) (rs := #[.tmp 2, .tmp 3]) (L := [(0, .d (.ag (eLe x)))]) Try.func20 rfl rfl rfl rfl rfl (fun w0 U0 => ?_)
  refine a_rseq ?_
  have hxl := hx.n
  refine rg_nam (d := 1) (v := .pt 101 0) (m := 101) (nw := [(101, .bx 35 (eLe x))]) rfl (og rfl (of_eff (op_box 101 rfl rfl rfl rfl) rfl)) rfl ?_
  refine rg_put (d := 2) (v := .d (.fl (.int .i64 0))) rfl (og rfl (op_assign rfl rfl rfl)) ?_
  refine rg_put (d := 3) (v := .d (.fl (.int .i64 0))) rfl (og rfl (op_assign rfl rfl rfl)) ?_
  refine rg_done rfl ?_
  refine a_rseq ?_
  refine rg_put (d := 4) (v := .d (.fl (.int .i64 0))) rfl (og rfl (op_assign rfl rfl rfl)) ?_
  refine rg_put (d := 5) (v := .d (.fl (.int .i64 0))) rfl (og rfl (op_assign rfl rfl rfl)) ?_
  refine rg_done rfl ?_
  refine a_seq ?_
  refine a_rseq ?_
  refine rg_put (d := 10) (v := .pt 101 0) rfl (og rfl (of_eff (s_field_pt rfl Try.underlying35 rfl ti33 rfl rfl rfl) rfl)) ?_
  refine rg_put (d := 11) (v := .d (.sl 3 (List.map eEn x.ents))) rfl (og rfl (op_load_pt rfl Try.underlying33 rfl rfl rfl rfl rfl)) ?_
  refine rg_put (d := 12) (v := .d (.fl (.int .i64 (x.ents.length : Int)))) rfl (og rfl (s_len rfl Try.underlying33 rfl rfl)) ?_
  refine rg_put (d := 13) (v := .d (.fl (.int .i64 0))) rfl (og rfl (op_move rfl rfl rfl)) ?_
  refine rg_done rfl ?_
  refine a_block ?_
  refine a_loop (ι := Nat) (fun i => SS [(0, .d (.ag (eLe x))), (1, .pt 101 0), (2, .d (.fl (.int .i64 0))), (3, .d (.fl (.int .i64 0))), (11, .d (.sl 3 (List.map eEn x.ents))), (12, .d (.fl (.int .i64 (x.ents.length : Int)))), (13, .d (.fl (.int .i64 (i : Int)))), (4, .d (.fl (.int .i64 (es1 gD x.ents i)))), (5, .d (.fl (.int .i64 (es1 gC x.ents i))))] [(101, .bx 35 (eLe x))]) (fun i => i ≤ x.ents.length) (fun i => x.ents.length - i) 0 (by omega) (imp_forget rfl ⟨rfl, rfl, rfl, rfl, rfl, rfl, (by first | rfl | exact ci (by omega) | exact ci (by simp) | exact cd (by simp) | simp), rfl, rfl, trivial⟩ ⟨rfl, trivial⟩) (fun i hok => ?_)
  have hi := hok
  have hdi := es1_in (g := gD) (fun _ h => gD_in h) hx.e i hi
  have hci := es1_in (g := gC) (fun _ h => gC_in h) hx.e i hi
  refine a_rseq ?_
  refine rg_put (d := 14) (v := .d (.fl (.bool ((decide ((i : Int) < (x.ents.length : Int))))))) rfl (og rfl (op_bin rfl rfl rfl (b_lss _ _ _ _) rfl)) ?_
  refine rg_done rfl ?_
  refine a_seq ?_
  refine a_cond rfl (fun h1 => ?_) (fun h1 => ?_)
  · skip
    have h2 := t_dec h1
    refine a_skip ?_
    show A _ _ _ _ _ _ _
    refine a_seq ?_
    refine a_block ?_
    refine a_rseq ?_
    have hpe := hx.e _ (ix_mem (by omega : i < x.ents.length))
    have hpl := hpe.l
    refine rg_put (d := 15) (v := .el ((eEn (ix x.ents i)))) rfl (og rfl (s_index rfl Try.underlying33 ti24 rfl rfl (by omega) (row_at (by omega)) rfl)) ?_
    refine rg_put (d := 16) (v := .d (.ag (eEn (ix x.ents i)))) rfl (og rfl (of_eff (s_load_els rfl Try.underlying24 rfl ti24 rfl rfl rfl) rfl)) ?_
    refine rg_nam (d := 7) (v := .pt 102 0) (m := 102) (nw := [(102, .bx 24 ([.fl (.string (⟨#[]⟩)), .fl (.int .i64 0), .fl (.slice none 0 0)]))]) rfl (og rfl (of_eff (s_alloc 102 rfl ti24 (by kernel_rfl) rfl) rfl)) rfl ?_
    refine rg_sto (nw := [(102, .bx 24 ((eEn (ix x.ents i))))]) rfl (og rfl (of_eff (s_store rfl rfl ti24 rfl rfl rfl rfl rfl rfl) rfl)) ?_
    refine rg_done rfl ?_
    refine a_rseq ?_
    refine rg_put (d := 17) (v := .pt 102 2) rfl (og rfl (of_eff (s_field_pt rfl Try.underlying24 rfl ti22 rfl rfl rfl) rfl)) ?_
    refine rg_put (d := 18) (v := .d (.sl 2 (List.map ePo ((ix x.ents i).posts)))) rfl (og rfl (op_load_pt rfl Try.underlying22 rfl rfl rfl rfl rfl)) ?_
    refine rg_put (d := 19) (v := .d (.fl (.int .i64 ((((ix x.ents i).posts).length : Int))))) rfl (og rfl (s_len rfl Try.underlying22 rfl rfl)) ?_
    refine rg_put (d := 20) (v := .d (.fl (.int .i64 0))) rfl (og rfl (op_move rfl rfl rfl)) ?_
    refine rg_done rfl ?_
    refine a_block ?_
    refine a_loop (ι := Nat) (fun k => SS [(0, .d (.ag (eLe x))), (1, .pt 101 0), (2, .d (.fl (.int .i64 0))), (3, .d (.fl (.int .i64 0))), (7, .pt 102 0), (11, .d (.sl 3 (List.map eEn x.ents))), (12, .d (.fl (.int .i64 (x.ents.length : Int)))), (13, .d (.fl (.int .i64 (i : Int)))), (14, .d (.fl (.bool ((decide ((i : Int) < (x.ents.length : Int))))))), (18, .d (.sl 2 (List.map ePo ((ix x.ents i).posts)))), (19, .d (.fl (.int .i64 ((((ix x.ents i).posts).length : Int))))), (20, .d (.fl (.int .i64 (k : Int)))), (4, .d (.fl (.int .i64 ((es1 gD x.ents i + ps1 gD (ix x.ents i).posts k))))), (5, .d (.fl (.int .i64 ((es1 gC x.ents i + ps1 gC (ix x.ents i).posts k)))))] [(101, .bx 35 (eLe x)), (102, .bx 24 ((eEn (ix x.ents i))))]) (fun k => k ≤ (ix x.ents i).posts.length) (fun k => (ix x.ents i).posts.length - k) 0 (by omega) (imp_forget rfl ⟨rfl, rfl, rfl, rfl, rfl, rfl, rfl, rfl, rfl, rfl, rfl, (by first | rfl | exact ci (by omega) | exact ci (by simp) | exact cd (by simp) | simp), (ci (by simp [ps1])), (ci (by simp [ps1])), trivial⟩ ⟨rfl, rfl, trivial⟩) (fun k hok => ?_)
    have hk := hok
    have hpd := ps1_in (g := gD) (fun _ h => gD_in h) hpe.c k hk
    have hpc := ps1_in (g := gC) (fun _ h => gC_in h) hpe.c k hk
    refine a_rseq ?_
    refine rg_put (d := 21) (v := .d (.fl (.bool ((decide ((k : Int) < (((ix x.ents i).posts).length : Int))))))) rfl (og rfl (op_bin rfl rfl rfl (b_lss _ _ _ _) rfl)) ?_
    refine rg_done rfl ?_
    refine a_seq ?_
    refine a_cond rfl (fun h3 => ?_) (fun h3 => ?_)
    · skip
      have h4 := t_dec h3
      refine a_skip ?_
      show A _ _ _ _ _ _ _
      refine a_seq ?_
      refine a_block ?_
      refine a_rseq ?_
      refine rg_put (d := 22) (v := .el ((ePo ((ix ((ix x.ents i).posts) k))))) rfl (og rfl (s_index rfl Try.underlying22 ti31 rfl rfl (by omega) (row_at (by omega)) rfl)) ?_
      refine rg_put (d := 23) (v := .d (.ag (ePo (((ix ((ix x.ents i).posts) k)))))) rfl (og rfl (of_eff (s_load_els rfl Try.underlying31 rfl ti31 rfl rfl rfl) rfl)) ?_
      refine rg_nam (d := 9) (v := .pt 103 0) (m := 103) (nw := [(103, .bx 31 ([.fl (.string (⟨#[]⟩)), .fl (.int .i64 0)]))]) rfl (og rfl (of_eff (s_alloc 103 rfl ti31 (by kernel_rfl) rfl) rfl)) rfl ?_
      refine rg_sto (nw := [(103, .bx 31 ((ePo (((ix ((ix x.ents i).posts) k))))))]) rfl (og rfl (of_eff (s_store rfl rfl ti31 rfl rfl rfl rfl rfl rfl) rfl)) ?_
      refine rg_done rfl ?_
      refine a_rseq ?_
      have hcc := hpe.c _ (ix_mem (by omega : k < (ix x.ents i).posts.length))
      refine rg_put (d := 24) (v := .pt 103 1) rfl (og rfl (of_eff (s_field_pt rfl Try.underlying31 rfl ti3 rfl rfl rfl) rfl)) ?_
      refine rg_put (d := 25) (v := .d (.fl (.int .i64 ((((ix ((ix x.ents i).posts) k))).cents)))) rfl (og rfl (op_load_pt rfl Try.underlying3 rfl rfl rfl rfl rfl)) ?_
      refine rg_put (d := 26) (v := .d (.fl (.bool ((decide (0 < (((ix ((ix x.ents i).posts) k))).cents)))))) rfl (og rfl (op_bin rfl rfl rfl (b_gtr _ _ _ _) rfl)) ?_
      refine rg_done rfl ?_
      refine a_cond rfl (fun h5 => ?_) (fun h5 => ?_)
      · skip
        have h6 := t_dec h5
        refine a_region ?_
        refine rg_put (d := 27) (v := .d (.fl (.int .i64 ((es1 gD x.ents i + ps1 gD (ix x.ents i).posts k))))) rfl (og rfl (op_move rfl rfl rfl)) ?_
        refine rg_put (d := 28) (v := .pt 103 1) rfl (og rfl (of_eff (s_field_pt rfl Try.underlying31 rfl ti3 rfl rfl rfl) rfl)) ?_
        refine rg_put (d := 29) (v := .d (.fl (.int .i64 ((((ix ((ix x.ents i).posts) k))).cents)))) rfl (og rfl (op_load_pt rfl Try.underlying3 rfl rfl rfl rfl rfl)) ?_
        refine rg_put (d := 30) (v := .d (.fl (.int .i64 (((es1 gD x.ents i + ps1 gD (ix x.ents i).posts k) + (((ix ((ix x.ents i).posts) k))).cents))))) rfl (og rfl (op_bin rfl rfl rfl (fun x y w => b_add64 _ _ _ x y w (by omega)) rfl)) ?_
        refine rg_put (d := 4) (v := .d (.fl (.int .i64 (((es1 gD x.ents i + ps1 gD (ix x.ents i).posts k) + (((ix ((ix x.ents i).posts) k))).cents))))) rfl (og rfl (op_assign rfl rfl rfl)) ?_
        refine rg_done rfl ?_
        show A _ _ _ _ _ _ _
        refine a_region ?_
        refine rg_put (d := 35) (v := .d (.fl (.int .i64 (((k : Int) + 1))))) rfl (og rfl (op_bin rfl rfl rfl (fun x y w => b_add64 _ _ _ x y w (by omega)) rfl)) ?_
        refine rg_put (d := 20) (v := .d (.fl (.int .i64 (((k : Int) + 1))))) rfl (og rfl (op_move rfl rfl rfl)) ?_
        refine rg_done rfl ?_
        show ∃ i, _ ∧ _ ∧ Imp _ _ _ _ _
        refine ⟨k + 1, (by omega), by omega, imp_forget rfl ⟨rfl, rfl, rfl, rfl, rfl, rfl, rfl, rfl, rfl, rfl, rfl, (by first | rfl | exact ci (by omega)), (ci (by simp only [ps1]; unfold gD; omega)), (ci (by simp only [ps1]; unfold gC; omega)), trivial⟩ ⟨rfl, rfl, trivial⟩⟩
      · skip
        have h7 := f_dec h5
        refine a_region ?_
        refine rg_put (d := 31) (v := .d (.fl (.int .i64 ((es1 gC x.ents i + ps1 gC (ix x.ents i).posts k))))) rfl (og rfl (op_move rfl rfl rfl)) ?_
        refine rg_put (d := 32) (v := .pt 103 1) rfl (og rfl (of_eff (s_field_pt rfl Try.underlying31 rfl ti3 rfl rfl rfl) rfl)) ?_
        refine rg_put (d := 33) (v := .d (.fl (.int .i64 ((((ix ((ix x.ents i).posts) k))).cents)))) rfl (og rfl (op_load_pt rfl Try.underlying3 rfl rfl rfl rfl rfl)) ?_
        refine rg_put (d := 34) (v := .d (.fl (.int .i64 (((es1 gC x.ents i + ps1 gC (ix x.ents i).posts k) - (((ix ((ix x.ents i).posts) k))).cents))))) rfl (og rfl (op_bin rfl rfl rfl (fun x y w => b_sub64 _ _ _ x y w (by omega)) rfl)) ?_
        refine rg_put (d := 5) (v := .d (.fl (.int .i64 (((es1 gC x.ents i + ps1 gC (ix x.ents i).posts k) - (((ix ((ix x.ents i).posts) k))).cents))))) rfl (og rfl (op_assign rfl rfl rfl)) ?_
        refine rg_done rfl ?_
        show A _ _ _ _ _ _ _
        refine a_region ?_
        refine rg_put (d := 35) (v := .d (.fl (.int .i64 (((k : Int) + 1))))) rfl (og rfl (op_bin rfl rfl rfl (fun x y w => b_add64 _ _ _ x y w (by omega)) rfl)) ?_
        refine rg_put (d := 20) (v := .d (.fl (.int .i64 (((k : Int) + 1))))) rfl (og rfl (op_move rfl rfl rfl)) ?_
        refine rg_done rfl ?_
        show ∃ i, _ ∧ _ ∧ Imp _ _ _ _ _
        refine ⟨k + 1, (by omega), by omega, imp_forget rfl ⟨rfl, rfl, rfl, rfl, rfl, rfl, rfl, rfl, rfl, rfl, rfl, (by first | rfl | exact ci (by omega)), (ci (by simp only [ps1]; unfold gD; omega)), (ci (by simp only [ps1]; unfold gC; omega)), trivial⟩ ⟨rfl, rfl, trivial⟩⟩
    · skip
      have h8 := f_dec h3
      refine a_exit ?_
      show A _ _ _ _ _ _ _
      refine a_region ?_
      refine rg_put (d := 36) (v := .d (.fl (.int .i64 (((i : Int) + 1))))) rfl (og rfl (op_bin rfl rfl rfl (fun x y w => b_add64 _ _ _ x y w (by omega)) rfl)) ?_
      refine rg_put (d := 13) (v := .d (.fl (.int .i64 (((i : Int) + 1))))) rfl (og rfl (op_move rfl rfl rfl)) ?_
      refine rg_done rfl ?_
      show ∃ i, _ ∧ _ ∧ Imp _ _ _ _ _
      refine ⟨i + 1, (by omega), by omega, imp_forget rfl ⟨rfl, rfl, rfl, rfl, rfl, rfl, (by first | rfl | exact ci (by omega)), (ci (by have e : k = (ix x.ents i).posts.length := (by omega); simp only [es1]; rw [e])), (ci (by have e : k = (ix x.ents i).posts.length := (by omega); simp only [es1]; rw [e])), trivial⟩ ⟨rfl, trivial⟩⟩
  · skip
    have h9 := f_dec h1
    refine a_exit ?_
    show A _ _ _ _ _ _ _
    refine a_rseq ?_
    refine rg_put (d := 37) (v := .d (.fl (.int .i64 (es1 gD x.ents i)))) rfl (og rfl (op_move rfl rfl rfl)) ?_
    refine rg_put (d := 38) (v := .d (.fl (.int .i64 (es1 gC x.ents i)))) rfl (og rfl (op_move rfl rfl rfl)) ?_
    refine rg_put (d := 2) (v := .d (.fl (.int .i64 (es1 gD x.ents i)))) rfl (og rfl (op_assign rfl rfl rfl)) ?_
    refine rg_put (d := 3) (v := .d (.fl (.int .i64 (es1 gC x.ents i)))) rfl (og rfl (op_assign rfl rfl rfl)) ?_
    refine rg_done rfl ?_
    refine a_ret ?_
    show ∃ ds, ResL _ _ _ ds ∧ RV.of ds = _
    refine ⟨[.fl (.int .i64 (es1 gD x.ents i)), .fl (.int .i64 (es1 gC x.ents i))], (.cons (.tmp rfl (.d _)) (.cons (.tmp rfl (.d _)) .nil)), ?_⟩
    have hie : i = x.ents.length := by omega
    subst hie
    rfl
set_option maxHeartbeats 4000000 in
set_option maxRecDepth 100000 in
theorem triR (x : Led) (hx : okL x.ents) : Ctr Try.prog 21 [.ag (eLe x)] (.tu [.fl (.int .i64 (es1 gD x.ents x.ents.length)), .fl (.int .i64 (es1 gC x.ents x.ents.length))]) := by
  refine ctr (n := 48) (rs := #[.tmp 2, .tmp 3]) (L := [(0, .d (.ag (eLe x)))]) Try.func21 rfl rfl rfl rfl rfl (fun w0 U0 => ?_)
  refine a_rseq ?_
  have hxl := hx.n
  refine rg_nam (d := 1) (v := .pt 101 0) (m := 101) (nw := [(101, .bx 35 (eLe x))]) rfl (og rfl (of_eff (op_box 101 rfl rfl rfl rfl) rfl)) rfl ?_
  refine rg_put (d := 2) (v := .d (.fl (.int .i64 0))) rfl (og rfl (op_assign rfl rfl rfl)) ?_
  refine rg_put (d := 3) (v := .d (.fl (.int .i64 0))) rfl (og rfl (op_assign rfl rfl rfl)) ?_
  refine rg_done rfl ?_
  refine a_rseq ?_
  refine rg_put (d := 4) (v := .d (.fl (.int .i64 0))) rfl (og rfl (op_assign rfl rfl rfl)) ?_
  refine rg_put (d := 5) (v := .d (.fl (.int .i64 0))) rfl (og rfl (op_assign rfl rfl rfl)) ?_
  refine rg_done rfl ?_
  refine a_seq ?_
  refine a_rseq ?_
  refine rg_put (d := 6) (v := .d (.fl (.int .i64 0))) rfl (og rfl (op_assign rfl rfl rfl)) ?_
  refine rg_done rfl ?_
  refine a_block ?_
  refine a_loop (ι := Nat) (fun i => SS [(0, .d (.ag (eLe x))), (1, .pt 101 0), (2, .d (.fl (.int .i64 0))), (3, .d (.fl (.int .i64 0))), (6, .d (.fl (.int .i64 (i : Int)))), (4, .d (.fl (.int .i64 (es1 gD x.ents i)))), (5, .d (.fl (.int .i64 (es1 gC x.ents i))))] [(101, .bx 35 (eLe x))]) (fun i => i ≤ x.ents.length) (fun i => x.ents.length - i) 0 (by omega) (imp_forget rfl ⟨rfl, rfl, rfl, rfl, (by first | rfl | exact ci (by omega) | exact ci (by simp) | exact cd (by simp) | simp), rfl, rfl, trivial⟩ ⟨rfl, trivial⟩) (fun i hok => ?_)
  have hi := hok
  have hdi := es1_in (g := gD) (fun _ h => gD_in h) hx.e i hi
  have hci := es1_in (g := gC) (fun _ h => gC_in h) hx.e i hi
  refine a_seq ?_
  refine a_rseq ?_
  refine rg_put (d := 9) (v := .d (.fl (.int .i64 (i : Int)))) rfl (og rfl (op_move rfl rfl rfl)) ?_
  refine rg_put (d := 10) (v := .pt 101 0) rfl (og rfl (of_eff (s_field_pt rfl Try.underlying35 rfl ti33 rfl rfl rfl) rfl)) ?_
  refine rg_put (d := 11) (v := .d (.sl 3 (List.map eEn x.ents))) rfl (og rfl (op_load_pt rfl Try.underlying33 rfl rfl rfl rfl rfl)) ?_
  refine rg_put (d := 12) (v := .d (.fl (.int .i64 (x.ents.length : Int)))) rfl (og rfl (s_len rfl Try.underlying33 rfl rfl)) ?_
  refine rg_put (d := 13) (v := .d (.fl (.bool ((decide ((i : Int) < (x.ents.length : Int))))))) rfl (og rfl (op_bin rfl rfl rfl (b_lss _ _ _ _) rfl)) ?_
  refine rg_done rfl ?_
  refine a_cond rfl (fun h1 => ?_) (fun h1 => ?_)
  · skip
    have h2 := t_dec h1
    refine a_skip ?_
    show A _ _ _ _ _ _ _
    refine a_seq ?_
    refine a_block ?_
    refine a_rseq ?_
    have hpe := hx.e _ (ix_mem (by omega : i < x.ents.length))
    have hpl := hpe.l
    refine rg_put (d := 7) (v := .d (.fl (.int .i64 0))) rfl (og rfl (op_assign rfl rfl rfl)) ?_
    refine rg_done rfl ?_
    refine a_block ?_
    refine a_loop (ι := Nat) (fun k => SS [(0, .d (.ag (eLe x))), (1, .pt 101 0), (2, .d (.fl (.int .i64 0))), (3, .d (.fl (.int .i64 0))), (6, .d (.fl (.int .i64 (i : Int)))), (13, .d (.fl (.bool ((decide ((i : Int) < (x.ents.length : Int))))))), (7, .d (.fl (.int .i64 (k : Int)))), (4, .d (.fl (.int .i64 ((es1 gD x.ents i + ps1 gD (ix x.ents i).posts k))))), (5, .d (.fl (.int .i64 ((es1 gC x.ents i + ps1 gC (ix x.ents i).posts k)))))] [(101, .bx 35 (eLe x))]) (fun k => k ≤ (ix x.ents i).posts.length) (fun k => (ix x.ents i).posts.length - k) 0 (by omega) (imp_forget rfl ⟨rfl, rfl, rfl, rfl, rfl, rfl, (by first | rfl | exact ci (by omega) | exact ci (by simp) | exact cd (by simp) | simp), (ci (by simp [ps1])), (ci (by simp [ps1])), trivial⟩ ⟨rfl, trivial⟩) (fun k hok => ?_)
    have hk := hok
    have hpd := ps1_in (g := gD) (fun _ h => gD_in h) hpe.c k hk
    have hpc := ps1_in (g := gC) (fun _ h => gC_in h) hpe.c k hk
    refine a_seq ?_
    refine a_rseq ?_
    refine rg_put (d := 16) (v := .d (.fl (.int .i64 (k : Int)))) rfl (og rfl (op_move rfl rfl rfl)) ?_
    refine rg_put (d := 17) (v := .pt 101 0) rfl (og rfl (of_eff (s_field_pt rfl Try.underlying35 rfl ti33 rfl rfl rfl) rfl)) ?_
    refine rg_put (d := 18) (v := .d (.sl 3 (List.map eEn x.ents))) rfl (og rfl (op_load_pt rfl Try.underlying33 rfl rfl rfl rfl rfl)) ?_
    refine rg_put (d := 19) (v := .d (.fl (.int .i64 (i : Int)))) rfl (og rfl (op_move rfl rfl rfl)) ?_
    refine rg_put (d := 20) (v := .el ((eEn (ix x.ents i)))) rfl (og rfl (s_index rfl Try.underlying33 ti24 rfl rfl (by omega) (row_at (by omega)) rfl)) ?_
    refine rg_put (d := 21) (v := .el ((List.drop 2 ((eEn (ix x.ents i)))))) rfl (og rfl (of_eff (s_field_el rfl Try.underlying24 rfl ti22 rfl rfl rfl) rfl)) ?_
    refine rg_put (d := 22) (v := .d (.sl 2 (List.map ePo ((ix x.ents i).posts)))) rfl (og rfl (op_load_el rfl Try.underlying22 rfl rfl rfl rfl)) ?_
    refine rg_put (d := 23) (v := .d (.fl (.int .i64 ((((ix x.ents i).posts).length : Int))))) rfl (og rfl (s_len rfl Try.underlying22 rfl rfl)) ?_
    refine rg_put (d := 24) (v := .d (.fl (.bool ((decide ((k : Int) < (((ix x.ents i).posts).length : Int))))))) rfl (og rfl (op_bin rfl rfl rfl (b_lss _ _ _ _) rfl)) ?_
    refine rg_done rfl ?_
    refine a_cond rfl (fun h3 => ?_) (fun h3 => ?_)
    · skip
      have h4 := t_dec h3
      refine a_skip ?_
      show A _ _ _ _ _ _ _
      refine a_seq ?_
      refine a_block ?_
      refine a_rseq ?_
      have hcc := hpe.c _ (ix_mem (by omega : k < (ix x.ents i).posts.length))
      refine rg_put (d := 27) (v := .pt 101 0) rfl (og rfl (of_eff (s_field_pt rfl Try.underlying35 rfl ti33 rfl rfl rfl) rfl)) ?_
      refine rg_put (d := 28) (v := .d (.sl 3 (List.map eEn x.ents))) rfl (og rfl (op_load_pt rfl Try.underlying33 rfl rfl rfl rfl rfl)) ?_
      refine rg_put (d := 29) (v := .d (.fl (.int .i64 (i : Int)))) rfl (og rfl (op_move rfl rfl rfl)) ?_
      refine rg_put (d := 30) (v := .el ((eEn (ix x.ents i)))) rfl (og rfl (s_index rfl Try.underlying33 ti24 rfl rfl (by omega) (row_at (by omega)) rfl)) ?_
      refine rg_put (d := 31) (v := .el ((List.drop 2 ((eEn (ix x.ents i)))))) rfl (og rfl (of_eff (s_field_el rfl Try.underlying24 rfl ti22 rfl rfl rfl) rfl)) ?_
      refine rg_put (d := 32) (v := .d (.sl 2 (List.map ePo ((ix x.ents i).posts)))) rfl (og rfl (op_load_el rfl Try.underlying22 rfl rfl rfl rfl)) ?_
      refine rg_put (d := 33) (v := .d (.fl (.int .i64 (k : Int)))) rfl (og rfl (op_move rfl rfl rfl)) ?_
      refine rg_put (d := 34) (v := .el ((ePo ((ix ((ix x.ents i).posts) k))))) rfl (og rfl (s_index rfl Try.underlying22 ti31 rfl rfl (by omega) (row_at (by omega)) rfl)) ?_
      refine rg_put (d := 35) (v := .el ((List.drop 1 ((ePo ((ix ((ix x.ents i).posts) k))))))) rfl (og rfl (of_eff (s_field_el rfl Try.underlying31 rfl ti3 rfl rfl rfl) rfl)) ?_
      refine rg_put (d := 36) (v := .d (.fl (.int .i64 (((ix ((ix x.ents i).posts) k)).cents)))) rfl (og rfl (op_load_el rfl Try.underlying3 rfl rfl rfl rfl)) ?_
      refine rg_put (d := 8) (v := .d (.fl (.int .i64 (((ix ((ix x.ents i).posts) k)).cents)))) rfl (og rfl (op_assign rfl rfl rfl)) ?_
      refine rg_done rfl ?_
      refine a_rseq ?_
      refine rg_put (d := 37) (v := .d (.fl (.int .i64 ((es1 gD x.ents i + ps1 gD (ix x.ents i).posts k))))) rfl (og rfl (op_move rfl rfl rfl)) ?_
      refine rg_put (d := 38) (v := .d (.fl (.int .i64 (((ix ((ix x.ents i).posts) k)).cents)))) rfl (og rfl (op_move rfl rfl rfl)) ?_
      refine rg_put (d := 39) (v := .d (.fl (.int .i64 ((max (((ix ((ix x.ents i).posts) k)).cents) 0))))) rfl (og rfl (op_max rfl rfl rfl rfl)) ?_
      refine rg_put (d := 40) (v := .d (.fl (.int .i64 (((es1 gD x.ents i + ps1 gD (ix x.ents i).posts k) + (max (((ix ((ix x.ents i).posts) k)).cents) 0)))))) rfl (og rfl (op_bin rfl rfl rfl (fun x y w => b_add64 _ _ _ x y w (by omega)) rfl)) ?_
      refine rg_put (d := 4) (v := .d (.fl (.int .i64 (((es1 gD x.ents i + ps1 gD (ix x.ents i).posts k) + (max (((ix ((ix x.ents i).posts) k)).cents) 0)))))) rfl (og rfl (op_assign rfl rfl rfl)) ?_
      refine rg_done rfl ?_
      refine a_region ?_
      refine rg_put (d := 41) (v := .d (.fl (.int .i64 ((es1 gC x.ents i + ps1 gC (ix x.ents i).posts k))))) rfl (og rfl (op_move rfl rfl rfl)) ?_
      refine rg_put (d := 42) (v := .d (.fl (.int .i64 (((ix ((ix x.ents i).posts) k)).cents)))) rfl (og rfl (op_move rfl rfl rfl)) ?_
      refine rg_put (d := 43) (v := .d (.fl (.int .i64 ((-(((ix ((ix x.ents i).posts) k)).cents)))))) rfl (og rfl (op_un rfl rfl (fun w => u_neg64 _ w (by omega)) rfl)) ?_
      refine rg_put (d := 44) (v := .d (.fl (.int .i64 ((max ((-(((ix ((ix x.ents i).posts) k)).cents))) 0))))) rfl (og rfl (op_max rfl rfl rfl rfl)) ?_
      refine rg_put (d := 45) (v := .d (.fl (.int .i64 (((es1 gC x.ents i + ps1 gC (ix x.ents i).posts k) + (max ((-(((ix ((ix x.ents i).posts) k)).cents))) 0)))))) rfl (og rfl (op_bin rfl rfl rfl (fun x y w => b_add64 _ _ _ x y w (by omega)) rfl)) ?_
      refine rg_put (d := 5) (v := .d (.fl (.int .i64 (((es1 gC x.ents i + ps1 gC (ix x.ents i).posts k) + (max ((-(((ix ((ix x.ents i).posts) k)).cents))) 0)))))) rfl (og rfl (op_assign rfl rfl rfl)) ?_
      refine rg_done rfl ?_
      show A _ _ _ _ _ _ _
      refine a_region ?_
      refine rg_put (d := 25) (v := .d (.fl (.int .i64 (k : Int)))) rfl (og rfl (op_move rfl rfl rfl)) ?_
      refine rg_put (d := 26) (v := .d (.fl (.int .i64 (((k : Int) + 1))))) rfl (og rfl (op_bin rfl rfl rfl (fun x y w => b_add64 _ _ _ x y w (by omega)) rfl)) ?_
      refine rg_put (d := 7) (v := .d (.fl (.int .i64 (((k : Int) + 1))))) rfl (og rfl (op_assign rfl rfl rfl)) ?_
      refine rg_done rfl ?_
      show ∃ i, _ ∧ _ ∧ Imp _ _ _ _ _
      refine ⟨k + 1, (by omega), by omega, imp_forget rfl ⟨rfl, rfl, rfl, rfl, rfl, rfl, (by first | rfl | exact ci (by omega)), (ci (by simp only [ps1]; unfold gD; omega)), (ci (by simp only [ps1]; unfold gC; omega)), trivial⟩ ⟨rfl, trivial⟩⟩
    · skip
      have h5 := f_dec h3
      refine a_exit ?_
      show A _ _ _ _ _ _ _
      refine a_region ?_
      refine rg_put (d := 14) (v := .d (.fl (.int .i64 (i : Int)))) rfl (og rfl (op_move rfl rfl rfl)) ?_
      refine rg_put (d := 15) (v := .d (.fl (.int .i64 (((i : Int) + 1))))) rfl (og rfl (op_bin rfl rfl rfl (fun x y w => b_add64 _ _ _ x y w (by omega)) rfl)) ?_
      refine rg_put (d := 6) (v := .d (.fl (.int .i64 (((i : Int) + 1))))) rfl (og rfl (op_assign rfl rfl rfl)) ?_
      refine rg_done rfl ?_
      show ∃ i, _ ∧ _ ∧ Imp _ _ _ _ _
      refine ⟨i + 1, (by omega), by omega, imp_forget rfl ⟨rfl, rfl, rfl, rfl, (by first | rfl | exact ci (by omega)), (ci (by have e : k = (ix x.ents i).posts.length := (by omega); simp only [es1]; rw [e])), (ci (by have e : k = (ix x.ents i).posts.length := (by omega); simp only [es1]; rw [e])), trivial⟩ ⟨rfl, trivial⟩⟩
  · skip
    have h6 := f_dec h1
    refine a_exit ?_
    show A _ _ _ _ _ _ _
    refine a_rseq ?_
    refine rg_put (d := 46) (v := .d (.fl (.int .i64 (es1 gD x.ents i)))) rfl (og rfl (op_move rfl rfl rfl)) ?_
    refine rg_put (d := 47) (v := .d (.fl (.int .i64 (es1 gC x.ents i)))) rfl (og rfl (op_move rfl rfl rfl)) ?_
    refine rg_put (d := 2) (v := .d (.fl (.int .i64 (es1 gD x.ents i)))) rfl (og rfl (op_assign rfl rfl rfl)) ?_
    refine rg_put (d := 3) (v := .d (.fl (.int .i64 (es1 gC x.ents i)))) rfl (og rfl (op_assign rfl rfl rfl)) ?_
    refine rg_done rfl ?_
    refine a_ret ?_
    show ∃ ds, ResL _ _ _ ds ∧ RV.of ds = _
    refine ⟨[.fl (.int .i64 (es1 gD x.ents i)), .fl (.int .i64 (es1 gC x.ents i))], (.cons (.tmp rfl (.d _)) (.cons (.tmp rfl (.d _)) .nil)), ?_⟩
    have hie : i = x.ents.length := by omega
    subst hie
    rfl
end Go.Proofs.Ytmmadlhkniikdaa.Wk
