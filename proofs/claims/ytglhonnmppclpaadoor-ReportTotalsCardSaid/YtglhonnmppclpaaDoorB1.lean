/- Words, numbers, escapes, joined fields, lines, the builder. Conditions: strings that are not too long. -/
import Derived.Test.YtglhonnmppclpaaDoorAvG
import Derived.Test.YtglhonnmppclpaaDoorOw
import Derived.Test.YtglhonnmppclpaaDoorSw
import Derived.Test.YtglhonnmppclpaaDoorDw
import Derived.Test.YtglhonnmppclpaaDoorTy
set_option linter.unusedSimpArgs false
set_option linter.unusedVariables false
namespace Go.Proofs.YtglhonnmppclpaaDoor.Wk
open Go Go.RowKit Go.Proofs.YtglhonnmppclpaaDoor.Av
theorem nb {b : Bool} (h : ¬ b = true) : b = false := by cases b <;> simp at h ⊢
theorem ix_eq {α : Type} [Inhabited α] {l : List α} {i : Nat} (h : i < l.length) : l[i] = ix l i := by
  have := ix_get h
  rw [List.getElem?_eq_getElem h] at this
  injection this
theorem ix_mem {α : Type} [Inhabited α] {l : List α} {k : Nat} (h : k < l.length) : ix l k ∈ l := by rw [← ix_eq h]; exact List.getElem_mem h
theorem mem_ix {α : Type} [Inhabited α] {l : List α} {x : α} (h : x ∈ l) : ∃ k, k < l.length ∧ ix l k = x := by
  obtain ⟨j, hj, he⟩ := List.mem_iff_getElem.1 h
  exact ⟨j, hj, by rw [← ix_eq hj]; exact he⟩
theorem any_no {α : Type} [Inhabited α] {p : α → Bool} {l : List α} (h : ∀ q, q < l.length → p (ix l q) = false) : l.any p = false := by
  rw [List.any_eq_false]
  intro x hx
  obtain ⟨k, hk, he⟩ := mem_ix hx
  rw [← he, h k hk]; simp
def idx {α : Type} (p : α → Bool) (l : List α) : Int := match l.findIdx? p with
  | some i => (i : Int)
  | none => -1
theorem idx_at {α : Type} [Inhabited α] {p : α → Bool} {l : List α} {k : Nat} (hk : k < l.length) (h : ∀ q, q < k → p (ix l q) = false) (hp : p (ix l k) = true) : idx p l = (k : Int) := by
  have : l.findIdx? p = some k := by
    rw [List.findIdx?_eq_some_iff_getElem]
    refine ⟨hk, by rw [ix_eq hk]; exact hp, fun j hj => ?_⟩
    rw [ix_eq (by omega), h j hj]; simp
  unfold idx; rw [this]
theorem idx_no {α : Type} [Inhabited α] {p : α → Bool} {l : List α} (h : ∀ q, q < l.length → p (ix l q) = false) : idx p l = -1 := by
  have : l.findIdx? p = none := by
    rw [List.findIdx?_eq_none_iff]
    intro x hx
    obtain ⟨j, hj, he⟩ := List.mem_iff_getElem.1 hx
    rw [ix_eq hj] at he
    rw [← he]; exact h j hj
  unfold idx; rw [this]

def stw : List ByteArray := [⟨#[110, 101, 119]⟩, ⟨#[110, 111, 116, 105, 99, 101]⟩, ⟨#[114, 101, 109, 105, 110, 100]⟩, ⟨#[112, 101, 110, 97, 108, 116, 121]⟩, ⟨#[99, 111, 117, 114, 116]⟩, ⟨#[112, 97, 105, 100]⟩, ⟨#[119, 97, 105, 118, 101, 100]⟩, ⟨#[98, 97, 114, 114, 101, 100]⟩]
def apw : List ByteArray := [⟨#[102, 105, 108, 101, 100]⟩, ⟨#[117, 112, 104, 101, 108, 100]⟩, ⟨#[100, 101, 110, 105, 101, 100]⟩]
def GA : List DV := stw.map fun s => .fl (.string s)
def GB : List DV := apw.map fun s => .fl (.string s)
def KK (w : World) (U : Nat → Nat) : Prop := (Glo 0 GA w U ∧ Glo 1 GB w U) ∧ (Go.Proofs.YtglhonnmppclpaaDoor.Ow.Tb w ∧ Go.Proofs.YtglhonnmppclpaaDoor.Cw.Md w)
theorem kkst : KSt KK := kst_and (kst_and (kst_glo 0 GA) (kst_glo 1 GB)) (kst_and (kst_w (T := Go.Proofs.YtglhonnmppclpaaDoor.Ow.Tb) (fun w w' h hb => Go.Proofs.YtglhonnmppclpaaDoor.Ow.Tb.next h hb)) (kst_w (T := Go.Proofs.YtglhonnmppclpaaDoor.Cw.Md) (fun w w' h hb => Go.Proofs.YtglhonnmppclpaaDoor.Cw.Md.next h hb)))
def fm (n : Int) : ByteArray := Go.Proofs.YtglhonnmppclpaaDoor.Om.fmt n
def sh (n : Int) : ByteArray := Go.Proofs.YtglhonnmppclpaaDoor.Pm.strd (Go.Proofs.YtglhonnmppclpaaDoor.Pm.shL n)
def in64 (n : Int) : Prop := -9223372036854775808 ≤ n ∧ n ≤ 9223372036854775807
theorem fm28 (n : Int) (h : in64 n) : CtrK Tryd.prog KK 25 [.fl (.int .i64 n)] (.d (.fl (.string (fm n)))) := ctrK_flat [.int .i64 n] (fun w U hK => Go.Proofs.YtglhonnmppclpaaDoor.Ow.format21 n w h hK.2.1)
theorem fm33 (n : Int) (h : in64 n) : Ctr Tryd.prog 30 [.fl (.int .i64 n)] (.d (.fl (.string (fm n)))) := ctr_flat [.int .i64 n] (fun w => Go.Proofs.YtglhonnmppclpaaDoor.Ow.format22 n w h)
theorem sh29 (n : Int) (h : in64 n) : CtrK Tryd.prog KK 26 [.fl (.int .i64 n)] (.d (.fl (.string (sh n)))) := ctrK_flat [.int .i64 n] (fun w U hK => Go.Proofs.YtglhonnmppclpaaDoor.Pw.show25 n w h hK.2.1)
theorem sh34 (n : Int) (h : in64 n) : Ctr Tryd.prog 31 [.fl (.int .i64 n)] (.d (.fl (.string (sh n)))) := ctr_flat [.int .i64 n] (fun w => Go.Proofs.YtglhonnmppclpaaDoor.Pw.show26 n w h)
theorem dec_len : ∀ (k n : Nat), n < 10 ^ (k + 1) → (Lib.decDigits n).length ≤ k + 1
  | 0, n, h => by
    rw [Lib.decDigits, dif_pos (by omega)]
    simp
  | k + 1, n, h => by
    rw [Lib.decDigits]
    split
    · simp
    · rw [List.length_append]
      have := dec_len k (n / 10) (by rw [Nat.pow_succ] at h; omega)
      simp
      omega
theorem fm_size {n : Int} (h : in64 n) : (fm n).size ≤ 21 := by
  have h1 := dec_len 19 n.natAbs (by have := h.1; have := h.2; omega)
  unfold fm
  by_cases hn : n < 0
  · rw [Go.Proofs.YtglhonnmppclpaaDoor.Om.fmt_neg hn, ByteArray.size_append]
    show 1 + (Lib.decDigits n.natAbs).length ≤ 21
    omega
  · rw [Go.Proofs.YtglhonnmppclpaaDoor.Om.fmt_pos hn]
    show (Lib.decDigits n.natAbs).length ≤ 21
    omega
theorem sh_size {n : Int} (h : in64 n) : (sh n).size ≤ 25 := by
  have h1 := dec_len 18 (n.natAbs / 100) (by have := h.1; have := h.2; omega)
  unfold sh
  rw [Go.Proofs.YtglhonnmppclpaaDoor.Pm.strd_size]
  unfold Go.Proofs.YtglhonnmppclpaaDoor.Pm.shL Go.Proofs.YtglhonnmppclpaaDoor.Pm.sg Go.Proofs.YtglhonnmppclpaaDoor.Pm.ce
  split <;> simp only [List.length_append, List.length_cons, List.length_nil] <;> omega
def es (s : ByteArray) : ByteArray := Go.Proofs.YtglhonnmppclpaaDoor.Om.esS s
theorem es27 (s : ByteArray) (h : s.size ≤ 100000) : Ctr Tryd.prog 24 [.fl (.string s)] (.d (.fl (.string (es s)))) := ctr_flat [.string s] (fun w => Go.Proofs.YtglhonnmppclpaaDoor.Ow.escape27 s w h)
theorem es32 (s : ByteArray) (h : s.size ≤ 100000) : Ctr Tryd.prog 29 [.fl (.string s)] (.d (.fl (.string (es s)))) := ctr_flat [.string s] (fun w => Go.Proofs.YtglhonnmppclpaaDoor.Ow.escape28 s w h)
theorem es_size {s : ByteArray} {n : Nat} (h : s.size ≤ n) : (es s).size ≤ 3 * n + 1 := by
  unfold es Go.Proofs.YtglhonnmppclpaaDoor.Om.esS
  split
  · show 1 ≤ _; omega
  · rw [Go.Proofs.YtglhonnmppclpaaDoor.Om.strd_size]
    have := Go.Proofs.YtglhonnmppclpaaDoor.Om.ek_len s s.size
    omega
def jn (l : List ByteArray) : ByteArray := Go.Proofs.YtglhonnmppclpaaDoor.Om.js l l.length
theorem ba_assoc (a b c : ByteArray) : (a ++ b) ++ c = a ++ (b ++ c) := by
  apply ByteArray.ext
  simp only [ByteArray.data_append, Array.append_assoc]
theorem jn_two (a b : ByteArray) : jn [a, b] = (a ++ (⟨#[32]⟩ : ByteArray)) ++ b := by
  show Go.Proofs.YtglhonnmppclpaaDoor.Om.js [a, b] 2 = _
  rw [Go.Proofs.YtglhonnmppclpaaDoor.Om.js_next _ (by decide), Go.Proofs.YtglhonnmppclpaaDoor.Om.js_one]; rfl
theorem jn_three (a b c : ByteArray) : jn ([a, b] ++ [c]) = (((a ++ (⟨#[32]⟩ : ByteArray)) ++ b) ++ (⟨#[32]⟩ : ByteArray)) ++ c := by
  show Go.Proofs.YtglhonnmppclpaaDoor.Om.js [a, b, c] 3 = _
  rw [Go.Proofs.YtglhonnmppclpaaDoor.Om.js_next _ (by decide), Go.Proofs.YtglhonnmppclpaaDoor.Om.js_next _ (by decide), Go.Proofs.YtglhonnmppclpaaDoor.Om.js_one]; rfl
theorem jn63 (l : List ByteArray) (hs : (jn l).size ≤ 1000000) : Ctr Tryd.prog 59 [.sl 1 (List.map rS l)] (.d (.fl (.string (jn l)))) := by
  intro vals U w hR
  obtain ⟨v, rfl⟩ : ∃ v, vals = [v] := List.length_eq_one_iff.1 (by simpa using hR.1)
  have hv : Rd w U v (.sl 1 (List.map rS l)) := hR.2 0 v _ rfl rfl
  generalize hd : DV.sl 1 (List.map rS l) = d at hv
  cases hv with
  | sn A c z =>
    injection hd with _ hd
    have hl : l = [] := List.map_eq_nil_iff.1 hd
    subst hl
    refine Calls.mono (Go.Proofs.YtglhonnmppclpaaDoor.Ow.join29 A 0 c [] w ⟨rfl, by omega, fun h => absurd h (by omega)⟩ (Nat.zero_le _) hs) ?_
    rintro e w' ⟨rfl, hb⟩
    exact ⟨_, U, rfl, hb, fun _ _ => rfl, .fl _⟩
  | sl b off n c z rows u hn hz hm hcell hr =>
    injection hd with hz1 hd
    subst hz1 hd
    have hn' : l.length = n := by simpa using hn
    have hc : ∀ i, i < n → w.cell? ⟨b, off + i, none⟩ = some (.string (Go.Proofs.YtglhonnmppclpaaDoor.Om.sat l i)) := by
      intro i hi
      have hca : cellAt (List.map rS l) i 0 = some (.fl (.string (ix l i))) := by
        unfold cellAt
        rw [List.getElem?_map, ix_get (by omega)]; rfl
      obtain ⟨h1, _, _⟩ := hcell i 0 _ hca
      have h2 := rd_fl (hr i 0 _ hca)
      rw [h2] at h1
      rw [Nat.mul_one, Nat.add_zero] at h1
      exact h1
    refine Calls.mono (Go.Proofs.YtglhonnmppclpaaDoor.Ow.join29 (some ⟨b, off, none⟩) n c l w ⟨hn', hm.1, fun h0 => ⟨b, off, rfl, World.block_lt_of_cell? w _ (hc 0 h0), hc⟩⟩ hm.2 (by rw [← hn']; exact hs)) ?_
    rintro e w' ⟨rfl, hb⟩
    rw [← hn']
    exact ⟨_, U, rfl, hb, fun _ _ => rfl, .fl _⟩
  | _ => cases hd

theorem js_cons_size (l : List ByteArray) (k : Nat) : (Go.Proofs.YtglhonnmppclpaaDoor.Om.js l (k + 1)).size ≤ (Go.Proofs.YtglhonnmppclpaaDoor.Om.js l k).size + 1 + (Go.Proofs.YtglhonnmppclpaaDoor.Om.sat l k).size := by
  show ((if 0 < k then Go.Proofs.YtglhonnmppclpaaDoor.Om.js l k ++ ⟨#[32]⟩ else Go.Proofs.YtglhonnmppclpaaDoor.Om.js l k) ++ Go.Proofs.YtglhonnmppclpaaDoor.Om.sat l k).size ≤ _
  rw [ByteArray.size_append]
  split
  · rw [ByteArray.size_append]; show _ + 1 + _ ≤ _; omega
  · omega
theorem js_bound {l : List ByteArray} {c : Nat} (h : ∀ s ∈ l, s.size ≤ c) : ∀ k, k ≤ l.length → (Go.Proofs.YtglhonnmppclpaaDoor.Om.js l k).size ≤ (c + 1) * k
  | 0, _ => Nat.zero_le _
  | k + 1, hk => by
    have h1 := js_bound h k (by omega)
    have h2 := js_cons_size l k
    have h3 : (Go.Proofs.YtglhonnmppclpaaDoor.Om.sat l k).size ≤ c := by
      unfold Go.Proofs.YtglhonnmppclpaaDoor.Om.sat
      rw [List.getD_eq_getElem?_getD, List.getElem?_eq_getElem (by omega)]
      exact h _ (List.getElem_mem _)
    rw [Nat.mul_succ]
    omega
theorem jn_bound {l : List ByteArray} {c : Nat} (h : ∀ s ∈ l, s.size ≤ c) : (jn l).size ≤ (c + 1) * l.length := js_bound h _ (Nat.le_refl _)
def ln (l : List ByteArray) : ByteArray := jn l ++ (⟨#[10]⟩ : ByteArray)
theorem cc_fresh (v : Value) (rows : List (List DV)) : CtrX Tryd.prog 58 [.q 0 v] [.bt 88 [.dv (.fl (.pointer none)), .ow 5 1 rows]] [.bt 88 [.dv (.fl v), .ow 5 1 rows]] (.tu []) := cc_fresh_of (fun b w h1 h2 h3 => Any.Builder_copyCheck_fresh { Tryd.laysJoin with } Tryd.joinExtra.toX72 b w h1 h2 h3) v
theorem cc_used (v : Value) (rows : List (List DV)) : CtrX Tryd.prog 58 [.q 0 v] [.bt 88 [.dv (.fl v), .ow 5 1 rows]] [.bt 88 [.dv (.fl v), .ow 5 1 rows]] (.tu []) := cc_used_of (fun b w h1 => Any.Builder_copyCheck_used { Tryd.laysJoin with } Tryd.joinExtra.toX72 b w h1) v
theorem bstr30 (B b : Nat) (l : List UInt8) (w : World) (h : Lib.IsBuilder 88 5 B b (Lib.byteCells l) w) (hB : B ≤ w.heap.size) : Calls Tryd.prog 27 #[.pointer (some ⟨b, 0, none⟩)] w fun e w' => e = .returned (.string ⟨l.toArray⟩) ∧ Below B w w' := Any.Builder_String_any { Tryd.laysJoin with } Tryd.joinExtra B b l w h hB

set_option maxHeartbeats 4000000 in
set_option maxRecDepth 100000 in
theorem ws_fresh (u s : ByteArray) (v : Value) (hs : u.size + s.size ≤ 100000000) : CtrX Tryd.prog 22 [.q 0 v, .d (.fl (.string s))] [.bt 88 [.dv (.fl (.pointer none)), .ow 5 1 (List.map (rI .u8) (bys u))]] [.bt 88 [.dv (.fl v), .ow 5 1 (List.map (rI .u8) (bys (u ++ s)))]] (.tu [.fl (.int .i64 s.size), .fl .nilIface]) := by
  refine ctrX (n := 19) (rs := #[.tmp 4, .tmp 5]) Tryd.func22 rfl rfl rfl rfl rfl rfl rfl rfl (fun w0 U0 vv H V Q => ?_)
  show A _ _ _ _ _ _ (SS [(0, .pv 0 v), (1, .d (.fl (.string s)))] [(0, .bt 88 [.dv (.fl (.pointer none)), .ow 5 1 (List.map (rI .u8) (bys u))]), (1, .pin H V Q)])
  refine a_rseq ?_
  refine rg_put (d := 4) (v := .d (.fl (.int .i64 0))) rfl (og rfl (op_assign rfl rfl rfl)) ?_
  refine rg_put (d := 5) (v := .d (.fl (.nilIface))) rfl (og rfl (op_assign rfl rfl rfl)) ?_
  refine rg_done rfl ?_
  refine a_rseq ?_
  refine rg_put (d := 6) (v := .pv 0 v) rfl (og rfl (op_move rfl rfl rfl)) ?_
  refine rg_upd (d := 7) (v := .tu []) (nw := [(0, .bt 88 [.dv (.fl v), .ow 5 1 (List.map (rI .u8) (bys u))])]) rfl (og rfl (of_eff (op_callX [0] (obs := [.bt 88 [.dv (.fl (.pointer none)), .ow 5 1 (List.map (rI .u8) (bys u))]]) (obs' := [.bt 88 [.dv (.fl v), .ow 5 1 (List.map (rI .u8) (bys u))]]) (r := .tu []) rfl Tryd.func58 nm58 rfl (.q 0 rfl rfl .nil) rfl (And.intro rfl trivial) rfl rfl rfl (cc_fresh v (List.map (rI .u8) (bys u))) rfl) rfl)) ?_
  refine rg_done rfl ?_
  refine a_rseq ?_
  refine rg_put (d := 8) (v := .pv 0 v) rfl (og rfl (op_move rfl rfl rfl)) ?_
  refine rg_put (d := 9) (v := .pv 0 v) rfl (og rfl (op_move rfl rfl rfl)) ?_
  refine rg_put (d := 10) (v := .pt 0 0) rfl (og rfl (op_nilCheck rfl rfl rfl)) ?_
  refine rg_put (d := 11) (v := .pt 0 1) rfl (og rfl (of_eff (s_field_pt rfl Tryd.underlying88 rfl ti86 rfl rfl rfl) rfl)) ?_
  refine rg_nam (d := 12) (v := .ow 101) (m := 101) (nw := [(101, .tr 5 1 (tD (rI .u8) (bys u))), (0, .bt 88 [.dv (.fl v), .un])]) rfl (og rfl (of_eff (op_takeBt 101 rfl Tryd.underlying86 rfl rfl rfl rfl rfl rfl) rfl)) rfl ?_
  refine rg_put (d := 13) (v := .d (.fl (.string s))) rfl (og rfl (op_move rfl rfl rfl)) ?_
  refine rg_nam (d := 14) (v := .ow 102) (m := 102) (nw := [(102, .tr 5 1 (tD (rI .u8) (((bys u) ++ bys s)))), (101, .no)]) rfl (og rfl (of_eff (op_appendStr 102 rfl Tryd.underlying86 Tryd.underlying9 ti5 rfl rfl rfl (by simp only [bys_len]; omega) rfl) rfl)) rfl ?_
  refine rg_put (d := 15) (v := .pt 0 0) rfl (og rfl (op_nilCheck rfl rfl rfl)) ?_
  refine rg_put (d := 16) (v := .pt 0 1) rfl (og rfl (of_eff (s_field_pt rfl Tryd.underlying88 rfl ti86 rfl rfl rfl) rfl)) ?_
  refine rg_sto (nw := [(0, .bt 88 [.dv (.fl v), .ow 5 1 (List.map (rI .u8) (((bys u) ++ bys s)))]), (102, .no)]) rfl (og rfl (of_eff (op_store_bt rfl rfl ti86 rfl rfl rfl (.tr rfl) rfl rfl rfl) rfl)) ?_
  refine rg_done rfl ?_
  refine a_rseq ?_
  rw [show (bys u ++ bys s) = (bys (u ++ s)) from bys_app _ _]
  refine rg_put (d := 17) (v := .d (.fl (.string s))) rfl (og rfl (op_move rfl rfl rfl)) ?_
  refine rg_put (d := 18) (v := .d (.fl (.int .i64 (s.size : Int)))) rfl (og rfl (op_len_str rfl Tryd.underlying9 rfl rfl)) ?_
  refine rg_put (d := 4) (v := .d (.fl (.int .i64 (s.size : Int)))) rfl (og rfl (op_assign rfl rfl rfl)) ?_
  refine rg_put (d := 5) (v := .d (.fl (.nilIface))) rfl (og rfl (op_assign rfl rfl rfl)) ?_
  refine rg_done rfl ?_
  refine a_ret ?_
  show (∃ ds, ResL _ _ _ ds ∧ RV.of ds = _) ∧ _ ∧ _
  refine ⟨⟨[.fl (.int .i64 (s.size : Int)), .fl (.nilIface)], (.cons (.tmp rfl (.d _)) (.cons (.tmp rfl (.d _)) .nil)), ?_⟩, (And.intro rfl trivial), (And.intro rfl rfl)⟩
  rfl
set_option maxHeartbeats 4000000 in
set_option maxRecDepth 100000 in
theorem ws_used (u s : ByteArray) (v : Value) (hs : u.size + s.size ≤ 100000000) : CtrX Tryd.prog 22 [.q 0 v, .d (.fl (.string s))] [.bt 88 [.dv (.fl v), .ow 5 1 (List.map (rI .u8) (bys u))]] [.bt 88 [.dv (.fl v), .ow 5 1 (List.map (rI .u8) (bys (u ++ s)))]] (.tu [.fl (.int .i64 s.size), .fl .nilIface]) := by
  refine ctrX (n := 19) (rs := #[.tmp 4, .tmp 5]) Tryd.func22 rfl rfl rfl rfl rfl rfl rfl rfl (fun w0 U0 vv H V Q => ?_)
  show A _ _ _ _ _ _ (SS [(0, .pv 0 v), (1, .d (.fl (.string s)))] [(0, .bt 88 [.dv (.fl v), .ow 5 1 (List.map (rI .u8) (bys u))]), (1, .pin H V Q)])
  refine a_rseq ?_
  refine rg_put (d := 4) (v := .d (.fl (.int .i64 0))) rfl (og rfl (op_assign rfl rfl rfl)) ?_
  refine rg_put (d := 5) (v := .d (.fl (.nilIface))) rfl (og rfl (op_assign rfl rfl rfl)) ?_
  refine rg_done rfl ?_
  refine a_rseq ?_
  refine rg_put (d := 6) (v := .pv 0 v) rfl (og rfl (op_move rfl rfl rfl)) ?_
  refine rg_upd (d := 7) (v := .tu []) (nw := [(0, .bt 88 [.dv (.fl v), .ow 5 1 (List.map (rI .u8) (bys u))])]) rfl (og rfl (of_eff (op_callX [0] (obs := [.bt 88 [.dv (.fl v), .ow 5 1 (List.map (rI .u8) (bys u))]]) (obs' := [.bt 88 [.dv (.fl v), .ow 5 1 (List.map (rI .u8) (bys u))]]) (r := .tu []) rfl Tryd.func58 nm58 rfl (.q 0 rfl rfl .nil) rfl (And.intro rfl trivial) rfl rfl rfl (cc_used v (List.map (rI .u8) (bys u))) rfl) rfl)) ?_
  refine rg_done rfl ?_
  refine a_rseq ?_
  refine rg_put (d := 8) (v := .pv 0 v) rfl (og rfl (op_move rfl rfl rfl)) ?_
  refine rg_put (d := 9) (v := .pv 0 v) rfl (og rfl (op_move rfl rfl rfl)) ?_
  refine rg_put (d := 10) (v := .pt 0 0) rfl (og rfl (op_nilCheck rfl rfl rfl)) ?_
  refine rg_put (d := 11) (v := .pt 0 1) rfl (og rfl (of_eff (s_field_pt rfl Tryd.underlying88 rfl ti86 rfl rfl rfl) rfl)) ?_
  refine rg_nam (d := 12) (v := .ow 101) (m := 101) (nw := [(101, .tr 5 1 (tD (rI .u8) (bys u))), (0, .bt 88 [.dv (.fl v), .un])]) rfl (og rfl (of_eff (op_takeBt 101 rfl Tryd.underlying86 rfl rfl rfl rfl rfl rfl) rfl)) rfl ?_
  refine rg_put (d := 13) (v := .d (.fl (.string s))) rfl (og rfl (op_move rfl rfl rfl)) ?_
  refine rg_nam (d := 14) (v := .ow 102) (m := 102) (nw := [(102, .tr 5 1 (tD (rI .u8) (((bys u) ++ bys s)))), (101, .no)]) rfl (og rfl (of_eff (op_appendStr 102 rfl Tryd.underlying86 Tryd.underlying9 ti5 rfl rfl rfl (by simp only [bys_len]; omega) rfl) rfl)) rfl ?_
  refine rg_put (d := 15) (v := .pt 0 0) rfl (og rfl (op_nilCheck rfl rfl rfl)) ?_
  refine rg_put (d := 16) (v := .pt 0 1) rfl (og rfl (of_eff (s_field_pt rfl Tryd.underlying88 rfl ti86 rfl rfl rfl) rfl)) ?_
  refine rg_sto (nw := [(0, .bt 88 [.dv (.fl v), .ow 5 1 (List.map (rI .u8) (((bys u) ++ bys s)))]), (102, .no)]) rfl (og rfl (of_eff (op_store_bt rfl rfl ti86 rfl rfl rfl (.tr rfl) rfl rfl rfl) rfl)) ?_
  refine rg_done rfl ?_
  refine a_rseq ?_
  rw [show (bys u ++ bys s) = (bys (u ++ s)) from bys_app _ _]
  refine rg_put (d := 17) (v := .d (.fl (.string s))) rfl (og rfl (op_move rfl rfl rfl)) ?_
  refine rg_put (d := 18) (v := .d (.fl (.int .i64 (s.size : Int)))) rfl (og rfl (op_len_str rfl Tryd.underlying9 rfl rfl)) ?_
  refine rg_put (d := 4) (v := .d (.fl (.int .i64 (s.size : Int)))) rfl (og rfl (op_assign rfl rfl rfl)) ?_
  refine rg_put (d := 5) (v := .d (.fl (.nilIface))) rfl (og rfl (op_assign rfl rfl rfl)) ?_
  refine rg_done rfl ?_
  refine a_ret ?_
  show (∃ ds, ResL _ _ _ ds ∧ RV.of ds = _) ∧ _ ∧ _
  refine ⟨⟨[.fl (.int .i64 (s.size : Int)), .fl (.nilIface)], (.cons (.tmp rfl (.d _)) (.cons (.tmp rfl (.d _)) .nil)), ?_⟩, (And.intro rfl trivial), (And.intro rfl rfl)⟩
  rfl
theorem sat_ix {l : List ByteArray} {k : Nat} (h : k < l.length) : Go.Proofs.YtglhonnmppclpaaDoor.Om.sat l k = ix l k := by
  unfold Go.Proofs.YtglhonnmppclpaaDoor.Om.sat
  rw [List.getD_eq_getElem?_getD, ix_get h]; rfl
theorem jr_yes {l : List ByteArray} {k : Nat} (h : k < l.length) (h0 : decide ((0 : Int) < (k : Int)) = true) : (Go.Proofs.YtglhonnmppclpaaDoor.Om.js l k ++ (⟨#[32]⟩ : ByteArray)) ++ ix l k = Go.Proofs.YtglhonnmppclpaaDoor.Om.js l (k + 1) := by
  have := of_decide_eq_true h0
  rw [Go.Proofs.YtglhonnmppclpaaDoor.Om.js_next l (by omega), sat_ix h]
theorem jr_no {l : List ByteArray} {k : Nat} (h : k < l.length) (h0 : decide ((0 : Int) < (k : Int)) = false) : Go.Proofs.YtglhonnmppclpaaDoor.Om.js l k ++ ix l k = Go.Proofs.YtglhonnmppclpaaDoor.Om.js l (k + 1) := by
  have := of_decide_eq_false h0
  obtain rfl : k = 0 := by omega
  rw [Go.Proofs.YtglhonnmppclpaaDoor.Om.js_one, sat_ix h]
  exact ByteArray.empty_append
theorem jr_le {l : List ByteArray} {k : Nat} (h : k < l.length) : (Go.Proofs.YtglhonnmppclpaaDoor.Om.js l k).size + 1 + (ix l k).size ≤ (Go.Proofs.YtglhonnmppclpaaDoor.Om.js l (k + 1)).size + 1 := by
  rw [← sat_ix h]
  show _ ≤ ((if 0 < k then Go.Proofs.YtglhonnmppclpaaDoor.Om.js l k ++ ⟨#[32]⟩ else Go.Proofs.YtglhonnmppclpaaDoor.Om.js l k) ++ Go.Proofs.YtglhonnmppclpaaDoor.Om.sat l k).size + 1
  rw [ByteArray.size_append]
  split
  · rw [ByteArray.size_append]; omega
  · omega

set_option maxHeartbeats 4000000 in
set_option maxRecDepth 100000 in
theorem jn68 (l : List ByteArray) (hs : (jn l).size ≤ 1000000) : Ctr Tryd.prog 64 [.sl 1 (List.map rS l)] (.d (.fl (.string (jn l)))) := by
  have hs2 : (Go.Proofs.YtglhonnmppclpaaDoor.Om.js l l.length).size ≤ 1000000 := hs
  have hjm := Go.Proofs.YtglhonnmppclpaaDoor.Om.js_many l l.length
  refine ctr (n := 22) (rs := #[.tmp 2]) (L := [(0, .d (.sl 1 (List.map rS l)))]) Tryd.func64 rfl rfl rfl rfl rfl (fun w0 U0 => ?_)
  refine a_rseq ?_
  refine rg_put (d := 2) (v := .d (.fl (.string (⟨#[]⟩)))) rfl (og rfl (op_assign rfl rfl rfl)) ?_
  refine rg_done rfl ?_
  refine a_rseq ?_
  refine rg_put (d := 3) (v := .d (.fl (.string (⟨#[]⟩)))) rfl (og rfl (op_assign rfl rfl rfl)) ?_
  refine rg_done rfl ?_
  refine a_seq ?_
  refine a_rseq ?_
  refine rg_put (d := 4) (v := .d (.fl (.int .i64 0))) rfl (og rfl (op_assign rfl rfl rfl)) ?_
  refine rg_done rfl ?_
  refine a_block ?_
  refine a_loop (ι := Nat) (fun k => SS [(0, .d (.sl 1 (List.map rS l))), (2, .d (.fl (.string (⟨#[]⟩)))), (4, .d (.fl (.int .i64 (k : Int)))), (3, .d (.fl (.string (Go.Proofs.YtglhonnmppclpaaDoor.Om.js l k))))] []) (fun k => k ≤ l.length) (fun k => l.length - k) 0 (by omega) (imp_forget rfl ⟨rfl, rfl, (by first | rfl | exact ci (by omega) | exact ci (by simp) | exact cd (by simp) | simp), rfl, trivial⟩ trivial) (fun k hok => ?_)
  have hk := hok
  refine a_seq ?_
  refine a_rseq ?_
  refine rg_put (d := 5) (v := .d (.fl (.int .i64 (k : Int)))) rfl (og rfl (op_move rfl rfl rfl)) ?_
  refine rg_put (d := 6) (v := .d (.sl 1 (List.map rS l))) rfl (og rfl (op_move rfl rfl rfl)) ?_
  refine rg_put (d := 7) (v := .d (.fl (.int .i64 (l.length : Int)))) rfl (og rfl (s_len rfl Tryd.underlying98 rfl rfl)) ?_
  refine rg_put (d := 8) (v := .d (.fl (.bool ((decide ((k : Int) < (l.length : Int))))))) rfl (og rfl (op_bin rfl rfl rfl (b_lss _ _ _ _) rfl)) ?_
  refine rg_done rfl ?_
  refine a_cond rfl (fun h1 => ?_) (fun h1 => ?_)
  · skip
    have h2 := t_dec h1
    refine a_skip ?_
    show A _ _ _ _ _ _ _
    refine a_seq ?_
    refine a_block ?_
    refine a_seq ?_
    refine a_rseq ?_
    have hk9 : k < l.length := by omega
    have hj1 := Go.Proofs.YtglhonnmppclpaaDoor.Om.js_mono l (show k + 1 ≤ l.length by omega)
    have hj2 := jr_le hk9
    have s32 : (⟨#[32]⟩ : ByteArray).size = 1 := rfl
    refine rg_put (d := 11) (v := .d (.fl (.int .i64 (k : Int)))) rfl (og rfl (op_move rfl rfl rfl)) ?_
    refine rg_put (d := 12) (v := .d (.fl (.bool ((decide (0 < (k : Int))))))) rfl (og rfl (op_bin rfl rfl rfl (b_gtr _ _ _ _) rfl)) ?_
    refine rg_done rfl ?_
    refine a_cond rfl (fun h3 => ?_) (fun h3 => ?_)
    · skip
      have h4 := t_dec h3
      refine a_region ?_
      refine rg_put (d := 13) (v := .d (.fl (.string (Go.Proofs.YtglhonnmppclpaaDoor.Om.js l k)))) rfl (og rfl (op_move rfl rfl rfl)) ?_
      refine rg_put (d := 14) (v := .d (.fl (.string (((Go.Proofs.YtglhonnmppclpaaDoor.Om.js l k) ++ (⟨#[32]⟩ : ByteArray)))))) rfl (og rfl (op_bin rfl rfl rfl (fun ox oy ow => b_sadd _ _ _ ox oy ow (by first | omega | (simp only [ByteArray.size_append]; omega))) rfl)) ?_
      refine rg_put (d := 3) (v := .d (.fl (.string (((Go.Proofs.YtglhonnmppclpaaDoor.Om.js l k) ++ (⟨#[32]⟩ : ByteArray)))))) rfl (og rfl (op_assign rfl rfl rfl)) ?_
      refine rg_done rfl ?_
      show A _ _ _ _ _ _ _
      refine a_region ?_
      refine rg_put (d := 15) (v := .d (.fl (.string (((Go.Proofs.YtglhonnmppclpaaDoor.Om.js l k) ++ (⟨#[32]⟩ : ByteArray)))))) rfl (og rfl (op_move rfl rfl rfl)) ?_
      refine rg_put (d := 16) (v := .d (.sl 1 (List.map rS l))) rfl (og rfl (op_move rfl rfl rfl)) ?_
      refine rg_put (d := 17) (v := .d (.fl (.int .i64 (k : Int)))) rfl (og rfl (op_move rfl rfl rfl)) ?_
      refine rg_put (d := 18) (v := .el ((rS (ix l k)))) rfl (og rfl (s_index rfl Tryd.underlying98 ti9 rfl rfl (by omega) (row_at (by omega)) rfl)) ?_
      refine rg_put (d := 19) (v := .d (.fl (.string (ix l k)))) rfl (og rfl (op_load_el rfl Tryd.underlying9 rfl rfl rfl rfl)) ?_
      refine rg_put (d := 20) (v := .d (.fl (.string (((((Go.Proofs.YtglhonnmppclpaaDoor.Om.js l k) ++ (⟨#[32]⟩ : ByteArray))) ++ (ix l k)))))) rfl (og rfl (op_bin rfl rfl rfl (fun ox oy ow => b_sadd _ _ _ ox oy ow (by first | omega | (simp only [ByteArray.size_append]; omega))) rfl)) ?_
      refine rg_put (d := 3) (v := .d (.fl (.string (((((Go.Proofs.YtglhonnmppclpaaDoor.Om.js l k) ++ (⟨#[32]⟩ : ByteArray))) ++ (ix l k)))))) rfl (og rfl (op_assign rfl rfl rfl)) ?_
      refine rg_done rfl ?_
      show A _ _ _ _ _ _ _
      refine a_region ?_
      refine rg_put (d := 9) (v := .d (.fl (.int .i64 (k : Int)))) rfl (og rfl (op_move rfl rfl rfl)) ?_
      refine rg_put (d := 10) (v := .d (.fl (.int .i64 (((k : Int) + 1))))) rfl (og rfl (op_bin rfl rfl rfl (fun x y w => b_add64 _ _ _ x y w (by omega)) rfl)) ?_
      refine rg_put (d := 4) (v := .d (.fl (.int .i64 (((k : Int) + 1))))) rfl (og rfl (op_assign rfl rfl rfl)) ?_
      refine rg_done rfl ?_
      show ∃ i, _ ∧ _ ∧ Imp _ _ _ _ _
      refine ⟨k + 1, (by omega), by omega, imp_forget rfl ⟨rfl, rfl, (by first | rfl | exact ci (by omega) | exact ci (by simp) | exact cd (by simp) | simp), (congrArg (fun z => AV.d (.fl (.string z))) (jr_yes hk9 h3)), trivial⟩ trivial⟩
    · skip
      have h5 := f_dec h3
      refine a_skip ?_
      show A _ _ _ _ _ _ _
      refine a_region ?_
      refine rg_put (d := 15) (v := .d (.fl (.string (Go.Proofs.YtglhonnmppclpaaDoor.Om.js l k)))) rfl (og rfl (op_move rfl rfl rfl)) ?_
      refine rg_put (d := 16) (v := .d (.sl 1 (List.map rS l))) rfl (og rfl (op_move rfl rfl rfl)) ?_
      refine rg_put (d := 17) (v := .d (.fl (.int .i64 (k : Int)))) rfl (og rfl (op_move rfl rfl rfl)) ?_
      refine rg_put (d := 18) (v := .el ((rS (ix l k)))) rfl (og rfl (s_index rfl Tryd.underlying98 ti9 rfl rfl (by omega) (row_at (by omega)) rfl)) ?_
      refine rg_put (d := 19) (v := .d (.fl (.string (ix l k)))) rfl (og rfl (op_load_el rfl Tryd.underlying9 rfl rfl rfl rfl)) ?_
      refine rg_put (d := 20) (v := .d (.fl (.string (((Go.Proofs.YtglhonnmppclpaaDoor.Om.js l k) ++ (ix l k)))))) rfl (og rfl (op_bin rfl rfl rfl (fun ox oy ow => b_sadd _ _ _ ox oy ow (by first | omega | (simp only [ByteArray.size_append]; omega))) rfl)) ?_
      refine rg_put (d := 3) (v := .d (.fl (.string (((Go.Proofs.YtglhonnmppclpaaDoor.Om.js l k) ++ (ix l k)))))) rfl (og rfl (op_assign rfl rfl rfl)) ?_
      refine rg_done rfl ?_
      show A _ _ _ _ _ _ _
      refine a_region ?_
      refine rg_put (d := 9) (v := .d (.fl (.int .i64 (k : Int)))) rfl (og rfl (op_move rfl rfl rfl)) ?_
      refine rg_put (d := 10) (v := .d (.fl (.int .i64 (((k : Int) + 1))))) rfl (og rfl (op_bin rfl rfl rfl (fun x y w => b_add64 _ _ _ x y w (by omega)) rfl)) ?_
      refine rg_put (d := 4) (v := .d (.fl (.int .i64 (((k : Int) + 1))))) rfl (og rfl (op_assign rfl rfl rfl)) ?_
      refine rg_done rfl ?_
      show ∃ i, _ ∧ _ ∧ Imp _ _ _ _ _
      refine ⟨k + 1, (by omega), by omega, imp_forget rfl ⟨rfl, rfl, (by first | rfl | exact ci (by omega) | exact ci (by simp) | exact cd (by simp) | simp), (congrArg (fun z => AV.d (.fl (.string z))) (jr_no hk9 h3)), trivial⟩ trivial⟩
  · skip
    have h6 := f_dec h1
    refine a_exit ?_
    show A _ _ _ _ _ _ _
    refine a_rseq ?_
    refine rg_put (d := 21) (v := .d (.fl (.string (Go.Proofs.YtglhonnmppclpaaDoor.Om.js l k)))) rfl (og rfl (op_move rfl rfl rfl)) ?_
    refine rg_put (d := 2) (v := .d (.fl (.string (Go.Proofs.YtglhonnmppclpaaDoor.Om.js l k)))) rfl (og rfl (op_assign rfl rfl rfl)) ?_
    refine rg_done rfl ?_
    refine a_ret ?_
    show ∃ ds, ResL _ _ _ ds ∧ RV.of ds = _
    refine ⟨[.fl (.string (Go.Proofs.YtglhonnmppclpaaDoor.Om.js l k))], (.cons (.tmp rfl (.d _)) .nil), ?_⟩
    have hkl : k = l.length := by omega
    subst hkl
    rfl
set_option maxHeartbeats 4000000 in
set_option maxRecDepth 100000 in
theorem ln26 (l : List ByteArray) (hs : (jn l).size ≤ 1000000) : Ctr Tryd.prog 23 [.sl 1 (List.map rS l)] (.d (.fl (.string (ln l)))) := by
  refine ctr (n := 6) (rs := #[.tmp 2]) (L := [(0, .d (.sl 1 (List.map rS l)))]) Tryd.func23 rfl rfl rfl rfl rfl (fun w0 U0 => ?_)
  refine a_rseq ?_
  refine rg_put (d := 2) (v := .d (.fl (.string (⟨#[]⟩)))) rfl (og rfl (op_assign rfl rfl rfl)) ?_
  refine rg_done rfl ?_
  refine a_rseq ?_
  refine rg_put (d := 3) (v := .d (.sl 1 (List.map rS l))) rfl (og rfl (op_move rfl rfl rfl)) ?_
  refine rg_put (d := 4) (v := .d (.fl (.string (jn l)))) rfl (og rfl (op_call rfl Tryd.func59 nm59 rfl (.cons rfl (.d _) .nil) (jn63 l (hs)) rfl)) ?_
  refine rg_put (d := 5) (v := .d (.fl (.string (((jn l) ++ (⟨#[10]⟩ : ByteArray)))))) rfl (og rfl (op_bin rfl rfl rfl (fun ox oy ow => b_sadd _ _ _ ox oy ow (by have s10 : (⟨#[10]⟩ : ByteArray).size = 1 := rfl; omega)) rfl)) ?_
  refine rg_put (d := 2) (v := .d (.fl (.string (((jn l) ++ (⟨#[10]⟩ : ByteArray)))))) rfl (og rfl (op_assign rfl rfl rfl)) ?_
  refine rg_done rfl ?_
  refine a_ret ?_
  show ∃ ds, ResL _ _ _ ds ∧ RV.of ds = _
  refine ⟨[.fl (.string (((jn l) ++ (⟨#[10]⟩ : ByteArray))))], (.cons (.tmp rfl (.d _)) .nil), ?_⟩
  rfl
set_option maxHeartbeats 4000000 in
set_option maxRecDepth 100000 in
theorem ln31 (l : List ByteArray) (hs : (jn l).size ≤ 1000000) : Ctr Tryd.prog 28 [.sl 1 (List.map rS l)] (.d (.fl (.string (ln l)))) := by
  refine ctr (n := 6) (rs := #[.tmp 2]) (L := [(0, .d (.sl 1 (List.map rS l)))]) Tryd.func28 rfl rfl rfl rfl rfl (fun w0 U0 => ?_)
  refine a_rseq ?_
  refine rg_put (d := 2) (v := .d (.fl (.string (⟨#[]⟩)))) rfl (og rfl (op_assign rfl rfl rfl)) ?_
  refine rg_done rfl ?_
  refine a_rseq ?_
  refine rg_put (d := 3) (v := .d (.sl 1 (List.map rS l))) rfl (og rfl (op_move rfl rfl rfl)) ?_
  refine rg_put (d := 4) (v := .d (.fl (.string (jn l)))) rfl (og rfl (op_call rfl Tryd.func64 nm64 rfl (.cons rfl (.d _) .nil) (jn68 l (hs)) rfl)) ?_
  refine rg_put (d := 5) (v := .d (.fl (.string (((jn l) ++ (⟨#[10]⟩ : ByteArray)))))) rfl (og rfl (op_bin rfl rfl rfl (fun ox oy ow => b_sadd _ _ _ ox oy ow (by have s10 : (⟨#[10]⟩ : ByteArray).size = 1 := rfl; omega)) rfl)) ?_
  refine rg_put (d := 2) (v := .d (.fl (.string (((jn l) ++ (⟨#[10]⟩ : ByteArray)))))) rfl (og rfl (op_assign rfl rfl rfl)) ?_
  refine rg_done rfl ?_
  refine a_ret ?_
  show ∃ ds, ResL _ _ _ ds ∧ RV.of ds = _
  refine ⟨[.fl (.string (((jn l) ++ (⟨#[10]⟩ : ByteArray))))], (.cons (.tmp rfl (.d _)) .nil), ?_⟩
  rfl
end Go.Proofs.YtglhonnmppclpaaDoor.Wk
