/- The normal form of a plate, both sides. Conditions: as each theorem names them. -/
import Derived.Test.YtaoopadfijkbcaaGreatDoorLaid
import Derived.Shelf.Strings.MapGrows
import Derived.Test.YtaoopadfijkbcaaGreatDoorPm
import Derived.Test.YtaoopadfijkbcaaGreatDoorAvY
import Derived.Test.YtaoopadfijkbcaaGreatDoorTy
set_option linter.unusedSimpArgs false
set_option linter.unusedVariables false
namespace Go.Proofs.YtaoopadfijkbcaaGreatDoor.Wk
open Go Go.RowKit Go.Shelf Go.Lib Go.Proofs.YtaoopadfijkbcaaGreatDoor.Pm Go.Proofs.YtaoopadfijkbcaaGreatDoor.Av
theorem ix_eq {α : Type} [Inhabited α] {l : List α} {i : Nat} (h : i < l.length) : l[i] = ix l i := by
  have := ix_get h
  rw [List.getElem?_eq_getElem h] at this
  injection this
theorem ix_mem {α : Type} [Inhabited α] {l : List α} {k : Nat} (h : k < l.length) : ix l k ∈ l := by rw [← ix_eq h]; exact List.getElem_mem h
theorem mem_ix {α : Type} [Inhabited α] {l : List α} {x : α} (h : x ∈ l) : ∃ k, k < l.length ∧ ix l k = x := by
  obtain ⟨j, hj, he⟩ := List.mem_iff_getElem.1 h
  exact ⟨j, hj, by rw [← ix_eq hj]; exact he⟩
theorem fnd_no {α : Type} [Inhabited α] {p : α → Bool} {l : List α} (h : ∀ q, q < l.length → p (ix l q) = false) : l.find? p = none := by
  rw [List.find?_eq_none]
  intro x hx
  obtain ⟨k, hk, he⟩ := mem_ix hx
  rw [← he, h k hk]; simp
theorem fnd_at {α : Type} [Inhabited α] {p : α → Bool} {l : List α} {k : Nat} (hk : k < l.length) (h : ∀ q, q < k → p (ix l q) = false) (hp : p (ix l k) = true) : l.find? p = some (ix l k) := by
  rw [List.find?_eq_some_iff_getElem]
  refine ⟨hp, k, hk, ix_eq hk, fun j hj => ?_⟩
  rw [ix_eq (by omega), h j hj]; rfl
theorem all_no {α : Type} [Inhabited α] {p : α → Bool} {l : List α} {k : Nat} (hk : k < l.length) (h : p (ix l k) = false) : l.all p = false := by
  rw [List.all_eq_false]; exact ⟨_, ix_mem hk, by rw [h]; simp⟩
theorem all_yes {α : Type} [Inhabited α] {p : α → Bool} {l : List α} (h : ∀ q, q < l.length → p (ix l q) = true) : l.all p = true := by
  rw [List.all_eq_true]
  intro x hx
  obtain ⟨k, hk, he⟩ := mem_ix hx
  rw [← he]; exact h k hk

theorem mapX : Builder.Extra Tryz.prog Tryz.laysMap_ren where
  sizeBuilder := by kernel_rfl
  liesBuilder := by kernel_rfl
  t5 := Tryz.laysMap.t5
  a5 := Tryz.laysMap.a5
  z5 := Tryz.laysMap.z5
  v5 := Tryz.laysMap.v5
  infoByte := by kernel_rfl
  cellsByte := by kernel_rfl
  sizeByte := by kernel_rfl
  neB5 := by decide
def KK (w : World) (_ : Nat → Nat) : Prop := Lib.Utf8Tabs (Tryz.laysMap_ren.g 3) (Tryz.laysMap_ren.g 4) w
theorem kkst : KSt KK := kst_w (fun w w' h hb => Utf8Tabs_below h hb)
theorem capF_in (x : Nat) (h : x ≤ 1114111) : -2147483648 ≤ capF x ∧ capF x ≤ 2147483647 := by
  unfold capF
  repeat' split
  all_goals omega

set_option maxHeartbeats 4000000 in
set_option maxRecDepth 100000 in
theorem capC (r : Int) (h0 : 0 ≤ r) (h1 : r ≤ 1114111) : Ctr Tryz.prog 81 [.fl (.int .i32 r)] (.d (.fl (.int .i32 (capF r)))) := by
  refine ctr (n := 21) (rs := #[.tmp 2]) (L := [(0, .d (.fl (.int .i32 r)))]) Tryz.func81 rfl rfl rfl rfl rfl (fun w0 U0 => ?_)
  refine a_rseq ?_
  refine rg_put (d := 2) (v := .d (.fl (.int .i32 0))) rfl (og rfl (op_assign rfl rfl rfl)) ?_
  refine rg_done rfl ?_
  refine a_seq ?_
  refine a_block ?_
  refine a_rseq ?_
  refine rg_put (d := 4) (v := .d (.fl (.int .i32 r))) rfl (og rfl (op_move rfl rfl rfl)) ?_
  refine rg_put (d := 5) (v := .d (.fl (.bool (r == 32)))) rfl (og rfl (op_bin rfl rfl rfl (b_eql _ _ _ _) rfl)) ?_
  refine rg_put (d := 6) (v := .d (.fl (.bool (r == 32)))) rfl (og rfl (op_move rfl rfl rfl)) ?_
  rcases fot (r == 32) with h1 | h1
  · skip
    have h2 := f_beq h1
    refine rg_put (d := 7) (v := .d (.fl (.int .i32 r))) rfl (oy rfl rfl rfl h1 (op_move rfl rfl rfl)) ?_
    refine rg_put (d := 8) (v := .d (.fl (.bool (r == 45)))) rfl (oy rfl rfl rfl h1 (op_bin rfl rfl rfl (b_eql _ _ _ _) rfl)) ?_
    refine rg_put (d := 9) (v := .d (.fl (.bool (r == 45)))) rfl (og rfl (op_pick rfl rfl (by rw [h1]; rfl) rfl)) ?_
    refine rg_put (d := 3) (v := .d (.fl (.bool (r == 45)))) rfl (og rfl (op_assign rfl rfl rfl)) ?_
    refine rg_done rfl ?_
    refine a_cond rfl (fun h3 => ?_) (fun h3 => ?_)
    · skip
      have h4 := t_beq h3
      refine a_rseq ?_
      refine rg_put (d := 2) (v := .d (.fl (.int .i32 (-1)))) rfl (og rfl (op_assign rfl rfl rfl)) ?_
      refine rg_done rfl ?_
      refine a_ret ?_
      show ∃ ds, ResL _ _ _ ds ∧ RV.of ds = _
      refine ⟨[.fl (.int .i32 (-1))], (.cons (.tmp rfl (.d _)) .nil), ?_⟩
      rw [show capF r = -1 from if_pos (by omega)]; rfl
    · skip
      have h5 := f_beq h3
      refine a_rseq ?_
      refine rg_put (d := 11) (v := .d (.fl (.int .i32 r))) rfl (og rfl (op_move rfl rfl rfl)) ?_
      refine rg_put (d := 12) (v := .d (.fl (.bool ((decide (97 ≤ r)))))) rfl (og rfl (op_bin rfl rfl rfl (b_leq _ _ _ _) rfl)) ?_
      refine rg_put (d := 13) (v := .d (.fl (.bool ((decide (97 ≤ r)))))) rfl (og rfl (op_move rfl rfl rfl)) ?_
      rcases fot ((decide (97 ≤ r))) with h6 | h6
      · skip
        have h7 := f_dec h6
        refine rg_put (d := 14) (v := .d (.fl undef)) rfl (on rfl rfl rfl h6) ?_
        refine rg_put (d := 15) (v := .d (.fl undef)) rfl (on rfl rfl rfl h6) ?_
        refine rg_put (d := 16) (v := .d (.fl (.bool false))) rfl (og rfl (op_pick rfl rfl (by rw [h6]; rfl) rfl)) ?_
        refine rg_put (d := 10) (v := .d (.fl (.bool false))) rfl (og rfl (op_assign rfl rfl rfl)) ?_
        refine rg_done rfl ?_
        refine a_condF rfl rfl ?_
        refine a_skip ?_
        show A _ _ _ _ _ _ _
        refine a_rseq ?_
        refine rg_put (d := 20) (v := .d (.fl (.int .i32 r))) rfl (og rfl (op_move rfl rfl rfl)) ?_
        refine rg_put (d := 2) (v := .d (.fl (.int .i32 r))) rfl (og rfl (op_assign rfl rfl rfl)) ?_
        refine rg_done rfl ?_
        refine a_ret ?_
        show ∃ ds, ResL _ _ _ ds ∧ RV.of ds = _
        refine ⟨[.fl (.int .i32 r)], (.cons (.tmp rfl (.d _)) .nil), ?_⟩
        rw [show capF r = r from by unfold capF; rw [if_neg (by omega), if_neg (by omega)]]; rfl
      · skip
        have h8 := t_dec h6
        refine rg_put (d := 14) (v := .d (.fl (.int .i32 r))) rfl (oy rfl rfl rfl h6 (op_move rfl rfl rfl)) ?_
        refine rg_put (d := 15) (v := .d (.fl (.bool ((decide (r ≤ 122)))))) rfl (oy rfl rfl rfl h6 (op_bin rfl rfl rfl (b_leq _ _ _ _) rfl)) ?_
        refine rg_put (d := 16) (v := .d (.fl (.bool ((decide (r ≤ 122)))))) rfl (og rfl (op_pick rfl rfl (by rw [h6]; rfl) rfl)) ?_
        refine rg_put (d := 10) (v := .d (.fl (.bool ((decide (r ≤ 122)))))) rfl (og rfl (op_assign rfl rfl rfl)) ?_
        refine rg_done rfl ?_
        refine a_cond rfl (fun h9 => ?_) (fun h9 => ?_)
        · skip
          have h10 := t_dec h9
          refine a_rseq ?_
          refine rg_put (d := 17) (v := .d (.fl (.int .i32 r))) rfl (og rfl (op_move rfl rfl rfl)) ?_
          refine rg_put (d := 18) (v := .d (.fl (.int .i32 ((IntKind.i32.wrap (r - 97)))))) rfl (og rfl (op_bin rfl rfl rfl (b_sub _ _ _ _) rfl)) ?_
          refine rg_put (d := 19) (v := .d (.fl (.int .i32 ((IntKind.i32.wrap (((IntKind.i32.wrap (r - 97))) + 65)))))) rfl (og rfl (op_bin rfl rfl rfl (b_add _ _ _ _) rfl)) ?_
          refine rg_put (d := 2) (v := .d (.fl (.int .i32 ((IntKind.i32.wrap (((IntKind.i32.wrap (r - 97))) + 65)))))) rfl (og rfl (op_assign rfl rfl rfl)) ?_
          refine rg_done rfl ?_
          refine a_ret ?_
          show ∃ ds, ResL _ _ _ ds ∧ RV.of ds = _
          refine ⟨[.fl (.int .i32 ((IntKind.i32.wrap (((IntKind.i32.wrap (r - 97))) + 65))))], (.cons (.tmp rfl (.d _)) .nil), ?_⟩
          rw [show capF r = (IntKind.i32.wrap (((IntKind.i32.wrap (r - 97))) + 65)) from by unfold capF; rw [if_neg (by omega), if_pos (by omega), IntWalk.i32_in (r - 97) (by omega), IntWalk.i32_in (r - 97 + 65) (by omega)]]; rfl
        · skip
          have h11 := f_dec h9
          refine a_skip ?_
          show A _ _ _ _ _ _ _
          refine a_rseq ?_
          refine rg_put (d := 20) (v := .d (.fl (.int .i32 r))) rfl (og rfl (op_move rfl rfl rfl)) ?_
          refine rg_put (d := 2) (v := .d (.fl (.int .i32 r))) rfl (og rfl (op_assign rfl rfl rfl)) ?_
          refine rg_done rfl ?_
          refine a_ret ?_
          show ∃ ds, ResL _ _ _ ds ∧ RV.of ds = _
          refine ⟨[.fl (.int .i32 r)], (.cons (.tmp rfl (.d _)) .nil), ?_⟩
          rw [show capF r = r from by unfold capF; rw [if_neg (by omega), if_neg (by omega)]]; rfl
  · skip
    have h12 := t_beq h1
    refine rg_put (d := 7) (v := .d (.fl undef)) rfl (on rfl rfl rfl h1) ?_
    refine rg_put (d := 8) (v := .d (.fl undef)) rfl (on rfl rfl rfl h1) ?_
    refine rg_put (d := 9) (v := .d (.fl (.bool true))) rfl (og rfl (op_pick rfl rfl (by rw [h1]; rfl) rfl)) ?_
    refine rg_put (d := 3) (v := .d (.fl (.bool true))) rfl (og rfl (op_assign rfl rfl rfl)) ?_
    refine rg_done rfl ?_
    refine a_condK rfl rfl ?_
    refine a_rseq ?_
    refine rg_put (d := 2) (v := .d (.fl (.int .i32 (-1)))) rfl (og rfl (op_assign rfl rfl rfl)) ?_
    refine rg_done rfl ?_
    refine a_ret ?_
    show ∃ ds, ResL _ _ _ ds ∧ RV.of ds = _
    refine ⟨[.fl (.int .i32 (-1))], (.cons (.tmp rfl (.d _)) .nil), ?_⟩
    rw [show capF r = -1 from if_pos (by omega)]; rfl
theorem cap_pays (w : World) : MapGrows Tryz.prog 81 #[] capF w := by
  intro W x hx _
  have h := capC (x : Int) (by omega) (by omega) [.int .i32 (x : Int)] (fun _ => 0) W (Rds.cons (.fl _) Rds.nil)
  show Calls Tryz.prog 81 #[.int .i32 (x : Int)] W _
  refine Calls.mono h ?_
  rintro e w' ⟨v, U', rfl, hb, _, hr⟩
  have hv : v = .int .i32 (capF x) := rd_fl hr
  exact ⟨by rw [hv], hb⟩
theorem fn_val {w : World} {U : Nat → Nat} {v : Value} {g : Nat} (h : Rd w U v (.fn g [])) : v = .func (.func g) #[] #[] := by
  generalize hd : DV.fn g [] = d at h
  cases h with
  | fn f vs cs h hc =>
    injection hd with h1 h2
    subst h1 h2
    have : vs = #[] := by
      apply Array.eq_empty_of_size_eq_zero
      simpa using h
    rw [this]
  | _ => cases hd
theorem mapC (s : ByteArray) (hs : s.size < 35184372088832) : CtrK Tryz.prog KK 80 [.fn 81 [], .fl (.string s)] (.d (.fl (.string (mpS s)))) := by
  intro vals U w hK hR
  match vals, hR with
  | [], h => have := h.1; simp at this
  | [_], h => have := h.1; simp at this
  | _ :: _ :: _ :: _, h => have := h.1; simp at this
  | [a, b], h =>
    obtain ⟨h1, h2⟩ := h.inv_cons
    obtain ⟨h3, _⟩ := h2.inv_cons
    have e1 := fn_val h1
    have e2 : b = .string s := rd_fl h3
    subst e1 e2
    refine Calls.mono (Any.strings_Map_grows Tryz.laysMap mapX 81 #[] (fun args w => enters_of Tryz.func81 (by kernel_rfl) rfl args w) capF s w hs (cap_pays w) capF_in hK) ?_
    rintro e w' ⟨rfl, hb⟩
    exact ⟨_, U, rfl, hb, fun _ _ => rfl, .fl _⟩

theorem bt_all {s : ByteArray} {p : UInt8 → Bool} (h : ∀ q, q < s.size → p (bt s q) = true) : s.data.toList.all p = true := by
  rw [List.all_eq_true]
  intro x hx
  obtain ⟨k, hk, rfl⟩ := List.mem_iff_getElem.1 hx
  have hk' : k < s.size := by simpa using hk
  have := h k hk'
  unfold bt at this
  rwa [List.getD_eq_getElem?_getD, List.getElem?_eq_getElem hk] at this
theorem bt_mem {s : ByteArray} {k : Nat} (h : k < s.size) : bt s k ∈ s.data.toList := by
  have hk : k < s.data.toList.length := by simpa using h
  unfold bt
  rw [List.getD_eq_getElem?_getD, List.getElem?_eq_getElem hk]
  exact List.getElem_mem hk
theorem okb_t {b : UInt8} (h : (65 ≤ b.toNat ∧ b.toNat ≤ 90) ∨ (48 ≤ b.toNat ∧ b.toNat ≤ 57)) : okb b = true := by
  unfold okb
  simp only [Bool.or_eq_true, Bool.and_eq_true, decide_eq_true_eq]
  exact h
theorem okb_f {b : UInt8} (h : ¬ ((65 ≤ b.toNat ∧ b.toNat ≤ 90) ∨ (48 ≤ b.toNat ∧ b.toNat ≤ 57))) : okb b = false := by
  cases e : okb b with
  | false => rfl
  | true =>
    unfold okb at e
    simp only [Bool.or_eq_true, Bool.and_eq_true, decide_eq_true_eq] at e
    exact absurd e h
def nmI (s : ByteArray) : Int := bif nmG s then 0 else 19
theorem nm_f {s : ByteArray} (h : nmG s = false) : nmS s = ⟨#[]⟩ ∧ nmI s = 19 := by unfold nmS nmI; rw [h]; exact ⟨rfl, rfl⟩
theorem nm_t {s : ByteArray} (h : nmG s = true) : nmS s = ⟨(cS s).toArray⟩ ∧ nmI s = 0 := by unfold nmS nmI; rw [h]; exact ⟨rfl, rfl⟩
theorem mp_len {s : ByteArray} (h : ¬ (2 ≤ (mpS s).size ∧ (mpS s).size ≤ 10)) : nmG s = false := by
  rw [← nm_prog]
  by_cases h1 : 2 ≤ (mpS s).data.toList.length
  · rw [decide_eq_false (show ¬ (mpS s).data.toList.length ≤ 10 from fun h2 => h ⟨h1, h2⟩)]; simp
  · rw [decide_eq_false h1]; simp
theorem mp_bad {s : ByteArray} {k : Nat} (hk : k < (mpS s).size) (h : okb (bt (mpS s) k) = false) : nmG s = false := by
  rw [← nm_prog, show (mpS s).data.toList.all okb = false from List.all_eq_false.2 ⟨_, bt_mem hk, by rw [h]; simp⟩]
  simp
theorem mp_good {s : ByteArray} (h1 : 2 ≤ (mpS s).size) (h2 : (mpS s).size ≤ 10) (h : ∀ q, q < (mpS s).size → okb (bt (mpS s) q) = true) : nmG s = true ∧ mpS s = nmS s := by
  have ha := bt_all h
  have hg : nmG s = true := by
    rw [← nm_prog, ha, decide_eq_true (show 2 ≤ (mpS s).data.toList.length from h1), decide_eq_true (show (mpS s).data.toList.length ≤ 10 from h2)]; rfl
  refine ⟨hg, ?_⟩
  rw [(nm_t hg).1, (mp_all s).2 (nmG_in hg).2.2]
def nr (s : ByteArray) (k : Nat) : List Int := (cln (s.data.toList.take k)).map fun b => (b.toNat : Int)
theorem tk_bt {s : ByteArray} {k : Nat} (h : k < s.size) : s.data.toList.take (k + 1) = s.data.toList.take k ++ [bt s k] := by
  have hk : k < s.data.toList.length := by simpa using h
  unfold bt
  rw [List.getD_eq_getElem?_getD, List.getElem?_eq_getElem hk, List.take_add_one, List.getElem?_eq_getElem hk]; rfl
theorem cln_app (a b : List UInt8) : cln (a ++ b) = cln a ++ cln b := by unfold cln; rw [List.flatMap_append]
theorem cln_one (b : UInt8) : cln [b] = cb b := by simp [cln]
theorem nr_sk {s : ByteArray} {k : Nat} (h : k < s.size) (hb : (bt s k).toNat = 32 ∨ (bt s k).toNat = 45) : nr s (k + 1) = nr s k ∧ cln (s.data.toList.take (k + 1)) = cln (s.data.toList.take k) := by
  have e : cln (s.data.toList.take (k + 1)) = cln (s.data.toList.take k) := by
    rw [tk_bt h, cln_app, cln_one]; unfold cb; rw [if_pos hb, List.append_nil]
  exact ⟨by unfold nr; rw [e], e⟩
theorem n8 (n : Nat) (h : n < 256) : (n.toUInt8).toNat = n := by simp [Nat.toUInt8]; omega
theorem nr_up {s : ByteArray} {k : Nat} (h : k < s.size) (hb : 97 ≤ (bt s k).toNat ∧ (bt s k).toNat ≤ 122) : nr s (k + 1) = nr s k ++ [IntKind.u8.wrap (((bt s k).toNat : Int) - 32)] ∧ cln (s.data.toList.take (k + 1)) = cln (s.data.toList.take k) ++ [((bt s k).toNat - 32).toUInt8] := by
  have e : cln (s.data.toList.take (k + 1)) = cln (s.data.toList.take k) ++ [((bt s k).toNat - 32).toUInt8] := by
    rw [tk_bt h, cln_app, cln_one]; unfold cb; rw [if_neg (by omega), if_pos hb]
  refine ⟨?_, e⟩
  unfold nr
  rw [e, IntWalk.u8_in _ (by omega), List.map_append]
  simp only [List.map_cons, List.map_nil]
  rw [n8 _ (by omega), show (((bt s k).toNat - 32 : Nat) : Int) = ((bt s k).toNat : Int) - 32 by omega]
theorem nr_as {s : ByteArray} {k : Nat} (h : k < s.size) (h1 : ¬ ((bt s k).toNat = 32 ∨ (bt s k).toNat = 45)) (hb : ¬ (97 ≤ (bt s k).toNat ∧ (bt s k).toNat ≤ 122)) : nr s (k + 1) = nr s k ++ [((bt s k).toNat : Int)] ∧ cln (s.data.toList.take (k + 1)) = cln (s.data.toList.take k) ++ [bt s k] := by
  have e : cln (s.data.toList.take (k + 1)) = cln (s.data.toList.take k) ++ [bt s k] := by
    rw [tk_bt h, cln_app, cln_one]; unfold cb; rw [if_neg h1, if_neg hb]
  exact ⟨by unfold nr; rw [e, List.map_append]; rfl, e⟩
theorem nr_len {s : ByteArray} (k : Nat) : (nr s k).length ≤ s.size := by
  have key : ∀ l : List UInt8, (cln l).length ≤ l.length := by
    intro l
    induction l with
    | nil => simp [cln]
    | cons b l ih =>
      have hc : (cb b).length ≤ 1 := by unfold cb; repeat' split <;> simp
      have : cln (b :: l) = cb b ++ cln l := by simp [cln]
      rw [this, List.length_append, List.length_cons]; omega
  unfold nr
  rw [List.length_map]
  have h1 := key (s.data.toList.take k)
  rw [List.length_take] at h1
  have h2 : s.data.toList.length = s.size := rfl
  omega
theorem cln_pre {s : ByteArray} {k : Nat} {x : UInt8} (h : x ∈ cln (s.data.toList.take k)) : x ∈ cS s := by
  unfold cS
  rw [← List.take_append_drop k s.data.toList, cln_app]
  exact List.mem_append.2 (.inl h)
theorem nr_bad {s : ByteArray} {k : Nat} {x : UInt8} {A : List UInt8} (h : cln (s.data.toList.take k) = A ++ [x]) (hx : okb x = false) : nmG s = false := by
  unfold nmG
  rw [show (cS s).all okb = false from List.all_eq_false.2 ⟨x, cln_pre (k := k) (by rw [h]; simp), by rw [hx]; simp⟩]
  simp
theorem nr_end {s : ByteArray} {k : Nat} (h : k = s.size) : nr s k = (cS s).map (fun b => (b.toNat : Int)) ∧ cln (s.data.toList.take k) = cS s := by
  have e : s.data.toList.take k = s.data.toList := List.take_of_length_le (by rw [h]; exact Nat.le_refl _)
  unfold nr cS; rw [e]; exact ⟨rfl, rfl⟩
theorem ibs_of (l : List UInt8) : ibs (l.map fun b => (b.toNat : Int)) = ⟨l.toArray⟩ := by
  rw [ibs_eq, List.map_map]
  congr 2
  conv => rhs; rw [← List.map_id l]
  apply List.map_congr_left
  intro b _
  simp
theorem nm_lenF {s : ByteArray} (h : ¬ (2 ≤ (cS s).length ∧ (cS s).length ≤ 10)) : nmG s = false := by
  unfold nmG
  by_cases h1 : 2 ≤ (cS s).length
  · rw [decide_eq_false (show ¬ (cS s).length ≤ 10 from fun h2 => h ⟨h1, h2⟩)]; simp
  · rw [decide_eq_false h1]; simp
theorem nm_of {s : ByteArray} (h1 : 2 ≤ (cS s).length) (h2 : (cS s).length ≤ 10) (h : (cS s).all okb = true) : nmG s = true := by
  unfold nmG; rw [decide_eq_true h1, decide_eq_true h2, h]; rfl

set_option maxHeartbeats 4000000 in
set_option maxRecDepth 100000 in
theorem norC (s : ByteArray) (hs : s.size ≤ 100000) : CtrK Tryz.prog KK 44 [.fl (.string s)] (.tu [.fl (.string (nmS s)), .fl (.int .i64 (nmI s))]) := by
  refine ctrK (n := 40) (rs := #[.tmp 2, .tmp 3]) (L := [(0, .d (.fl (.string s)))]) Tryz.func44 rfl rfl rfl rfl rfl (fun w0 U0 hG => ?_)
  refine a_rseq ?_
  refine rg_put (d := 2) (v := .d (.fl (.string (⟨#[]⟩)))) rfl (og rfl (op_assign rfl rfl rfl)) ?_
  refine rg_put (d := 3) (v := .d (.fl (.int .i64 0))) rfl (og rfl (op_assign rfl rfl rfl)) ?_
  refine rg_done rfl ?_
  refine a_rseq ?_
  refine rg_put (d := 6) (v := .d (.fl (.string s))) rfl (og rfl (op_move rfl rfl rfl)) ?_
  refine rg_put (d := 7) (v := .d (.fl (.string (mpS s)))) rfl (og rfl (op_callK kkst hG rfl Tryz.func80 nm80 rfl (.cons rfl (.d _) (.cons rfl (.d _) .nil)) ((mapC s (by omega))) rfl)) ?_
  refine rg_put (d := 0) (v := .d (.fl (.string (mpS s)))) rfl (og rfl (op_assign rfl rfl rfl)) ?_
  refine rg_done rfl ?_
  refine a_seq ?_
  refine a_rseq ?_
  refine rg_put (d := 8) (v := .d (.fl (.string (mpS s)))) rfl (og rfl (op_move rfl rfl rfl)) ?_
  refine rg_put (d := 9) (v := .d (.fl (.int .i64 (((mpS s).size : Int))))) rfl (og rfl (op_len_str rfl Tryz.underlying9 rfl rfl)) ?_
  refine rg_put (d := 10) (v := .d (.fl (.bool ((decide (((mpS s).size : Int) < 2)))))) rfl (og rfl (op_bin rfl rfl rfl (b_lss _ _ _ _) rfl)) ?_
  refine rg_put (d := 11) (v := .d (.fl (.bool ((decide (((mpS s).size : Int) < 2)))))) rfl (og rfl (op_move rfl rfl rfl)) ?_
  rcases fot ((decide (((mpS s).size : Int) < 2))) with h1 | h1
  · skip
    have h2 := f_dec h1
    refine rg_put (d := 12) (v := .d (.fl (.string (mpS s)))) rfl (oy rfl rfl rfl h1 (op_move rfl rfl rfl)) ?_
    refine rg_put (d := 13) (v := .d (.fl (.int .i64 (((mpS s).size : Int))))) rfl (oy rfl rfl rfl h1 (op_len_str rfl Tryz.underlying9 rfl rfl)) ?_
    refine rg_put (d := 14) (v := .d (.fl (.bool ((decide (10 < ((mpS s).size : Int))))))) rfl (oy rfl rfl rfl h1 (op_bin rfl rfl rfl (b_gtr _ _ _ _) rfl)) ?_
    refine rg_put (d := 15) (v := .d (.fl (.bool ((decide (10 < ((mpS s).size : Int))))))) rfl (og rfl (op_pick rfl rfl (by rw [h1]; rfl) rfl)) ?_
    refine rg_done rfl ?_
    refine a_cond rfl (fun h3 => ?_) (fun h3 => ?_)
    · skip
      have h4 := t_dec h3
      refine a_rseq ?_
      refine rg_put (d := 2) (v := .d (.fl (.string (⟨#[]⟩)))) rfl (og rfl (op_assign rfl rfl rfl)) ?_
      refine rg_put (d := 3) (v := .d (.fl (.int .i64 19))) rfl (og rfl (op_assign rfl rfl rfl)) ?_
      refine rg_done rfl ?_
      refine a_ret ?_
      show ∃ ds, ResL _ _ _ ds ∧ RV.of ds = _
      refine ⟨[.fl (.string (⟨#[]⟩)), .fl (.int .i64 19)], (.cons (.tmp rfl (.d _)) (.cons (.tmp rfl (.d _)) .nil)), ?_⟩
      obtain ⟨g1, g2⟩ := nm_f (s := s) (mp_len (by omega))
      rw [g1, g2]; rfl
    · skip
      have h5 := f_dec h3
      refine a_skip ?_
      show A _ _ _ _ _ _ _
      refine a_seq ?_
      refine a_rseq ?_
      refine rg_put (d := 16) (v := .d (.fl (.string (mpS s)))) rfl (og rfl (op_move rfl rfl rfl)) ?_
      refine rg_put (d := 17) (v := .d (.fl (.int .i64 (((mpS s).size : Int))))) rfl (og rfl (op_len_str rfl Tryz.underlying9 rfl rfl)) ?_
      refine rg_put (d := 18) (v := .d (.fl (.int .i64 0))) rfl (og rfl (op_move rfl rfl rfl)) ?_
      refine rg_done rfl ?_
      refine a_block ?_
      refine a_loop (ι := Nat) (fun k => SS [(0, .d (.fl (.string (mpS s)))), (15, .d (.fl (.bool ((decide (10 < ((mpS s).size : Int))))))), (17, .d (.fl (.int .i64 (((mpS s).size : Int))))), (18, .d (.fl (.int .i64 (k : Int))))] []) (fun k => k ≤ (mpS s).size ∧ ∀ q, q < k → okb (bt (mpS s) q) = true) (fun k => (mpS s).size - k) 0 (⟨by omega, fun q h => by omega⟩) (imp_forget rfl ⟨rfl, rfl, rfl, (by first | rfl | exact ci (by omega) | exact ci (by simp) | exact cd (by simp) | simp), trivial⟩ trivial) (fun k hok => ?_)
      obtain ⟨hk, hq⟩ := hok
      refine a_rseq ?_
      refine rg_put (d := 19) (v := .d (.fl (.bool ((decide ((k : Int) < ((mpS s).size : Int))))))) rfl (og rfl (op_bin rfl rfl rfl (b_lss _ _ _ _) rfl)) ?_
      refine rg_done rfl ?_
      refine a_seq ?_
      refine a_cond rfl (fun h6 => ?_) (fun h6 => ?_)
      · skip
        have h7 := t_dec h6
        refine a_skip ?_
        show A _ _ _ _ _ _ _
        refine a_seq ?_
        refine a_block ?_
        refine a_rseq ?_
        refine rg_put (d := 20) (v := .d (.fl (.int .i64 (k : Int)))) rfl (og rfl (op_move rfl rfl rfl)) ?_
        refine rg_put (d := 4) (v := .d (.fl (.int .i64 (k : Int)))) rfl (og rfl (op_assign rfl rfl rfl)) ?_
        refine rg_done rfl ?_
        refine a_rseq ?_
        refine rg_put (d := 21) (v := .d (.fl (.string (mpS s)))) rfl (og rfl (op_move rfl rfl rfl)) ?_
        refine rg_put (d := 22) (v := .d (.fl (.int .i64 (k : Int)))) rfl (og rfl (op_move rfl rfl rfl)) ?_
        refine rg_put (d := 23) (v := .d (.fl (.int .u8 (((bt (mpS s) k).toNat : Int))))) rfl (og rfl (op_strindex rfl Tryz.underlying9 rfl rfl (by omega) (byte_ix (by omega)) rfl)) ?_
        refine rg_put (d := 5) (v := .d (.fl (.int .u8 (((bt (mpS s) k).toNat : Int))))) rfl (og rfl (op_assign rfl rfl rfl)) ?_
        refine rg_done rfl ?_
        refine a_rseq ?_
        refine rg_put (d := 24) (v := .d (.fl (.int .u8 (((bt (mpS s) k).toNat : Int))))) rfl (og rfl (op_move rfl rfl rfl)) ?_
        refine rg_put (d := 25) (v := .d (.fl (.bool ((decide (((bt (mpS s) k).toNat : Int) < 65)))))) rfl (og rfl (op_bin rfl rfl rfl (b_lss _ _ _ _) rfl)) ?_
        refine rg_put (d := 26) (v := .d (.fl (.bool ((decide (((bt (mpS s) k).toNat : Int) < 65)))))) rfl (og rfl (op_move rfl rfl rfl)) ?_
        rcases fot ((decide (((bt (mpS s) k).toNat : Int) < 65))) with h8 | h8
        · skip
          have h9 := f_dec h8
          refine rg_put (d := 27) (v := .d (.fl (.int .u8 (((bt (mpS s) k).toNat : Int))))) rfl (oy rfl rfl rfl h8 (op_move rfl rfl rfl)) ?_
          refine rg_put (d := 28) (v := .d (.fl (.bool ((decide (90 < ((bt (mpS s) k).toNat : Int))))))) rfl (oy rfl rfl rfl h8 (op_bin rfl rfl rfl (b_gtr _ _ _ _) rfl)) ?_
          refine rg_put (d := 29) (v := .d (.fl (.bool ((decide (90 < ((bt (mpS s) k).toNat : Int))))))) rfl (og rfl (op_pick rfl rfl (by rw [h8]; rfl) rfl)) ?_
          refine rg_put (d := 30) (v := .d (.fl (.bool ((decide (90 < ((bt (mpS s) k).toNat : Int))))))) rfl (og rfl (op_move rfl rfl rfl)) ?_
          rcases fot ((decide (90 < ((bt (mpS s) k).toNat : Int)))) with h10 | h10
          · skip
            have h11 := f_dec h10
            refine rg_put (d := 31) (v := .d (.fl undef)) rfl (on rfl rfl rfl h10) ?_
            refine rg_put (d := 32) (v := .d (.fl undef)) rfl (on rfl rfl rfl h10) ?_
            refine rg_put (d := 33) (v := .d (.fl undef)) rfl (on rfl rfl rfl h10) ?_
            refine rg_put (d := 34) (v := .d (.fl undef)) rfl (ou rfl rfl rfl) ?_
            refine rg_put (d := 35) (v := .d (.fl undef)) rfl (ou rfl rfl rfl) ?_
            refine rg_put (d := 36) (v := .d (.fl undef)) rfl (on rfl rfl rfl h10) ?_
            refine rg_put (d := 37) (v := .d (.fl (.bool false))) rfl (og rfl (op_pick rfl rfl (by rw [h10]; rfl) rfl)) ?_
            refine rg_done rfl ?_
            refine a_condF rfl rfl ?_
            refine a_skip ?_
            show A _ _ _ _ _ _ _
            refine a_region ?_
            refine rg_put (d := 38) (v := .d (.fl (.int .i64 (((k : Int) + 1))))) rfl (og rfl (op_bin rfl rfl rfl (fun x y w => b_add64 _ _ _ x y w (by omega)) rfl)) ?_
            refine rg_put (d := 18) (v := .d (.fl (.int .i64 (((k : Int) + 1))))) rfl (og rfl (op_move rfl rfl rfl)) ?_
            refine rg_done rfl ?_
            have hx : okb (bt (mpS s) k) = true := okb_t (by omega)
            show ∃ i, _ ∧ _ ∧ Imp _ _ _ _ _
            refine ⟨k + 1, ⟨by omega, fun q h => (Nat.lt_succ_iff_lt_or_eq.1 h).elim (hq q) (fun e => by rw [e]; exact hx)⟩, by omega, imp_forget rfl ⟨rfl, rfl, rfl, (by first | rfl | exact ci (by omega) | exact ci (by simp) | exact cd (by simp) | simp), trivial⟩ trivial⟩
          · skip
            have h12 := t_dec h10
            refine rg_put (d := 31) (v := .d (.fl (.int .u8 (((bt (mpS s) k).toNat : Int))))) rfl (oy rfl rfl rfl h10 (op_move rfl rfl rfl)) ?_
            refine rg_put (d := 32) (v := .d (.fl (.bool ((decide (((bt (mpS s) k).toNat : Int) < 48)))))) rfl (oy rfl rfl rfl h10 (op_bin rfl rfl rfl (b_lss _ _ _ _) rfl)) ?_
            refine rg_put (d := 33) (v := .d (.fl (.bool ((decide (((bt (mpS s) k).toNat : Int) < 48)))))) rfl (oy rfl rfl rfl h10 (op_move rfl rfl rfl)) ?_
            rcases fot ((decide (((bt (mpS s) k).toNat : Int) < 48))) with h13 | h13
            · skip
              have h14 := f_dec h13
              refine rg_put (d := 34) (v := .d (.fl (.int .u8 (((bt (mpS s) k).toNat : Int))))) rfl (oy rfl rfl rfl h13 (op_move rfl rfl rfl)) ?_
              refine rg_put (d := 35) (v := .d (.fl (.bool ((decide (57 < ((bt (mpS s) k).toNat : Int))))))) rfl (oy rfl rfl rfl h13 (op_bin rfl rfl rfl (b_gtr _ _ _ _) rfl)) ?_
              refine rg_put (d := 36) (v := .d (.fl (.bool ((decide (57 < ((bt (mpS s) k).toNat : Int))))))) rfl (oy rfl rfl rfl h10 (op_pick rfl rfl (by rw [h13]; rfl) rfl)) ?_
              refine rg_put (d := 37) (v := .d (.fl (.bool ((decide (57 < ((bt (mpS s) k).toNat : Int))))))) rfl (og rfl (op_pick rfl rfl (by rw [h10]; rfl) rfl)) ?_
              refine rg_done rfl ?_
              refine a_cond rfl (fun h15 => ?_) (fun h15 => ?_)
              · skip
                have h16 := t_dec h15
                refine a_rseq ?_
                refine rg_put (d := 2) (v := .d (.fl (.string (⟨#[]⟩)))) rfl (og rfl (op_assign rfl rfl rfl)) ?_
                refine rg_put (d := 3) (v := .d (.fl (.int .i64 19))) rfl (og rfl (op_assign rfl rfl rfl)) ?_
                refine rg_done rfl ?_
                refine a_ret ?_
                show ∃ ds, ResL _ _ _ ds ∧ RV.of ds = _
                refine ⟨[.fl (.string (⟨#[]⟩)), .fl (.int .i64 19)], (.cons (.tmp rfl (.d _)) (.cons (.tmp rfl (.d _)) .nil)), ?_⟩
                have hx : okb (bt (mpS s) k) = false := okb_f (by omega)
                obtain ⟨g1, g2⟩ := nm_f (mp_bad (by omega) hx)
                rw [g1, g2]; rfl
              · skip
                have h17 := f_dec h15
                refine a_skip ?_
                show A _ _ _ _ _ _ _
                refine a_region ?_
                refine rg_put (d := 38) (v := .d (.fl (.int .i64 (((k : Int) + 1))))) rfl (og rfl (op_bin rfl rfl rfl (fun x y w => b_add64 _ _ _ x y w (by omega)) rfl)) ?_
                refine rg_put (d := 18) (v := .d (.fl (.int .i64 (((k : Int) + 1))))) rfl (og rfl (op_move rfl rfl rfl)) ?_
                refine rg_done rfl ?_
                have hx : okb (bt (mpS s) k) = true := okb_t (by omega)
                show ∃ i, _ ∧ _ ∧ Imp _ _ _ _ _
                refine ⟨k + 1, ⟨by omega, fun q h => (Nat.lt_succ_iff_lt_or_eq.1 h).elim (hq q) (fun e => by rw [e]; exact hx)⟩, by omega, imp_forget rfl ⟨rfl, rfl, rfl, (by first | rfl | exact ci (by omega) | exact ci (by simp) | exact cd (by simp) | simp), trivial⟩ trivial⟩
            · skip
              have h18 := t_dec h13
              refine rg_put (d := 34) (v := .d (.fl undef)) rfl (on rfl rfl rfl h13) ?_
              refine rg_put (d := 35) (v := .d (.fl undef)) rfl (on rfl rfl rfl h13) ?_
              refine rg_put (d := 36) (v := .d (.fl (.bool true))) rfl (oy rfl rfl rfl h10 (op_pick rfl rfl (by rw [h13]; rfl) rfl)) ?_
              refine rg_put (d := 37) (v := .d (.fl (.bool true))) rfl (og rfl (op_pick rfl rfl (by rw [h10]; rfl) rfl)) ?_
              refine rg_done rfl ?_
              refine a_condK rfl rfl ?_
              refine a_rseq ?_
              refine rg_put (d := 2) (v := .d (.fl (.string (⟨#[]⟩)))) rfl (og rfl (op_assign rfl rfl rfl)) ?_
              refine rg_put (d := 3) (v := .d (.fl (.int .i64 19))) rfl (og rfl (op_assign rfl rfl rfl)) ?_
              refine rg_done rfl ?_
              refine a_ret ?_
              show ∃ ds, ResL _ _ _ ds ∧ RV.of ds = _
              refine ⟨[.fl (.string (⟨#[]⟩)), .fl (.int .i64 19)], (.cons (.tmp rfl (.d _)) (.cons (.tmp rfl (.d _)) .nil)), ?_⟩
              have hx : okb (bt (mpS s) k) = false := okb_f (by omega)
              obtain ⟨g1, g2⟩ := nm_f (mp_bad (by omega) hx)
              rw [g1, g2]; rfl
        · skip
          have h19 := t_dec h8
          refine rg_put (d := 27) (v := .d (.fl undef)) rfl (on rfl rfl rfl h8) ?_
          refine rg_put (d := 28) (v := .d (.fl undef)) rfl (on rfl rfl rfl h8) ?_
          refine rg_put (d := 29) (v := .d (.fl (.bool true))) rfl (og rfl (op_pick rfl rfl (by rw [h8]; rfl) rfl)) ?_
          refine rg_put (d := 30) (v := .d (.fl (.bool true))) rfl (og rfl (op_move rfl rfl rfl)) ?_
          refine rg_put (d := 31) (v := .d (.fl (.int .u8 (((bt (mpS s) k).toNat : Int))))) rfl (oy rfl rfl rfl rfl (op_move rfl rfl rfl)) ?_
          refine rg_put (d := 32) (v := .d (.fl (.bool ((decide (((bt (mpS s) k).toNat : Int) < 48)))))) rfl (oy rfl rfl rfl rfl (op_bin rfl rfl rfl (b_lss _ _ _ _) rfl)) ?_
          refine rg_put (d := 33) (v := .d (.fl (.bool ((decide (((bt (mpS s) k).toNat : Int) < 48)))))) rfl (oy rfl rfl rfl rfl (op_move rfl rfl rfl)) ?_
          rcases fot ((decide (((bt (mpS s) k).toNat : Int) < 48))) with h20 | h20
          · skip
            have h21 := f_dec h20
            refine rg_put (d := 34) (v := .d (.fl (.int .u8 (((bt (mpS s) k).toNat : Int))))) rfl (oy rfl rfl rfl h20 (op_move rfl rfl rfl)) ?_
            refine rg_put (d := 35) (v := .d (.fl (.bool ((decide (57 < ((bt (mpS s) k).toNat : Int))))))) rfl (oy rfl rfl rfl h20 (op_bin rfl rfl rfl (b_gtr _ _ _ _) rfl)) ?_
            refine rg_put (d := 36) (v := .d (.fl (.bool ((decide (57 < ((bt (mpS s) k).toNat : Int))))))) rfl (oy rfl rfl rfl rfl (op_pick rfl rfl (by rw [h20]; rfl) rfl)) ?_
            refine rg_put (d := 37) (v := .d (.fl (.bool ((decide (57 < ((bt (mpS s) k).toNat : Int))))))) rfl (og rfl (op_pick rfl rfl rfl rfl)) ?_
            refine rg_done rfl ?_
            refine a_cond rfl (fun h22 => ?_) (fun h22 => ?_)
            · skip
              have h23 := t_dec h22
              refine a_rseq ?_
              refine rg_put (d := 2) (v := .d (.fl (.string (⟨#[]⟩)))) rfl (og rfl (op_assign rfl rfl rfl)) ?_
              refine rg_put (d := 3) (v := .d (.fl (.int .i64 19))) rfl (og rfl (op_assign rfl rfl rfl)) ?_
              refine rg_done rfl ?_
              refine a_ret ?_
              show ∃ ds, ResL _ _ _ ds ∧ RV.of ds = _
              refine ⟨[.fl (.string (⟨#[]⟩)), .fl (.int .i64 19)], (.cons (.tmp rfl (.d _)) (.cons (.tmp rfl (.d _)) .nil)), ?_⟩
              have hx : okb (bt (mpS s) k) = false := okb_f (by omega)
              obtain ⟨g1, g2⟩ := nm_f (mp_bad (by omega) hx)
              rw [g1, g2]; rfl
            · skip
              have h24 := f_dec h22
              refine a_skip ?_
              show A _ _ _ _ _ _ _
              refine a_region ?_
              refine rg_put (d := 38) (v := .d (.fl (.int .i64 (((k : Int) + 1))))) rfl (og rfl (op_bin rfl rfl rfl (fun x y w => b_add64 _ _ _ x y w (by omega)) rfl)) ?_
              refine rg_put (d := 18) (v := .d (.fl (.int .i64 (((k : Int) + 1))))) rfl (og rfl (op_move rfl rfl rfl)) ?_
              refine rg_done rfl ?_
              have hx : okb (bt (mpS s) k) = true := okb_t (by omega)
              show ∃ i, _ ∧ _ ∧ Imp _ _ _ _ _
              refine ⟨k + 1, ⟨by omega, fun q h => (Nat.lt_succ_iff_lt_or_eq.1 h).elim (hq q) (fun e => by rw [e]; exact hx)⟩, by omega, imp_forget rfl ⟨rfl, rfl, rfl, (by first | rfl | exact ci (by omega) | exact ci (by simp) | exact cd (by simp) | simp), trivial⟩ trivial⟩
          · skip
            have h25 := t_dec h20
            refine rg_put (d := 34) (v := .d (.fl undef)) rfl (on rfl rfl rfl h20) ?_
            refine rg_put (d := 35) (v := .d (.fl undef)) rfl (on rfl rfl rfl h20) ?_
            refine rg_put (d := 36) (v := .d (.fl (.bool true))) rfl (oy rfl rfl rfl rfl (op_pick rfl rfl (by rw [h20]; rfl) rfl)) ?_
            refine rg_put (d := 37) (v := .d (.fl (.bool true))) rfl (og rfl (op_pick rfl rfl rfl rfl)) ?_
            refine rg_done rfl ?_
            refine a_condK rfl rfl ?_
            refine a_rseq ?_
            refine rg_put (d := 2) (v := .d (.fl (.string (⟨#[]⟩)))) rfl (og rfl (op_assign rfl rfl rfl)) ?_
            refine rg_put (d := 3) (v := .d (.fl (.int .i64 19))) rfl (og rfl (op_assign rfl rfl rfl)) ?_
            refine rg_done rfl ?_
            refine a_ret ?_
            show ∃ ds, ResL _ _ _ ds ∧ RV.of ds = _
            refine ⟨[.fl (.string (⟨#[]⟩)), .fl (.int .i64 19)], (.cons (.tmp rfl (.d _)) (.cons (.tmp rfl (.d _)) .nil)), ?_⟩
            have hx : okb (bt (mpS s) k) = false := okb_f (by omega)
            obtain ⟨g1, g2⟩ := nm_f (mp_bad (by omega) hx)
            rw [g1, g2]; rfl
      · skip
        have h26 := f_dec h6
        refine a_exit ?_
        show A _ _ _ _ _ _ _
        refine a_rseq ?_
        refine rg_put (d := 39) (v := .d (.fl (.string (mpS s)))) rfl (og rfl (op_move rfl rfl rfl)) ?_
        refine rg_put (d := 2) (v := .d (.fl (.string (mpS s)))) rfl (og rfl (op_assign rfl rfl rfl)) ?_
        refine rg_put (d := 3) (v := .d (.fl (.int .i64 0))) rfl (og rfl (op_assign rfl rfl rfl)) ?_
        refine rg_done rfl ?_
        refine a_ret ?_
        show ∃ ds, ResL _ _ _ ds ∧ RV.of ds = _
        refine ⟨[.fl (.string (mpS s)), .fl (.int .i64 0)], (.cons (.tmp rfl (.d _)) (.cons (.tmp rfl (.d _)) .nil)), ?_⟩
        obtain ⟨g1, g2⟩ := mp_good (s := s) (by omega) (by omega) (fun q h => hq q (by omega))
        rw [← g2, (nm_t g1).2]; rfl
  · skip
    have h27 := t_dec h1
    refine rg_put (d := 12) (v := .d (.fl undef)) rfl (on rfl rfl rfl h1) ?_
    refine rg_put (d := 13) (v := .d (.fl undef)) rfl (on rfl rfl rfl h1) ?_
    refine rg_put (d := 14) (v := .d (.fl undef)) rfl (on rfl rfl rfl h1) ?_
    refine rg_put (d := 15) (v := .d (.fl (.bool true))) rfl (og rfl (op_pick rfl rfl (by rw [h1]; rfl) rfl)) ?_
    refine rg_done rfl ?_
    refine a_condK rfl rfl ?_
    refine a_rseq ?_
    refine rg_put (d := 2) (v := .d (.fl (.string (⟨#[]⟩)))) rfl (og rfl (op_assign rfl rfl rfl)) ?_
    refine rg_put (d := 3) (v := .d (.fl (.int .i64 19))) rfl (og rfl (op_assign rfl rfl rfl)) ?_
    refine rg_done rfl ?_
    refine a_ret ?_
    show ∃ ds, ResL _ _ _ ds ∧ RV.of ds = _
    refine ⟨[.fl (.string (⟨#[]⟩)), .fl (.int .i64 19)], (.cons (.tmp rfl (.d _)) (.cons (.tmp rfl (.d _)) .nil)), ?_⟩
    obtain ⟨g1, g2⟩ := nm_f (s := s) (mp_len (by omega))
    rw [g1, g2]; rfl
set_option maxHeartbeats 4000000 in
set_option maxRecDepth 100000 in
theorem norR (s : ByteArray) (hs : s.size ≤ 100000) : Ctr Tryz.prog 31 [.fl (.string s)] (.tu [.fl (.string (nmS s)), .fl (.int .i64 (nmI s))]) := by
  refine ctr (n := 59) (rs := #[.tmp 2, .tmp 3]) (L := [(0, .d (.fl (.string s)))]) Tryz.func31 rfl rfl rfl rfl rfl (fun w0 U0 => ?_)
  refine a_rseq ?_
  refine rg_put (d := 2) (v := .d (.fl (.string (⟨#[]⟩)))) rfl (og rfl (op_assign rfl rfl rfl)) ?_
  refine rg_put (d := 3) (v := .d (.fl (.int .i64 0))) rfl (og rfl (op_assign rfl rfl rfl)) ?_
  refine rg_done rfl ?_
  refine a_rseq ?_
  refine rg_put (d := 4) (v := .d (.fl (.slice none 0 0))) rfl (og rfl (op_assign rfl rfl rfl)) ?_
  refine rg_done rfl ?_
  refine a_seq ?_
  refine a_rseq ?_
  refine rg_imp (imp_nilT 4 101 5 1 rfl rfl) ?_
  refine rg_put (d := 5) (v := .d (.fl (.int .i64 0))) rfl (og rfl (op_assign rfl rfl rfl)) ?_
  refine rg_done rfl ?_
  refine a_block ?_
  refine a_loop (ι := Nat) (fun k => SS [(0, .d (.fl (.string s))), (5, .d (.fl (.int .i64 (k : Int)))), (4, .ow 101)] [(101, .tr 5 1 (tD (rI .u8) (nr s k)))]) (fun k => k ≤ s.size ∧ (cln (s.data.toList.take k)).all okb = true) (fun k => s.size - k) 0 (⟨by omega, rfl⟩) (imp_forget rfl ⟨rfl, (by first | rfl | exact ci (by omega) | exact ci (by simp) | exact cd (by simp) | simp), (by first | rfl | exact ci (by omega) | exact ci (by simp) | exact cd (by simp) | simp), trivial⟩ ⟨rfl, trivial⟩) (fun k hok => ?_)
  obtain ⟨hk, ha⟩ := hok
  have hnl := nr_len (s := s) k
  refine a_seq ?_
  refine a_rseq ?_
  refine rg_put (d := 7) (v := .d (.fl (.int .i64 (k : Int)))) rfl (og rfl (op_move rfl rfl rfl)) ?_
  refine rg_put (d := 8) (v := .d (.fl (.string s))) rfl (og rfl (op_move rfl rfl rfl)) ?_
  refine rg_put (d := 9) (v := .d (.fl (.int .i64 (s.size : Int)))) rfl (og rfl (op_len_str rfl Tryz.underlying9 rfl rfl)) ?_
  refine rg_put (d := 10) (v := .d (.fl (.bool ((decide ((k : Int) < (s.size : Int))))))) rfl (og rfl (op_bin rfl rfl rfl (b_lss _ _ _ _) rfl)) ?_
  refine rg_done rfl ?_
  refine a_cond rfl (fun h1 => ?_) (fun h1 => ?_)
  · skip
    have h2 := t_dec h1
    refine a_skip ?_
    show A _ _ _ _ _ _ _
    refine a_seq ?_
    refine a_block ?_
    refine a_rseq ?_
    refine rg_put (d := 13) (v := .d (.fl (.string s))) rfl (og rfl (op_move rfl rfl rfl)) ?_
    refine rg_put (d := 14) (v := .d (.fl (.int .i64 (k : Int)))) rfl (og rfl (op_move rfl rfl rfl)) ?_
    refine rg_put (d := 15) (v := .d (.fl (.int .u8 (((bt s k).toNat : Int))))) rfl (og rfl (op_strindex rfl Tryz.underlying9 rfl rfl (by omega) (byte_ix (by omega)) rfl)) ?_
    refine rg_put (d := 6) (v := .d (.fl (.int .u8 (((bt s k).toNat : Int))))) rfl (og rfl (op_assign rfl rfl rfl)) ?_
    refine rg_done rfl ?_
    refine a_seq ?_
    refine a_rseq ?_
    refine rg_put (d := 16) (v := .d (.fl (.int .u8 (((bt s k).toNat : Int))))) rfl (og rfl (op_move rfl rfl rfl)) ?_
    refine rg_put (d := 17) (v := .d (.fl (.bool ((((bt s k).toNat : Int) == 32))))) rfl (og rfl (op_bin rfl rfl rfl (b_eql _ _ _ _) rfl)) ?_
    refine rg_put (d := 18) (v := .d (.fl (.bool ((((bt s k).toNat : Int) == 32))))) rfl (og rfl (op_move rfl rfl rfl)) ?_
    rcases fot ((((bt s k).toNat : Int) == 32)) with h3 | h3
    · skip
      have h4 := f_beq h3
      refine rg_put (d := 19) (v := .d (.fl (.int .u8 (((bt s k).toNat : Int))))) rfl (oy rfl rfl rfl h3 (op_move rfl rfl rfl)) ?_
      refine rg_put (d := 20) (v := .d (.fl (.bool ((((bt s k).toNat : Int) == 45))))) rfl (oy rfl rfl rfl h3 (op_bin rfl rfl rfl (b_eql _ _ _ _) rfl)) ?_
      refine rg_put (d := 21) (v := .d (.fl (.bool ((((bt s k).toNat : Int) == 45))))) rfl (og rfl (op_pick rfl rfl (by rw [h3]; rfl) rfl)) ?_
      refine rg_done rfl ?_
      refine a_cond rfl (fun h5 => ?_) (fun h5 => ?_)
      · skip
        have h6 := t_beq h5
        refine a_exit ?_
        show A _ _ _ _ _ _ _
        refine a_region ?_
        refine rg_put (d := 11) (v := .d (.fl (.int .i64 (k : Int)))) rfl (og rfl (op_move rfl rfl rfl)) ?_
        refine rg_put (d := 12) (v := .d (.fl (.int .i64 (((k : Int) + 1))))) rfl (og rfl (op_bin rfl rfl rfl (fun x y w => b_add64 _ _ _ x y w (by omega)) rfl)) ?_
        refine rg_put (d := 5) (v := .d (.fl (.int .i64 (((k : Int) + 1))))) rfl (og rfl (op_assign rfl rfl rfl)) ?_
        refine rg_done rfl ?_
        obtain ⟨hst, hcl⟩ := nr_sk (s := s) (k := k) (by omega) (by omega)
        have hst := hst.symm
        have hall : (cln (s.data.toList.take (k + 1))).all okb = true := by rw [hcl]; exact ha
        show ∃ i, _ ∧ _ ∧ Imp _ _ _ _ _
        refine ⟨k + 1, ⟨by omega, hall⟩, by omega, imp_forget rfl ⟨rfl, (by first | rfl | exact ci (by omega)), rfl, trivial⟩ ⟨(congrArg (fun z => Ob.tr 5 1 (tD (rI .u8) z)) hst), trivial⟩⟩
      · skip
        have h7 := f_beq h5
        refine a_skip ?_
        show A _ _ _ _ _ _ _
        refine a_seq ?_
        refine a_rseq ?_
        have hb8 : (bt s k).toNat < 256 := (bt s k).toNat_lt
        refine rg_put (d := 22) (v := .d (.fl (.int .u8 (((bt s k).toNat : Int))))) rfl (og rfl (op_move rfl rfl rfl)) ?_
        refine rg_put (d := 23) (v := .d (.fl (.bool ((decide (97 ≤ ((bt s k).toNat : Int))))))) rfl (og rfl (op_bin rfl rfl rfl (b_geq _ _ _ _) rfl)) ?_
        refine rg_put (d := 24) (v := .d (.fl (.bool ((decide (97 ≤ ((bt s k).toNat : Int))))))) rfl (og rfl (op_move rfl rfl rfl)) ?_
        rcases fot ((decide (97 ≤ ((bt s k).toNat : Int)))) with h8 | h8
        · skip
          have h9 := f_dec h8
          refine rg_put (d := 25) (v := .d (.fl undef)) rfl (on rfl rfl rfl h8) ?_
          refine rg_put (d := 26) (v := .d (.fl undef)) rfl (on rfl rfl rfl h8) ?_
          refine rg_put (d := 27) (v := .d (.fl (.bool false))) rfl (og rfl (op_pick rfl rfl (by rw [h8]; rfl) rfl)) ?_
          refine rg_done rfl ?_
          refine a_condF rfl rfl ?_
          refine a_skip ?_
          show A _ _ _ _ _ _ _
          refine a_seq ?_
          refine a_rseq ?_
          refine rg_put (d := 30) (v := .d (.fl (.int .u8 (((bt s k).toNat : Int))))) rfl (og rfl (op_move rfl rfl rfl)) ?_
          refine rg_put (d := 31) (v := .d (.fl (.bool ((decide (65 ≤ ((bt s k).toNat : Int))))))) rfl (og rfl (op_bin rfl rfl rfl (b_geq _ _ _ _) rfl)) ?_
          refine rg_put (d := 32) (v := .d (.fl (.bool ((decide (65 ≤ ((bt s k).toNat : Int))))))) rfl (og rfl (op_move rfl rfl rfl)) ?_
          rcases fot ((decide (65 ≤ ((bt s k).toNat : Int)))) with h10 | h10
          · skip
            have h11 := f_dec h10
            refine rg_put (d := 33) (v := .d (.fl undef)) rfl (on rfl rfl rfl h10) ?_
            refine rg_put (d := 34) (v := .d (.fl undef)) rfl (on rfl rfl rfl h10) ?_
            refine rg_put (d := 35) (v := .d (.fl (.bool false))) rfl (og rfl (op_pick rfl rfl (by rw [h10]; rfl) rfl)) ?_
            refine rg_put (d := 36) (v := .d (.fl (.bool false))) rfl (og rfl (op_move rfl rfl rfl)) ?_
            refine rg_put (d := 37) (v := .d (.fl (.int .u8 (((bt s k).toNat : Int))))) rfl (oy rfl rfl rfl rfl (op_move rfl rfl rfl)) ?_
            refine rg_put (d := 38) (v := .d (.fl (.bool ((decide (48 ≤ ((bt s k).toNat : Int))))))) rfl (oy rfl rfl rfl rfl (op_bin rfl rfl rfl (b_geq _ _ _ _) rfl)) ?_
            refine rg_put (d := 39) (v := .d (.fl (.bool ((decide (48 ≤ ((bt s k).toNat : Int))))))) rfl (oy rfl rfl rfl rfl (op_move rfl rfl rfl)) ?_
            rcases fot ((decide (48 ≤ ((bt s k).toNat : Int)))) with h12 | h12
            · skip
              have h13 := f_dec h12
              refine rg_put (d := 40) (v := .d (.fl undef)) rfl (on rfl rfl rfl h12) ?_
              refine rg_put (d := 41) (v := .d (.fl undef)) rfl (on rfl rfl rfl h12) ?_
              refine rg_put (d := 42) (v := .d (.fl (.bool false))) rfl (oy rfl rfl rfl rfl (op_pick rfl rfl (by rw [h12]; rfl) rfl)) ?_
              refine rg_put (d := 43) (v := .d (.fl (.bool false))) rfl (og rfl (op_pick rfl rfl rfl rfl)) ?_
              refine rg_put (d := 44) (v := .d (.fl (.bool (!false)))) rfl (og rfl (op_un rfl rfl (u_not _) rfl)) ?_
              refine rg_done rfl ?_
              refine a_condK rfl rfl ?_
              refine a_rseq ?_
              refine rg_put (d := 2) (v := .d (.fl (.string (⟨#[]⟩)))) rfl (og rfl (op_assign rfl rfl rfl)) ?_
              refine rg_put (d := 3) (v := .d (.fl (.int .i64 19))) rfl (og rfl (op_assign rfl rfl rfl)) ?_
              refine rg_done rfl ?_
              refine a_ret ?_
              show ∃ ds, ResL _ _ _ ds ∧ RV.of ds = _
              refine ⟨[.fl (.string (⟨#[]⟩)), .fl (.int .i64 19)], (.cons (.tmp rfl (.d _)) (.cons (.tmp rfl (.d _)) .nil)), ?_⟩
              obtain ⟨hst, hcl⟩ := nr_as (s := s) (k := k) (by omega) (by omega) (by omega)
              obtain ⟨g1, g2⟩ := nm_f (s := s) (nr_bad hcl (okb_f (by omega)))
              rw [g1, g2]; rfl
            · skip
              have h14 := t_dec h12
              refine rg_put (d := 40) (v := .d (.fl (.int .u8 (((bt s k).toNat : Int))))) rfl (oy rfl rfl rfl h12 (op_move rfl rfl rfl)) ?_
              refine rg_put (d := 41) (v := .d (.fl (.bool ((decide (((bt s k).toNat : Int) ≤ 57)))))) rfl (oy rfl rfl rfl h12 (op_bin rfl rfl rfl (b_leq _ _ _ _) rfl)) ?_
              refine rg_put (d := 42) (v := .d (.fl (.bool ((decide (((bt s k).toNat : Int) ≤ 57)))))) rfl (oy rfl rfl rfl rfl (op_pick rfl rfl (by rw [h12]; rfl) rfl)) ?_
              refine rg_put (d := 43) (v := .d (.fl (.bool ((decide (((bt s k).toNat : Int) ≤ 57)))))) rfl (og rfl (op_pick rfl rfl rfl rfl)) ?_
              refine rg_put (d := 44) (v := .d (.fl (.bool ((!((decide (((bt s k).toNat : Int) ≤ 57)))))))) rfl (og rfl (op_un rfl rfl (u_not _) rfl)) ?_
              refine rg_done rfl ?_
              refine a_cond rfl (fun h15 => ?_) (fun h15 => ?_)
              · skip
                have h16 := t_not h15
                have h17 := f_dec h16
                refine a_rseq ?_
                refine rg_put (d := 2) (v := .d (.fl (.string (⟨#[]⟩)))) rfl (og rfl (op_assign rfl rfl rfl)) ?_
                refine rg_put (d := 3) (v := .d (.fl (.int .i64 19))) rfl (og rfl (op_assign rfl rfl rfl)) ?_
                refine rg_done rfl ?_
                refine a_ret ?_
                show ∃ ds, ResL _ _ _ ds ∧ RV.of ds = _
                refine ⟨[.fl (.string (⟨#[]⟩)), .fl (.int .i64 19)], (.cons (.tmp rfl (.d _)) (.cons (.tmp rfl (.d _)) .nil)), ?_⟩
                obtain ⟨hst, hcl⟩ := nr_as (s := s) (k := k) (by omega) (by omega) (by omega)
                obtain ⟨g1, g2⟩ := nm_f (s := s) (nr_bad hcl (okb_f (by omega)))
                rw [g1, g2]; rfl
              · skip
                have h18 := f_not h15
                have h19 := t_dec h18
                refine a_skip ?_
                show A _ _ _ _ _ _ _
                refine a_region ?_
                refine rg_put (d := 45) (v := .ow 101) rfl (og rfl (op_move rfl rfl rfl)) ?_
                refine rg_put (d := 46) (v := .d (.fl (.int .u8 (((bt s k).toNat : Int))))) rfl (og rfl (op_move rfl rfl rfl)) ?_
                refine rg_put (d := 47) (v := .d (.sl 1 (List.map (rI .u8) [((bt s k).toNat : Int)]))) rfl (og rfl (of_eff (op_slices rfl Tryz.underlying115 ti5 rfl rfl rfl (by kernel_rfl) (xs := [.fl (.int .u8 (((bt s k).toNat : Int)))]) rfl rfl (.cons rfl rfl (.d _) rfl rfl rfl .nil) rfl) rfl)) ?_
                refine rg_nam (d := 48) (v := .ow 102) (m := 102) (nw := [(102, .tr 5 1 (tD (rI .u8) (((nr s k) ++ [((bt s k).toNat : Int)])))), (101, .no)]) rfl (og rfl (of_eff (s_append_td 102 rfl Tryz.underlying115 ti5 rfl rfl rfl rfl rfl (.d _) (by simp only [List.length_append, List.length_cons, List.length_nil]; omega) rfl) rfl)) rfl ?_
                refine rg_put (d := 4) (v := .ow 102) rfl (og rfl (op_assign rfl rfl rfl)) ?_
                refine rg_done rfl ?_
                show A _ _ _ _ _ _ _
                refine a_region ?_
                refine rg_put (d := 11) (v := .d (.fl (.int .i64 (k : Int)))) rfl (og rfl (op_move rfl rfl rfl)) ?_
                refine rg_put (d := 12) (v := .d (.fl (.int .i64 (((k : Int) + 1))))) rfl (og rfl (op_bin rfl rfl rfl (fun x y w => b_add64 _ _ _ x y w (by omega)) rfl)) ?_
                refine rg_put (d := 5) (v := .d (.fl (.int .i64 (((k : Int) + 1))))) rfl (og rfl (op_assign rfl rfl rfl)) ?_
                refine rg_done rfl ?_
                obtain ⟨hst, hcl⟩ := nr_as (s := s) (k := k) (by omega) (by omega) (by omega)
                have hst := hst.symm
                have hall : (cln (s.data.toList.take (k + 1))).all okb = true := by rw [hcl, List.all_append, ha]; simp only [List.all_cons, List.all_nil, Bool.and_true, Bool.true_and]; exact okb_t (by omega)
                show ∃ i, _ ∧ _ ∧ Imp _ _ _ _ _
                refine ⟨k + 1, ⟨by omega, hall⟩, by omega, imp_ren (fun m => bif Nat.beq m 101 then 102 else m) rfl ⟨rfl, (by first | rfl | exact ci (by omega)), rfl, trivial⟩ ⟨(congrArg (fun z => Ob.tr 5 1 (tD (rI .u8) z)) hst), trivial⟩⟩
          · skip
            have h20 := t_dec h10
            refine rg_put (d := 33) (v := .d (.fl (.int .u8 (((bt s k).toNat : Int))))) rfl (oy rfl rfl rfl h10 (op_move rfl rfl rfl)) ?_
            refine rg_put (d := 34) (v := .d (.fl (.bool ((decide (((bt s k).toNat : Int) ≤ 90)))))) rfl (oy rfl rfl rfl h10 (op_bin rfl rfl rfl (b_leq _ _ _ _) rfl)) ?_
            refine rg_put (d := 35) (v := .d (.fl (.bool ((decide (((bt s k).toNat : Int) ≤ 90)))))) rfl (og rfl (op_pick rfl rfl (by rw [h10]; rfl) rfl)) ?_
            refine rg_put (d := 36) (v := .d (.fl (.bool ((decide (((bt s k).toNat : Int) ≤ 90)))))) rfl (og rfl (op_move rfl rfl rfl)) ?_
            rcases fot ((decide (((bt s k).toNat : Int) ≤ 90))) with h21 | h21
            · skip
              have h22 := f_dec h21
              refine rg_put (d := 37) (v := .d (.fl (.int .u8 (((bt s k).toNat : Int))))) rfl (oy rfl rfl rfl h21 (op_move rfl rfl rfl)) ?_
              refine rg_put (d := 38) (v := .d (.fl (.bool ((decide (48 ≤ ((bt s k).toNat : Int))))))) rfl (oy rfl rfl rfl h21 (op_bin rfl rfl rfl (b_geq _ _ _ _) rfl)) ?_
              refine rg_put (d := 39) (v := .d (.fl (.bool ((decide (48 ≤ ((bt s k).toNat : Int))))))) rfl (oy rfl rfl rfl h21 (op_move rfl rfl rfl)) ?_
              rcases fot ((decide (48 ≤ ((bt s k).toNat : Int)))) with h23 | h23
              · skip
                have h24 := f_dec h23
                refine rg_put (d := 40) (v := .d (.fl undef)) rfl (on rfl rfl rfl h23) ?_
                refine rg_put (d := 41) (v := .d (.fl undef)) rfl (on rfl rfl rfl h23) ?_
                refine rg_put (d := 42) (v := .d (.fl (.bool false))) rfl (oy rfl rfl rfl h21 (op_pick rfl rfl (by rw [h23]; rfl) rfl)) ?_
                refine rg_put (d := 43) (v := .d (.fl (.bool false))) rfl (og rfl (op_pick rfl rfl (by rw [h21]; rfl) rfl)) ?_
                refine rg_put (d := 44) (v := .d (.fl (.bool (!false)))) rfl (og rfl (op_un rfl rfl (u_not _) rfl)) ?_
                refine rg_done rfl ?_
                refine a_condK rfl rfl ?_
                refine a_rseq ?_
                refine rg_put (d := 2) (v := .d (.fl (.string (⟨#[]⟩)))) rfl (og rfl (op_assign rfl rfl rfl)) ?_
                refine rg_put (d := 3) (v := .d (.fl (.int .i64 19))) rfl (og rfl (op_assign rfl rfl rfl)) ?_
                refine rg_done rfl ?_
                refine a_ret ?_
                show ∃ ds, ResL _ _ _ ds ∧ RV.of ds = _
                refine ⟨[.fl (.string (⟨#[]⟩)), .fl (.int .i64 19)], (.cons (.tmp rfl (.d _)) (.cons (.tmp rfl (.d _)) .nil)), ?_⟩
                obtain ⟨hst, hcl⟩ := nr_as (s := s) (k := k) (by omega) (by omega) (by omega)
                obtain ⟨g1, g2⟩ := nm_f (s := s) (nr_bad hcl (okb_f (by omega)))
                rw [g1, g2]; rfl
              · skip
                have h25 := t_dec h23
                refine rg_put (d := 40) (v := .d (.fl (.int .u8 (((bt s k).toNat : Int))))) rfl (oy rfl rfl rfl h23 (op_move rfl rfl rfl)) ?_
                refine rg_put (d := 41) (v := .d (.fl (.bool ((decide (((bt s k).toNat : Int) ≤ 57)))))) rfl (oy rfl rfl rfl h23 (op_bin rfl rfl rfl (b_leq _ _ _ _) rfl)) ?_
                refine rg_put (d := 42) (v := .d (.fl (.bool ((decide (((bt s k).toNat : Int) ≤ 57)))))) rfl (oy rfl rfl rfl h21 (op_pick rfl rfl (by rw [h23]; rfl) rfl)) ?_
                refine rg_put (d := 43) (v := .d (.fl (.bool ((decide (((bt s k).toNat : Int) ≤ 57)))))) rfl (og rfl (op_pick rfl rfl (by rw [h21]; rfl) rfl)) ?_
                refine rg_put (d := 44) (v := .d (.fl (.bool ((!((decide (((bt s k).toNat : Int) ≤ 57)))))))) rfl (og rfl (op_un rfl rfl (u_not _) rfl)) ?_
                refine rg_done rfl ?_
                refine a_cond rfl (fun h26 => ?_) (fun h26 => ?_)
                · skip
                  have h27 := t_not h26
                  have h28 := f_dec h27
                  refine a_rseq ?_
                  refine rg_put (d := 2) (v := .d (.fl (.string (⟨#[]⟩)))) rfl (og rfl (op_assign rfl rfl rfl)) ?_
                  refine rg_put (d := 3) (v := .d (.fl (.int .i64 19))) rfl (og rfl (op_assign rfl rfl rfl)) ?_
                  refine rg_done rfl ?_
                  refine a_ret ?_
                  show ∃ ds, ResL _ _ _ ds ∧ RV.of ds = _
                  refine ⟨[.fl (.string (⟨#[]⟩)), .fl (.int .i64 19)], (.cons (.tmp rfl (.d _)) (.cons (.tmp rfl (.d _)) .nil)), ?_⟩
                  obtain ⟨hst, hcl⟩ := nr_as (s := s) (k := k) (by omega) (by omega) (by omega)
                  obtain ⟨g1, g2⟩ := nm_f (s := s) (nr_bad hcl (okb_f (by omega)))
                  rw [g1, g2]; rfl
                · skip
                  have h29 := f_not h26
                  have h30 := t_dec h29
                  refine a_skip ?_
                  show A _ _ _ _ _ _ _
                  refine a_region ?_
                  refine rg_put (d := 45) (v := .ow 101) rfl (og rfl (op_move rfl rfl rfl)) ?_
                  refine rg_put (d := 46) (v := .d (.fl (.int .u8 (((bt s k).toNat : Int))))) rfl (og rfl (op_move rfl rfl rfl)) ?_
                  refine rg_put (d := 47) (v := .d (.sl 1 (List.map (rI .u8) [((bt s k).toNat : Int)]))) rfl (og rfl (of_eff (op_slices rfl Tryz.underlying115 ti5 rfl rfl rfl (by kernel_rfl) (xs := [.fl (.int .u8 (((bt s k).toNat : Int)))]) rfl rfl (.cons rfl rfl (.d _) rfl rfl rfl .nil) rfl) rfl)) ?_
                  refine rg_nam (d := 48) (v := .ow 103) (m := 103) (nw := [(103, .tr 5 1 (tD (rI .u8) (((nr s k) ++ [((bt s k).toNat : Int)])))), (101, .no)]) rfl (og rfl (of_eff (s_append_td 103 rfl Tryz.underlying115 ti5 rfl rfl rfl rfl rfl (.d _) (by simp only [List.length_append, List.length_cons, List.length_nil]; omega) rfl) rfl)) rfl ?_
                  refine rg_put (d := 4) (v := .ow 103) rfl (og rfl (op_assign rfl rfl rfl)) ?_
                  refine rg_done rfl ?_
                  show A _ _ _ _ _ _ _
                  refine a_region ?_
                  refine rg_put (d := 11) (v := .d (.fl (.int .i64 (k : Int)))) rfl (og rfl (op_move rfl rfl rfl)) ?_
                  refine rg_put (d := 12) (v := .d (.fl (.int .i64 (((k : Int) + 1))))) rfl (og rfl (op_bin rfl rfl rfl (fun x y w => b_add64 _ _ _ x y w (by omega)) rfl)) ?_
                  refine rg_put (d := 5) (v := .d (.fl (.int .i64 (((k : Int) + 1))))) rfl (og rfl (op_assign rfl rfl rfl)) ?_
                  refine rg_done rfl ?_
                  obtain ⟨hst, hcl⟩ := nr_as (s := s) (k := k) (by omega) (by omega) (by omega)
                  have hst := hst.symm
                  have hall : (cln (s.data.toList.take (k + 1))).all okb = true := by rw [hcl, List.all_append, ha]; simp only [List.all_cons, List.all_nil, Bool.and_true, Bool.true_and]; exact okb_t (by omega)
                  show ∃ i, _ ∧ _ ∧ Imp _ _ _ _ _
                  refine ⟨k + 1, ⟨by omega, hall⟩, by omega, imp_ren (fun m => bif Nat.beq m 101 then 103 else m) rfl ⟨rfl, (by first | rfl | exact ci (by omega)), rfl, trivial⟩ ⟨(congrArg (fun z => Ob.tr 5 1 (tD (rI .u8) z)) hst), trivial⟩⟩
            · skip
              have h31 := t_dec h21
              refine rg_put (d := 37) (v := .d (.fl undef)) rfl (on rfl rfl rfl h21) ?_
              refine rg_put (d := 38) (v := .d (.fl undef)) rfl (on rfl rfl rfl h21) ?_
              refine rg_put (d := 39) (v := .d (.fl undef)) rfl (on rfl rfl rfl h21) ?_
              refine rg_put (d := 40) (v := .d (.fl undef)) rfl (ou rfl rfl rfl) ?_
              refine rg_put (d := 41) (v := .d (.fl undef)) rfl (ou rfl rfl rfl) ?_
              refine rg_put (d := 42) (v := .d (.fl undef)) rfl (on rfl rfl rfl h21) ?_
              refine rg_put (d := 43) (v := .d (.fl (.bool true))) rfl (og rfl (op_pick rfl rfl (by rw [h21]; rfl) rfl)) ?_
              refine rg_put (d := 44) (v := .d (.fl (.bool (!true)))) rfl (og rfl (op_un rfl rfl (u_not _) rfl)) ?_
              refine rg_done rfl ?_
              refine a_condF rfl rfl ?_
              refine a_skip ?_
              show A _ _ _ _ _ _ _
              refine a_region ?_
              refine rg_put (d := 45) (v := .ow 101) rfl (og rfl (op_move rfl rfl rfl)) ?_
              refine rg_put (d := 46) (v := .d (.fl (.int .u8 (((bt s k).toNat : Int))))) rfl (og rfl (op_move rfl rfl rfl)) ?_
              refine rg_put (d := 47) (v := .d (.sl 1 (List.map (rI .u8) [((bt s k).toNat : Int)]))) rfl (og rfl (of_eff (op_slices rfl Tryz.underlying115 ti5 rfl rfl rfl (by kernel_rfl) (xs := [.fl (.int .u8 (((bt s k).toNat : Int)))]) rfl rfl (.cons rfl rfl (.d _) rfl rfl rfl .nil) rfl) rfl)) ?_
              refine rg_nam (d := 48) (v := .ow 104) (m := 104) (nw := [(104, .tr 5 1 (tD (rI .u8) (((nr s k) ++ [((bt s k).toNat : Int)])))), (101, .no)]) rfl (og rfl (of_eff (s_append_td 104 rfl Tryz.underlying115 ti5 rfl rfl rfl rfl rfl (.d _) (by simp only [List.length_append, List.length_cons, List.length_nil]; omega) rfl) rfl)) rfl ?_
              refine rg_put (d := 4) (v := .ow 104) rfl (og rfl (op_assign rfl rfl rfl)) ?_
              refine rg_done rfl ?_
              show A _ _ _ _ _ _ _
              refine a_region ?_
              refine rg_put (d := 11) (v := .d (.fl (.int .i64 (k : Int)))) rfl (og rfl (op_move rfl rfl rfl)) ?_
              refine rg_put (d := 12) (v := .d (.fl (.int .i64 (((k : Int) + 1))))) rfl (og rfl (op_bin rfl rfl rfl (fun x y w => b_add64 _ _ _ x y w (by omega)) rfl)) ?_
              refine rg_put (d := 5) (v := .d (.fl (.int .i64 (((k : Int) + 1))))) rfl (og rfl (op_assign rfl rfl rfl)) ?_
              refine rg_done rfl ?_
              obtain ⟨hst, hcl⟩ := nr_as (s := s) (k := k) (by omega) (by omega) (by omega)
              have hst := hst.symm
              have hall : (cln (s.data.toList.take (k + 1))).all okb = true := by rw [hcl, List.all_append, ha]; simp only [List.all_cons, List.all_nil, Bool.and_true, Bool.true_and]; exact okb_t (by omega)
              show ∃ i, _ ∧ _ ∧ Imp _ _ _ _ _
              refine ⟨k + 1, ⟨by omega, hall⟩, by omega, imp_ren (fun m => bif Nat.beq m 101 then 104 else m) rfl ⟨rfl, (by first | rfl | exact ci (by omega)), rfl, trivial⟩ ⟨(congrArg (fun z => Ob.tr 5 1 (tD (rI .u8) z)) hst), trivial⟩⟩
        · skip
          have h32 := t_dec h8
          refine rg_put (d := 25) (v := .d (.fl (.int .u8 (((bt s k).toNat : Int))))) rfl (oy rfl rfl rfl h8 (op_move rfl rfl rfl)) ?_
          refine rg_put (d := 26) (v := .d (.fl (.bool ((decide (((bt s k).toNat : Int) ≤ 122)))))) rfl (oy rfl rfl rfl h8 (op_bin rfl rfl rfl (b_leq _ _ _ _) rfl)) ?_
          refine rg_put (d := 27) (v := .d (.fl (.bool ((decide (((bt s k).toNat : Int) ≤ 122)))))) rfl (og rfl (op_pick rfl rfl (by rw [h8]; rfl) rfl)) ?_
          refine rg_done rfl ?_
          refine a_cond rfl (fun h33 => ?_) (fun h33 => ?_)
          · skip
            have h34 := t_dec h33
            refine a_region ?_
            have hw8 : IntKind.u8.wrap (((bt s k).toNat : Int) - 32) = ((bt s k).toNat : Int) - 32 := IntWalk.u8_in _ (by omega)
            refine rg_put (d := 28) (v := .d (.fl (.int .u8 (((bt s k).toNat : Int))))) rfl (og rfl (op_move rfl rfl rfl)) ?_
            refine rg_put (d := 29) (v := .d (.fl (.int .u8 ((IntKind.u8.wrap ((((bt s k).toNat : Int)) - 32)))))) rfl (og rfl (op_bin rfl rfl rfl (b_sub _ _ _ _) rfl)) ?_
            refine rg_put (d := 6) (v := .d (.fl (.int .u8 ((IntKind.u8.wrap ((((bt s k).toNat : Int)) - 32)))))) rfl (og rfl (op_assign rfl rfl rfl)) ?_
            refine rg_done rfl ?_
            show A _ _ _ _ _ _ _
            refine a_seq ?_
            refine a_rseq ?_
            refine rg_put (d := 30) (v := .d (.fl (.int .u8 ((IntKind.u8.wrap ((((bt s k).toNat : Int)) - 32)))))) rfl (og rfl (op_move rfl rfl rfl)) ?_
            refine rg_put (d := 31) (v := .d (.fl (.bool ((decide (65 ≤ (IntKind.u8.wrap ((((bt s k).toNat : Int)) - 32)))))))) rfl (og rfl (op_bin rfl rfl rfl (b_geq _ _ _ _) rfl)) ?_
            refine rg_put (d := 32) (v := .d (.fl (.bool ((decide (65 ≤ (IntKind.u8.wrap ((((bt s k).toNat : Int)) - 32)))))))) rfl (og rfl (op_move rfl rfl rfl)) ?_
            rcases fot ((decide (65 ≤ (IntKind.u8.wrap ((((bt s k).toNat : Int)) - 32))))) with h35 | h35
            · skip
              have h36 := f_dec h35
              refine rg_put (d := 33) (v := .d (.fl undef)) rfl (on rfl rfl rfl h35) ?_
              refine rg_put (d := 34) (v := .d (.fl undef)) rfl (on rfl rfl rfl h35) ?_
              refine rg_put (d := 35) (v := .d (.fl (.bool false))) rfl (og rfl (op_pick rfl rfl (by rw [h35]; rfl) rfl)) ?_
              refine rg_put (d := 36) (v := .d (.fl (.bool false))) rfl (og rfl (op_move rfl rfl rfl)) ?_
              refine rg_put (d := 37) (v := .d (.fl (.int .u8 ((IntKind.u8.wrap ((((bt s k).toNat : Int)) - 32)))))) rfl (oy rfl rfl rfl rfl (op_move rfl rfl rfl)) ?_
              refine rg_put (d := 38) (v := .d (.fl (.bool ((decide (48 ≤ (IntKind.u8.wrap ((((bt s k).toNat : Int)) - 32)))))))) rfl (oy rfl rfl rfl rfl (op_bin rfl rfl rfl (b_geq _ _ _ _) rfl)) ?_
              refine rg_put (d := 39) (v := .d (.fl (.bool ((decide (48 ≤ (IntKind.u8.wrap ((((bt s k).toNat : Int)) - 32)))))))) rfl (oy rfl rfl rfl rfl (op_move rfl rfl rfl)) ?_
              rcases fot ((decide (48 ≤ (IntKind.u8.wrap ((((bt s k).toNat : Int)) - 32))))) with h37 | h37
              · skip
                have h38 := f_dec h37
                refine rg_put (d := 40) (v := .d (.fl undef)) rfl (on rfl rfl rfl h37) ?_
                refine rg_put (d := 41) (v := .d (.fl undef)) rfl (on rfl rfl rfl h37) ?_
                refine rg_put (d := 42) (v := .d (.fl (.bool false))) rfl (oy rfl rfl rfl rfl (op_pick rfl rfl (by rw [h37]; rfl) rfl)) ?_
                refine rg_put (d := 43) (v := .d (.fl (.bool false))) rfl (og rfl (op_pick rfl rfl rfl rfl)) ?_
                refine rg_put (d := 44) (v := .d (.fl (.bool (!false)))) rfl (og rfl (op_un rfl rfl (u_not _) rfl)) ?_
                refine rg_done rfl ?_
                refine a_condK rfl rfl ?_
                refine a_rseq ?_
                refine rg_put (d := 2) (v := .d (.fl (.string (⟨#[]⟩)))) rfl (og rfl (op_assign rfl rfl rfl)) ?_
                refine rg_put (d := 3) (v := .d (.fl (.int .i64 19))) rfl (og rfl (op_assign rfl rfl rfl)) ?_
                refine rg_done rfl ?_
                refine a_ret ?_
                show ∃ ds, ResL _ _ _ ds ∧ RV.of ds = _
                refine ⟨[.fl (.string (⟨#[]⟩)), .fl (.int .i64 19)], (.cons (.tmp rfl (.d _)) (.cons (.tmp rfl (.d _)) .nil)), ?_⟩
                obtain ⟨hst, hcl⟩ := nr_up (s := s) (k := k) (by omega) (by omega)
                have hn8 := n8 ((bt s k).toNat - 32) (by omega)
                obtain ⟨g1, g2⟩ := nm_f (s := s) (nr_bad hcl (okb_f (by omega)))
                rw [g1, g2]; rfl
              · skip
                have h39 := t_dec h37
                refine rg_put (d := 40) (v := .d (.fl (.int .u8 ((IntKind.u8.wrap ((((bt s k).toNat : Int)) - 32)))))) rfl (oy rfl rfl rfl h37 (op_move rfl rfl rfl)) ?_
                refine rg_put (d := 41) (v := .d (.fl (.bool ((decide ((IntKind.u8.wrap ((((bt s k).toNat : Int)) - 32)) ≤ 57)))))) rfl (oy rfl rfl rfl h37 (op_bin rfl rfl rfl (b_leq _ _ _ _) rfl)) ?_
                refine rg_put (d := 42) (v := .d (.fl (.bool ((decide ((IntKind.u8.wrap ((((bt s k).toNat : Int)) - 32)) ≤ 57)))))) rfl (oy rfl rfl rfl rfl (op_pick rfl rfl (by rw [h37]; rfl) rfl)) ?_
                refine rg_put (d := 43) (v := .d (.fl (.bool ((decide ((IntKind.u8.wrap ((((bt s k).toNat : Int)) - 32)) ≤ 57)))))) rfl (og rfl (op_pick rfl rfl rfl rfl)) ?_
                refine rg_put (d := 44) (v := .d (.fl (.bool ((!((decide ((IntKind.u8.wrap ((((bt s k).toNat : Int)) - 32)) ≤ 57)))))))) rfl (og rfl (op_un rfl rfl (u_not _) rfl)) ?_
                refine rg_done rfl ?_
                refine a_cond rfl (fun h40 => ?_) (fun h40 => ?_)
                · skip
                  have h41 := t_not h40
                  have h42 := f_dec h41
                  refine a_rseq ?_
                  refine rg_put (d := 2) (v := .d (.fl (.string (⟨#[]⟩)))) rfl (og rfl (op_assign rfl rfl rfl)) ?_
                  refine rg_put (d := 3) (v := .d (.fl (.int .i64 19))) rfl (og rfl (op_assign rfl rfl rfl)) ?_
                  refine rg_done rfl ?_
                  refine a_ret ?_
                  show ∃ ds, ResL _ _ _ ds ∧ RV.of ds = _
                  refine ⟨[.fl (.string (⟨#[]⟩)), .fl (.int .i64 19)], (.cons (.tmp rfl (.d _)) (.cons (.tmp rfl (.d _)) .nil)), ?_⟩
                  obtain ⟨hst, hcl⟩ := nr_up (s := s) (k := k) (by omega) (by omega)
                  have hn8 := n8 ((bt s k).toNat - 32) (by omega)
                  obtain ⟨g1, g2⟩ := nm_f (s := s) (nr_bad hcl (okb_f (by omega)))
                  rw [g1, g2]; rfl
                · skip
                  have h43 := f_not h40
                  have h44 := t_dec h43
                  refine a_skip ?_
                  show A _ _ _ _ _ _ _
                  refine a_region ?_
                  refine rg_put (d := 45) (v := .ow 101) rfl (og rfl (op_move rfl rfl rfl)) ?_
                  refine rg_put (d := 46) (v := .d (.fl (.int .u8 ((IntKind.u8.wrap ((((bt s k).toNat : Int)) - 32)))))) rfl (og rfl (op_move rfl rfl rfl)) ?_
                  refine rg_put (d := 47) (v := .d (.sl 1 (List.map (rI .u8) [(IntKind.u8.wrap ((((bt s k).toNat : Int)) - 32))]))) rfl (og rfl (of_eff (op_slices rfl Tryz.underlying115 ti5 rfl rfl rfl (by kernel_rfl) (xs := [.fl (.int .u8 ((IntKind.u8.wrap ((((bt s k).toNat : Int)) - 32))))]) rfl rfl (.cons rfl rfl (.d _) rfl rfl rfl .nil) rfl) rfl)) ?_
                  refine rg_nam (d := 48) (v := .ow 105) (m := 105) (nw := [(105, .tr 5 1 (tD (rI .u8) (((nr s k) ++ [(IntKind.u8.wrap ((((bt s k).toNat : Int)) - 32))])))), (101, .no)]) rfl (og rfl (of_eff (s_append_td 105 rfl Tryz.underlying115 ti5 rfl rfl rfl rfl rfl (.d _) (by simp only [List.length_append, List.length_cons, List.length_nil]; omega) rfl) rfl)) rfl ?_
                  refine rg_put (d := 4) (v := .ow 105) rfl (og rfl (op_assign rfl rfl rfl)) ?_
                  refine rg_done rfl ?_
                  show A _ _ _ _ _ _ _
                  refine a_region ?_
                  refine rg_put (d := 11) (v := .d (.fl (.int .i64 (k : Int)))) rfl (og rfl (op_move rfl rfl rfl)) ?_
                  refine rg_put (d := 12) (v := .d (.fl (.int .i64 (((k : Int) + 1))))) rfl (og rfl (op_bin rfl rfl rfl (fun x y w => b_add64 _ _ _ x y w (by omega)) rfl)) ?_
                  refine rg_put (d := 5) (v := .d (.fl (.int .i64 (((k : Int) + 1))))) rfl (og rfl (op_assign rfl rfl rfl)) ?_
                  refine rg_done rfl ?_
                  obtain ⟨hst, hcl⟩ := nr_up (s := s) (k := k) (by omega) (by omega)
                  have hst := hst.symm
                  have hn8 := n8 ((bt s k).toNat - 32) (by omega)
                  have hall : (cln (s.data.toList.take (k + 1))).all okb = true := by rw [hcl, List.all_append, ha]; simp only [List.all_cons, List.all_nil, Bool.and_true, Bool.true_and]; exact okb_t (by omega)
                  show ∃ i, _ ∧ _ ∧ Imp _ _ _ _ _
                  refine ⟨k + 1, ⟨by omega, hall⟩, by omega, imp_ren (fun m => bif Nat.beq m 101 then 105 else m) rfl ⟨rfl, (by first | rfl | exact ci (by omega)), rfl, trivial⟩ ⟨(congrArg (fun z => Ob.tr 5 1 (tD (rI .u8) z)) hst), trivial⟩⟩
            · skip
              have h45 := t_dec h35
              refine rg_put (d := 33) (v := .d (.fl (.int .u8 ((IntKind.u8.wrap ((((bt s k).toNat : Int)) - 32)))))) rfl (oy rfl rfl rfl h35 (op_move rfl rfl rfl)) ?_
              refine rg_put (d := 34) (v := .d (.fl (.bool ((decide ((IntKind.u8.wrap ((((bt s k).toNat : Int)) - 32)) ≤ 90)))))) rfl (oy rfl rfl rfl h35 (op_bin rfl rfl rfl (b_leq _ _ _ _) rfl)) ?_
              refine rg_put (d := 35) (v := .d (.fl (.bool ((decide ((IntKind.u8.wrap ((((bt s k).toNat : Int)) - 32)) ≤ 90)))))) rfl (og rfl (op_pick rfl rfl (by rw [h35]; rfl) rfl)) ?_
              refine rg_put (d := 36) (v := .d (.fl (.bool ((decide ((IntKind.u8.wrap ((((bt s k).toNat : Int)) - 32)) ≤ 90)))))) rfl (og rfl (op_move rfl rfl rfl)) ?_
              rcases fot ((decide ((IntKind.u8.wrap ((((bt s k).toNat : Int)) - 32)) ≤ 90))) with h46 | h46
              · skip
                have h47 := f_dec h46
                refine rg_put (d := 37) (v := .d (.fl (.int .u8 ((IntKind.u8.wrap ((((bt s k).toNat : Int)) - 32)))))) rfl (oy rfl rfl rfl h46 (op_move rfl rfl rfl)) ?_
                refine rg_put (d := 38) (v := .d (.fl (.bool ((decide (48 ≤ (IntKind.u8.wrap ((((bt s k).toNat : Int)) - 32)))))))) rfl (oy rfl rfl rfl h46 (op_bin rfl rfl rfl (b_geq _ _ _ _) rfl)) ?_
                refine rg_put (d := 39) (v := .d (.fl (.bool ((decide (48 ≤ (IntKind.u8.wrap ((((bt s k).toNat : Int)) - 32)))))))) rfl (oy rfl rfl rfl h46 (op_move rfl rfl rfl)) ?_
                rcases fot ((decide (48 ≤ (IntKind.u8.wrap ((((bt s k).toNat : Int)) - 32))))) with h48 | h48
                · skip
                  have h49 := f_dec h48
                  refine rg_put (d := 40) (v := .d (.fl undef)) rfl (on rfl rfl rfl h48) ?_
                  refine rg_put (d := 41) (v := .d (.fl undef)) rfl (on rfl rfl rfl h48) ?_
                  refine rg_put (d := 42) (v := .d (.fl (.bool false))) rfl (oy rfl rfl rfl h46 (op_pick rfl rfl (by rw [h48]; rfl) rfl)) ?_
                  refine rg_put (d := 43) (v := .d (.fl (.bool false))) rfl (og rfl (op_pick rfl rfl (by rw [h46]; rfl) rfl)) ?_
                  refine rg_put (d := 44) (v := .d (.fl (.bool (!false)))) rfl (og rfl (op_un rfl rfl (u_not _) rfl)) ?_
                  refine rg_done rfl ?_
                  refine a_condK rfl rfl ?_
                  refine a_rseq ?_
                  refine rg_put (d := 2) (v := .d (.fl (.string (⟨#[]⟩)))) rfl (og rfl (op_assign rfl rfl rfl)) ?_
                  refine rg_put (d := 3) (v := .d (.fl (.int .i64 19))) rfl (og rfl (op_assign rfl rfl rfl)) ?_
                  refine rg_done rfl ?_
                  refine a_ret ?_
                  show ∃ ds, ResL _ _ _ ds ∧ RV.of ds = _
                  refine ⟨[.fl (.string (⟨#[]⟩)), .fl (.int .i64 19)], (.cons (.tmp rfl (.d _)) (.cons (.tmp rfl (.d _)) .nil)), ?_⟩
                  obtain ⟨hst, hcl⟩ := nr_up (s := s) (k := k) (by omega) (by omega)
                  have hn8 := n8 ((bt s k).toNat - 32) (by omega)
                  obtain ⟨g1, g2⟩ := nm_f (s := s) (nr_bad hcl (okb_f (by omega)))
                  rw [g1, g2]; rfl
                · skip
                  have h50 := t_dec h48
                  refine rg_put (d := 40) (v := .d (.fl (.int .u8 ((IntKind.u8.wrap ((((bt s k).toNat : Int)) - 32)))))) rfl (oy rfl rfl rfl h48 (op_move rfl rfl rfl)) ?_
                  refine rg_put (d := 41) (v := .d (.fl (.bool ((decide ((IntKind.u8.wrap ((((bt s k).toNat : Int)) - 32)) ≤ 57)))))) rfl (oy rfl rfl rfl h48 (op_bin rfl rfl rfl (b_leq _ _ _ _) rfl)) ?_
                  refine rg_put (d := 42) (v := .d (.fl (.bool ((decide ((IntKind.u8.wrap ((((bt s k).toNat : Int)) - 32)) ≤ 57)))))) rfl (oy rfl rfl rfl h46 (op_pick rfl rfl (by rw [h48]; rfl) rfl)) ?_
                  refine rg_put (d := 43) (v := .d (.fl (.bool ((decide ((IntKind.u8.wrap ((((bt s k).toNat : Int)) - 32)) ≤ 57)))))) rfl (og rfl (op_pick rfl rfl (by rw [h46]; rfl) rfl)) ?_
                  refine rg_put (d := 44) (v := .d (.fl (.bool ((!((decide ((IntKind.u8.wrap ((((bt s k).toNat : Int)) - 32)) ≤ 57)))))))) rfl (og rfl (op_un rfl rfl (u_not _) rfl)) ?_
                  refine rg_done rfl ?_
                  refine a_cond rfl (fun h51 => ?_) (fun h51 => ?_)
                  · skip
                    have h52 := t_not h51
                    have h53 := f_dec h52
                    refine a_rseq ?_
                    refine rg_put (d := 2) (v := .d (.fl (.string (⟨#[]⟩)))) rfl (og rfl (op_assign rfl rfl rfl)) ?_
                    refine rg_put (d := 3) (v := .d (.fl (.int .i64 19))) rfl (og rfl (op_assign rfl rfl rfl)) ?_
                    refine rg_done rfl ?_
                    refine a_ret ?_
                    show ∃ ds, ResL _ _ _ ds ∧ RV.of ds = _
                    refine ⟨[.fl (.string (⟨#[]⟩)), .fl (.int .i64 19)], (.cons (.tmp rfl (.d _)) (.cons (.tmp rfl (.d _)) .nil)), ?_⟩
                    obtain ⟨hst, hcl⟩ := nr_up (s := s) (k := k) (by omega) (by omega)
                    have hn8 := n8 ((bt s k).toNat - 32) (by omega)
                    obtain ⟨g1, g2⟩ := nm_f (s := s) (nr_bad hcl (okb_f (by omega)))
                    rw [g1, g2]; rfl
                  · skip
                    have h54 := f_not h51
                    have h55 := t_dec h54
                    refine a_skip ?_
                    show A _ _ _ _ _ _ _
                    refine a_region ?_
                    refine rg_put (d := 45) (v := .ow 101) rfl (og rfl (op_move rfl rfl rfl)) ?_
                    refine rg_put (d := 46) (v := .d (.fl (.int .u8 ((IntKind.u8.wrap ((((bt s k).toNat : Int)) - 32)))))) rfl (og rfl (op_move rfl rfl rfl)) ?_
                    refine rg_put (d := 47) (v := .d (.sl 1 (List.map (rI .u8) [(IntKind.u8.wrap ((((bt s k).toNat : Int)) - 32))]))) rfl (og rfl (of_eff (op_slices rfl Tryz.underlying115 ti5 rfl rfl rfl (by kernel_rfl) (xs := [.fl (.int .u8 ((IntKind.u8.wrap ((((bt s k).toNat : Int)) - 32))))]) rfl rfl (.cons rfl rfl (.d _) rfl rfl rfl .nil) rfl) rfl)) ?_
                    refine rg_nam (d := 48) (v := .ow 106) (m := 106) (nw := [(106, .tr 5 1 (tD (rI .u8) (((nr s k) ++ [(IntKind.u8.wrap ((((bt s k).toNat : Int)) - 32))])))), (101, .no)]) rfl (og rfl (of_eff (s_append_td 106 rfl Tryz.underlying115 ti5 rfl rfl rfl rfl rfl (.d _) (by simp only [List.length_append, List.length_cons, List.length_nil]; omega) rfl) rfl)) rfl ?_
                    refine rg_put (d := 4) (v := .ow 106) rfl (og rfl (op_assign rfl rfl rfl)) ?_
                    refine rg_done rfl ?_
                    show A _ _ _ _ _ _ _
                    refine a_region ?_
                    refine rg_put (d := 11) (v := .d (.fl (.int .i64 (k : Int)))) rfl (og rfl (op_move rfl rfl rfl)) ?_
                    refine rg_put (d := 12) (v := .d (.fl (.int .i64 (((k : Int) + 1))))) rfl (og rfl (op_bin rfl rfl rfl (fun x y w => b_add64 _ _ _ x y w (by omega)) rfl)) ?_
                    refine rg_put (d := 5) (v := .d (.fl (.int .i64 (((k : Int) + 1))))) rfl (og rfl (op_assign rfl rfl rfl)) ?_
                    refine rg_done rfl ?_
                    obtain ⟨hst, hcl⟩ := nr_up (s := s) (k := k) (by omega) (by omega)
                    have hst := hst.symm
                    have hn8 := n8 ((bt s k).toNat - 32) (by omega)
                    have hall : (cln (s.data.toList.take (k + 1))).all okb = true := by rw [hcl, List.all_append, ha]; simp only [List.all_cons, List.all_nil, Bool.and_true, Bool.true_and]; exact okb_t (by omega)
                    show ∃ i, _ ∧ _ ∧ Imp _ _ _ _ _
                    refine ⟨k + 1, ⟨by omega, hall⟩, by omega, imp_ren (fun m => bif Nat.beq m 101 then 106 else m) rfl ⟨rfl, (by first | rfl | exact ci (by omega)), rfl, trivial⟩ ⟨(congrArg (fun z => Ob.tr 5 1 (tD (rI .u8) z)) hst), trivial⟩⟩
              · skip
                have h56 := t_dec h46
                refine rg_put (d := 37) (v := .d (.fl undef)) rfl (on rfl rfl rfl h46) ?_
                refine rg_put (d := 38) (v := .d (.fl undef)) rfl (on rfl rfl rfl h46) ?_
                refine rg_put (d := 39) (v := .d (.fl undef)) rfl (on rfl rfl rfl h46) ?_
                refine rg_put (d := 40) (v := .d (.fl undef)) rfl (ou rfl rfl rfl) ?_
                refine rg_put (d := 41) (v := .d (.fl undef)) rfl (ou rfl rfl rfl) ?_
                refine rg_put (d := 42) (v := .d (.fl undef)) rfl (on rfl rfl rfl h46) ?_
                refine rg_put (d := 43) (v := .d (.fl (.bool true))) rfl (og rfl (op_pick rfl rfl (by rw [h46]; rfl) rfl)) ?_
                refine rg_put (d := 44) (v := .d (.fl (.bool (!true)))) rfl (og rfl (op_un rfl rfl (u_not _) rfl)) ?_
                refine rg_done rfl ?_
                refine a_condF rfl rfl ?_
                refine a_skip ?_
                show A _ _ _ _ _ _ _
                refine a_region ?_
                refine rg_put (d := 45) (v := .ow 101) rfl (og rfl (op_move rfl rfl rfl)) ?_
                refine rg_put (d := 46) (v := .d (.fl (.int .u8 ((IntKind.u8.wrap ((((bt s k).toNat : Int)) - 32)))))) rfl (og rfl (op_move rfl rfl rfl)) ?_
                refine rg_put (d := 47) (v := .d (.sl 1 (List.map (rI .u8) [(IntKind.u8.wrap ((((bt s k).toNat : Int)) - 32))]))) rfl (og rfl (of_eff (op_slices rfl Tryz.underlying115 ti5 rfl rfl rfl (by kernel_rfl) (xs := [.fl (.int .u8 ((IntKind.u8.wrap ((((bt s k).toNat : Int)) - 32))))]) rfl rfl (.cons rfl rfl (.d _) rfl rfl rfl .nil) rfl) rfl)) ?_
                refine rg_nam (d := 48) (v := .ow 107) (m := 107) (nw := [(107, .tr 5 1 (tD (rI .u8) (((nr s k) ++ [(IntKind.u8.wrap ((((bt s k).toNat : Int)) - 32))])))), (101, .no)]) rfl (og rfl (of_eff (s_append_td 107 rfl Tryz.underlying115 ti5 rfl rfl rfl rfl rfl (.d _) (by simp only [List.length_append, List.length_cons, List.length_nil]; omega) rfl) rfl)) rfl ?_
                refine rg_put (d := 4) (v := .ow 107) rfl (og rfl (op_assign rfl rfl rfl)) ?_
                refine rg_done rfl ?_
                show A _ _ _ _ _ _ _
                refine a_region ?_
                refine rg_put (d := 11) (v := .d (.fl (.int .i64 (k : Int)))) rfl (og rfl (op_move rfl rfl rfl)) ?_
                refine rg_put (d := 12) (v := .d (.fl (.int .i64 (((k : Int) + 1))))) rfl (og rfl (op_bin rfl rfl rfl (fun x y w => b_add64 _ _ _ x y w (by omega)) rfl)) ?_
                refine rg_put (d := 5) (v := .d (.fl (.int .i64 (((k : Int) + 1))))) rfl (og rfl (op_assign rfl rfl rfl)) ?_
                refine rg_done rfl ?_
                obtain ⟨hst, hcl⟩ := nr_up (s := s) (k := k) (by omega) (by omega)
                have hst := hst.symm
                have hn8 := n8 ((bt s k).toNat - 32) (by omega)
                have hall : (cln (s.data.toList.take (k + 1))).all okb = true := by rw [hcl, List.all_append, ha]; simp only [List.all_cons, List.all_nil, Bool.and_true, Bool.true_and]; exact okb_t (by omega)
                show ∃ i, _ ∧ _ ∧ Imp _ _ _ _ _
                refine ⟨k + 1, ⟨by omega, hall⟩, by omega, imp_ren (fun m => bif Nat.beq m 101 then 107 else m) rfl ⟨rfl, (by first | rfl | exact ci (by omega)), rfl, trivial⟩ ⟨(congrArg (fun z => Ob.tr 5 1 (tD (rI .u8) z)) hst), trivial⟩⟩
          · skip
            have h57 := f_dec h33
            refine a_skip ?_
            show A _ _ _ _ _ _ _
            refine a_seq ?_
            refine a_rseq ?_
            refine rg_put (d := 30) (v := .d (.fl (.int .u8 (((bt s k).toNat : Int))))) rfl (og rfl (op_move rfl rfl rfl)) ?_
            refine rg_put (d := 31) (v := .d (.fl (.bool ((decide (65 ≤ ((bt s k).toNat : Int))))))) rfl (og rfl (op_bin rfl rfl rfl (b_geq _ _ _ _) rfl)) ?_
            refine rg_put (d := 32) (v := .d (.fl (.bool ((decide (65 ≤ ((bt s k).toNat : Int))))))) rfl (og rfl (op_move rfl rfl rfl)) ?_
            rcases fot ((decide (65 ≤ ((bt s k).toNat : Int)))) with h58 | h58
            · skip
              have h59 := f_dec h58
              refine rg_put (d := 33) (v := .d (.fl undef)) rfl (on rfl rfl rfl h58) ?_
              refine rg_put (d := 34) (v := .d (.fl undef)) rfl (on rfl rfl rfl h58) ?_
              refine rg_put (d := 35) (v := .d (.fl (.bool false))) rfl (og rfl (op_pick rfl rfl (by rw [h58]; rfl) rfl)) ?_
              refine rg_put (d := 36) (v := .d (.fl (.bool false))) rfl (og rfl (op_move rfl rfl rfl)) ?_
              refine rg_put (d := 37) (v := .d (.fl (.int .u8 (((bt s k).toNat : Int))))) rfl (oy rfl rfl rfl rfl (op_move rfl rfl rfl)) ?_
              refine rg_put (d := 38) (v := .d (.fl (.bool ((decide (48 ≤ ((bt s k).toNat : Int))))))) rfl (oy rfl rfl rfl rfl (op_bin rfl rfl rfl (b_geq _ _ _ _) rfl)) ?_
              refine rg_put (d := 39) (v := .d (.fl (.bool ((decide (48 ≤ ((bt s k).toNat : Int))))))) rfl (oy rfl rfl rfl rfl (op_move rfl rfl rfl)) ?_
              rcases fot ((decide (48 ≤ ((bt s k).toNat : Int)))) with h60 | h60
              · skip
                have h61 := f_dec h60
                refine rg_put (d := 40) (v := .d (.fl undef)) rfl (on rfl rfl rfl h60) ?_
                refine rg_put (d := 41) (v := .d (.fl undef)) rfl (on rfl rfl rfl h60) ?_
                refine rg_put (d := 42) (v := .d (.fl (.bool false))) rfl (oy rfl rfl rfl rfl (op_pick rfl rfl (by rw [h60]; rfl) rfl)) ?_
                refine rg_put (d := 43) (v := .d (.fl (.bool false))) rfl (og rfl (op_pick rfl rfl rfl rfl)) ?_
                refine rg_put (d := 44) (v := .d (.fl (.bool (!false)))) rfl (og rfl (op_un rfl rfl (u_not _) rfl)) ?_
                refine rg_done rfl ?_
                refine a_condK rfl rfl ?_
                refine a_rseq ?_
                refine rg_put (d := 2) (v := .d (.fl (.string (⟨#[]⟩)))) rfl (og rfl (op_assign rfl rfl rfl)) ?_
                refine rg_put (d := 3) (v := .d (.fl (.int .i64 19))) rfl (og rfl (op_assign rfl rfl rfl)) ?_
                refine rg_done rfl ?_
                refine a_ret ?_
                show ∃ ds, ResL _ _ _ ds ∧ RV.of ds = _
                refine ⟨[.fl (.string (⟨#[]⟩)), .fl (.int .i64 19)], (.cons (.tmp rfl (.d _)) (.cons (.tmp rfl (.d _)) .nil)), ?_⟩
                obtain ⟨hst, hcl⟩ := nr_as (s := s) (k := k) (by omega) (by omega) (by omega)
                obtain ⟨g1, g2⟩ := nm_f (s := s) (nr_bad hcl (okb_f (by omega)))
                rw [g1, g2]; rfl
              · skip
                have h62 := t_dec h60
                refine rg_put (d := 40) (v := .d (.fl (.int .u8 (((bt s k).toNat : Int))))) rfl (oy rfl rfl rfl h60 (op_move rfl rfl rfl)) ?_
                refine rg_put (d := 41) (v := .d (.fl (.bool ((decide (((bt s k).toNat : Int) ≤ 57)))))) rfl (oy rfl rfl rfl h60 (op_bin rfl rfl rfl (b_leq _ _ _ _) rfl)) ?_
                refine rg_put (d := 42) (v := .d (.fl (.bool ((decide (((bt s k).toNat : Int) ≤ 57)))))) rfl (oy rfl rfl rfl rfl (op_pick rfl rfl (by rw [h60]; rfl) rfl)) ?_
                refine rg_put (d := 43) (v := .d (.fl (.bool ((decide (((bt s k).toNat : Int) ≤ 57)))))) rfl (og rfl (op_pick rfl rfl rfl rfl)) ?_
                refine rg_put (d := 44) (v := .d (.fl (.bool ((!((decide (((bt s k).toNat : Int) ≤ 57)))))))) rfl (og rfl (op_un rfl rfl (u_not _) rfl)) ?_
                refine rg_done rfl ?_
                refine a_cond rfl (fun h63 => ?_) (fun h63 => ?_)
                · skip
                  have h64 := t_not h63
                  have h65 := f_dec h64
                  refine a_rseq ?_
                  refine rg_put (d := 2) (v := .d (.fl (.string (⟨#[]⟩)))) rfl (og rfl (op_assign rfl rfl rfl)) ?_
                  refine rg_put (d := 3) (v := .d (.fl (.int .i64 19))) rfl (og rfl (op_assign rfl rfl rfl)) ?_
                  refine rg_done rfl ?_
                  refine a_ret ?_
                  show ∃ ds, ResL _ _ _ ds ∧ RV.of ds = _
                  refine ⟨[.fl (.string (⟨#[]⟩)), .fl (.int .i64 19)], (.cons (.tmp rfl (.d _)) (.cons (.tmp rfl (.d _)) .nil)), ?_⟩
                  obtain ⟨hst, hcl⟩ := nr_as (s := s) (k := k) (by omega) (by omega) (by omega)
                  obtain ⟨g1, g2⟩ := nm_f (s := s) (nr_bad hcl (okb_f (by omega)))
                  rw [g1, g2]; rfl
                · skip
                  have h66 := f_not h63
                  have h67 := t_dec h66
                  refine a_skip ?_
                  show A _ _ _ _ _ _ _
                  refine a_region ?_
                  refine rg_put (d := 45) (v := .ow 101) rfl (og rfl (op_move rfl rfl rfl)) ?_
                  refine rg_put (d := 46) (v := .d (.fl (.int .u8 (((bt s k).toNat : Int))))) rfl (og rfl (op_move rfl rfl rfl)) ?_
                  refine rg_put (d := 47) (v := .d (.sl 1 (List.map (rI .u8) [((bt s k).toNat : Int)]))) rfl (og rfl (of_eff (op_slices rfl Tryz.underlying115 ti5 rfl rfl rfl (by kernel_rfl) (xs := [.fl (.int .u8 (((bt s k).toNat : Int)))]) rfl rfl (.cons rfl rfl (.d _) rfl rfl rfl .nil) rfl) rfl)) ?_
                  refine rg_nam (d := 48) (v := .ow 108) (m := 108) (nw := [(108, .tr 5 1 (tD (rI .u8) (((nr s k) ++ [((bt s k).toNat : Int)])))), (101, .no)]) rfl (og rfl (of_eff (s_append_td 108 rfl Tryz.underlying115 ti5 rfl rfl rfl rfl rfl (.d _) (by simp only [List.length_append, List.length_cons, List.length_nil]; omega) rfl) rfl)) rfl ?_
                  refine rg_put (d := 4) (v := .ow 108) rfl (og rfl (op_assign rfl rfl rfl)) ?_
                  refine rg_done rfl ?_
                  show A _ _ _ _ _ _ _
                  refine a_region ?_
                  refine rg_put (d := 11) (v := .d (.fl (.int .i64 (k : Int)))) rfl (og rfl (op_move rfl rfl rfl)) ?_
                  refine rg_put (d := 12) (v := .d (.fl (.int .i64 (((k : Int) + 1))))) rfl (og rfl (op_bin rfl rfl rfl (fun x y w => b_add64 _ _ _ x y w (by omega)) rfl)) ?_
                  refine rg_put (d := 5) (v := .d (.fl (.int .i64 (((k : Int) + 1))))) rfl (og rfl (op_assign rfl rfl rfl)) ?_
                  refine rg_done rfl ?_
                  obtain ⟨hst, hcl⟩ := nr_as (s := s) (k := k) (by omega) (by omega) (by omega)
                  have hst := hst.symm
                  have hall : (cln (s.data.toList.take (k + 1))).all okb = true := by rw [hcl, List.all_append, ha]; simp only [List.all_cons, List.all_nil, Bool.and_true, Bool.true_and]; exact okb_t (by omega)
                  show ∃ i, _ ∧ _ ∧ Imp _ _ _ _ _
                  refine ⟨k + 1, ⟨by omega, hall⟩, by omega, imp_ren (fun m => bif Nat.beq m 101 then 108 else m) rfl ⟨rfl, (by first | rfl | exact ci (by omega)), rfl, trivial⟩ ⟨(congrArg (fun z => Ob.tr 5 1 (tD (rI .u8) z)) hst), trivial⟩⟩
            · skip
              have h68 := t_dec h58
              refine rg_put (d := 33) (v := .d (.fl (.int .u8 (((bt s k).toNat : Int))))) rfl (oy rfl rfl rfl h58 (op_move rfl rfl rfl)) ?_
              refine rg_put (d := 34) (v := .d (.fl (.bool ((decide (((bt s k).toNat : Int) ≤ 90)))))) rfl (oy rfl rfl rfl h58 (op_bin rfl rfl rfl (b_leq _ _ _ _) rfl)) ?_
              refine rg_put (d := 35) (v := .d (.fl (.bool ((decide (((bt s k).toNat : Int) ≤ 90)))))) rfl (og rfl (op_pick rfl rfl (by rw [h58]; rfl) rfl)) ?_
              refine rg_put (d := 36) (v := .d (.fl (.bool ((decide (((bt s k).toNat : Int) ≤ 90)))))) rfl (og rfl (op_move rfl rfl rfl)) ?_
              rcases fot ((decide (((bt s k).toNat : Int) ≤ 90))) with h69 | h69
              · skip
                have h70 := f_dec h69
                refine rg_put (d := 37) (v := .d (.fl (.int .u8 (((bt s k).toNat : Int))))) rfl (oy rfl rfl rfl h69 (op_move rfl rfl rfl)) ?_
                refine rg_put (d := 38) (v := .d (.fl (.bool ((decide (48 ≤ ((bt s k).toNat : Int))))))) rfl (oy rfl rfl rfl h69 (op_bin rfl rfl rfl (b_geq _ _ _ _) rfl)) ?_
                refine rg_put (d := 39) (v := .d (.fl (.bool ((decide (48 ≤ ((bt s k).toNat : Int))))))) rfl (oy rfl rfl rfl h69 (op_move rfl rfl rfl)) ?_
                rcases fot ((decide (48 ≤ ((bt s k).toNat : Int)))) with h71 | h71
                · skip
                  have h72 := f_dec h71
                  refine rg_put (d := 40) (v := .d (.fl undef)) rfl (on rfl rfl rfl h71) ?_
                  refine rg_put (d := 41) (v := .d (.fl undef)) rfl (on rfl rfl rfl h71) ?_
                  refine rg_put (d := 42) (v := .d (.fl (.bool false))) rfl (oy rfl rfl rfl h69 (op_pick rfl rfl (by rw [h71]; rfl) rfl)) ?_
                  refine rg_put (d := 43) (v := .d (.fl (.bool false))) rfl (og rfl (op_pick rfl rfl (by rw [h69]; rfl) rfl)) ?_
                  refine rg_put (d := 44) (v := .d (.fl (.bool (!false)))) rfl (og rfl (op_un rfl rfl (u_not _) rfl)) ?_
                  refine rg_done rfl ?_
                  refine a_condK rfl rfl ?_
                  refine a_rseq ?_
                  refine rg_put (d := 2) (v := .d (.fl (.string (⟨#[]⟩)))) rfl (og rfl (op_assign rfl rfl rfl)) ?_
                  refine rg_put (d := 3) (v := .d (.fl (.int .i64 19))) rfl (og rfl (op_assign rfl rfl rfl)) ?_
                  refine rg_done rfl ?_
                  refine a_ret ?_
                  show ∃ ds, ResL _ _ _ ds ∧ RV.of ds = _
                  refine ⟨[.fl (.string (⟨#[]⟩)), .fl (.int .i64 19)], (.cons (.tmp rfl (.d _)) (.cons (.tmp rfl (.d _)) .nil)), ?_⟩
                  obtain ⟨hst, hcl⟩ := nr_as (s := s) (k := k) (by omega) (by omega) (by omega)
                  obtain ⟨g1, g2⟩ := nm_f (s := s) (nr_bad hcl (okb_f (by omega)))
                  rw [g1, g2]; rfl
                · skip
                  have h73 := t_dec h71
                  refine rg_put (d := 40) (v := .d (.fl (.int .u8 (((bt s k).toNat : Int))))) rfl (oy rfl rfl rfl h71 (op_move rfl rfl rfl)) ?_
                  refine rg_put (d := 41) (v := .d (.fl (.bool ((decide (((bt s k).toNat : Int) ≤ 57)))))) rfl (oy rfl rfl rfl h71 (op_bin rfl rfl rfl (b_leq _ _ _ _) rfl)) ?_
                  refine rg_put (d := 42) (v := .d (.fl (.bool ((decide (((bt s k).toNat : Int) ≤ 57)))))) rfl (oy rfl rfl rfl h69 (op_pick rfl rfl (by rw [h71]; rfl) rfl)) ?_
                  refine rg_put (d := 43) (v := .d (.fl (.bool ((decide (((bt s k).toNat : Int) ≤ 57)))))) rfl (og rfl (op_pick rfl rfl (by rw [h69]; rfl) rfl)) ?_
                  refine rg_put (d := 44) (v := .d (.fl (.bool ((!((decide (((bt s k).toNat : Int) ≤ 57)))))))) rfl (og rfl (op_un rfl rfl (u_not _) rfl)) ?_
                  refine rg_done rfl ?_
                  refine a_cond rfl (fun h74 => ?_) (fun h74 => ?_)
                  · skip
                    have h75 := t_not h74
                    have h76 := f_dec h75
                    refine a_rseq ?_
                    refine rg_put (d := 2) (v := .d (.fl (.string (⟨#[]⟩)))) rfl (og rfl (op_assign rfl rfl rfl)) ?_
                    refine rg_put (d := 3) (v := .d (.fl (.int .i64 19))) rfl (og rfl (op_assign rfl rfl rfl)) ?_
                    refine rg_done rfl ?_
                    refine a_ret ?_
                    show ∃ ds, ResL _ _ _ ds ∧ RV.of ds = _
                    refine ⟨[.fl (.string (⟨#[]⟩)), .fl (.int .i64 19)], (.cons (.tmp rfl (.d _)) (.cons (.tmp rfl (.d _)) .nil)), ?_⟩
                    obtain ⟨hst, hcl⟩ := nr_as (s := s) (k := k) (by omega) (by omega) (by omega)
                    obtain ⟨g1, g2⟩ := nm_f (s := s) (nr_bad hcl (okb_f (by omega)))
                    rw [g1, g2]; rfl
                  · skip
                    have h77 := f_not h74
                    have h78 := t_dec h77
                    refine a_skip ?_
                    show A _ _ _ _ _ _ _
                    refine a_region ?_
                    refine rg_put (d := 45) (v := .ow 101) rfl (og rfl (op_move rfl rfl rfl)) ?_
                    refine rg_put (d := 46) (v := .d (.fl (.int .u8 (((bt s k).toNat : Int))))) rfl (og rfl (op_move rfl rfl rfl)) ?_
                    refine rg_put (d := 47) (v := .d (.sl 1 (List.map (rI .u8) [((bt s k).toNat : Int)]))) rfl (og rfl (of_eff (op_slices rfl Tryz.underlying115 ti5 rfl rfl rfl (by kernel_rfl) (xs := [.fl (.int .u8 (((bt s k).toNat : Int)))]) rfl rfl (.cons rfl rfl (.d _) rfl rfl rfl .nil) rfl) rfl)) ?_
                    refine rg_nam (d := 48) (v := .ow 109) (m := 109) (nw := [(109, .tr 5 1 (tD (rI .u8) (((nr s k) ++ [((bt s k).toNat : Int)])))), (101, .no)]) rfl (og rfl (of_eff (s_append_td 109 rfl Tryz.underlying115 ti5 rfl rfl rfl rfl rfl (.d _) (by simp only [List.length_append, List.length_cons, List.length_nil]; omega) rfl) rfl)) rfl ?_
                    refine rg_put (d := 4) (v := .ow 109) rfl (og rfl (op_assign rfl rfl rfl)) ?_
                    refine rg_done rfl ?_
                    show A _ _ _ _ _ _ _
                    refine a_region ?_
                    refine rg_put (d := 11) (v := .d (.fl (.int .i64 (k : Int)))) rfl (og rfl (op_move rfl rfl rfl)) ?_
                    refine rg_put (d := 12) (v := .d (.fl (.int .i64 (((k : Int) + 1))))) rfl (og rfl (op_bin rfl rfl rfl (fun x y w => b_add64 _ _ _ x y w (by omega)) rfl)) ?_
                    refine rg_put (d := 5) (v := .d (.fl (.int .i64 (((k : Int) + 1))))) rfl (og rfl (op_assign rfl rfl rfl)) ?_
                    refine rg_done rfl ?_
                    obtain ⟨hst, hcl⟩ := nr_as (s := s) (k := k) (by omega) (by omega) (by omega)
                    have hst := hst.symm
                    have hall : (cln (s.data.toList.take (k + 1))).all okb = true := by rw [hcl, List.all_append, ha]; simp only [List.all_cons, List.all_nil, Bool.and_true, Bool.true_and]; exact okb_t (by omega)
                    show ∃ i, _ ∧ _ ∧ Imp _ _ _ _ _
                    refine ⟨k + 1, ⟨by omega, hall⟩, by omega, imp_ren (fun m => bif Nat.beq m 101 then 109 else m) rfl ⟨rfl, (by first | rfl | exact ci (by omega)), rfl, trivial⟩ ⟨(congrArg (fun z => Ob.tr 5 1 (tD (rI .u8) z)) hst), trivial⟩⟩
              · skip
                have h79 := t_dec h69
                refine rg_put (d := 37) (v := .d (.fl undef)) rfl (on rfl rfl rfl h69) ?_
                refine rg_put (d := 38) (v := .d (.fl undef)) rfl (on rfl rfl rfl h69) ?_
                refine rg_put (d := 39) (v := .d (.fl undef)) rfl (on rfl rfl rfl h69) ?_
                refine rg_put (d := 40) (v := .d (.fl undef)) rfl (ou rfl rfl rfl) ?_
                refine rg_put (d := 41) (v := .d (.fl undef)) rfl (ou rfl rfl rfl) ?_
                refine rg_put (d := 42) (v := .d (.fl undef)) rfl (on rfl rfl rfl h69) ?_
                refine rg_put (d := 43) (v := .d (.fl (.bool true))) rfl (og rfl (op_pick rfl rfl (by rw [h69]; rfl) rfl)) ?_
                refine rg_put (d := 44) (v := .d (.fl (.bool (!true)))) rfl (og rfl (op_un rfl rfl (u_not _) rfl)) ?_
                refine rg_done rfl ?_
                refine a_condF rfl rfl ?_
                refine a_skip ?_
                show A _ _ _ _ _ _ _
                refine a_region ?_
                refine rg_put (d := 45) (v := .ow 101) rfl (og rfl (op_move rfl rfl rfl)) ?_
                refine rg_put (d := 46) (v := .d (.fl (.int .u8 (((bt s k).toNat : Int))))) rfl (og rfl (op_move rfl rfl rfl)) ?_
                refine rg_put (d := 47) (v := .d (.sl 1 (List.map (rI .u8) [((bt s k).toNat : Int)]))) rfl (og rfl (of_eff (op_slices rfl Tryz.underlying115 ti5 rfl rfl rfl (by kernel_rfl) (xs := [.fl (.int .u8 (((bt s k).toNat : Int)))]) rfl rfl (.cons rfl rfl (.d _) rfl rfl rfl .nil) rfl) rfl)) ?_
                refine rg_nam (d := 48) (v := .ow 110) (m := 110) (nw := [(110, .tr 5 1 (tD (rI .u8) (((nr s k) ++ [((bt s k).toNat : Int)])))), (101, .no)]) rfl (og rfl (of_eff (s_append_td 110 rfl Tryz.underlying115 ti5 rfl rfl rfl rfl rfl (.d _) (by simp only [List.length_append, List.length_cons, List.length_nil]; omega) rfl) rfl)) rfl ?_
                refine rg_put (d := 4) (v := .ow 110) rfl (og rfl (op_assign rfl rfl rfl)) ?_
                refine rg_done rfl ?_
                show A _ _ _ _ _ _ _
                refine a_region ?_
                refine rg_put (d := 11) (v := .d (.fl (.int .i64 (k : Int)))) rfl (og rfl (op_move rfl rfl rfl)) ?_
                refine rg_put (d := 12) (v := .d (.fl (.int .i64 (((k : Int) + 1))))) rfl (og rfl (op_bin rfl rfl rfl (fun x y w => b_add64 _ _ _ x y w (by omega)) rfl)) ?_
                refine rg_put (d := 5) (v := .d (.fl (.int .i64 (((k : Int) + 1))))) rfl (og rfl (op_assign rfl rfl rfl)) ?_
                refine rg_done rfl ?_
                obtain ⟨hst, hcl⟩ := nr_as (s := s) (k := k) (by omega) (by omega) (by omega)
                have hst := hst.symm
                have hall : (cln (s.data.toList.take (k + 1))).all okb = true := by rw [hcl, List.all_append, ha]; simp only [List.all_cons, List.all_nil, Bool.and_true, Bool.true_and]; exact okb_t (by omega)
                show ∃ i, _ ∧ _ ∧ Imp _ _ _ _ _
                refine ⟨k + 1, ⟨by omega, hall⟩, by omega, imp_ren (fun m => bif Nat.beq m 101 then 110 else m) rfl ⟨rfl, (by first | rfl | exact ci (by omega)), rfl, trivial⟩ ⟨(congrArg (fun z => Ob.tr 5 1 (tD (rI .u8) z)) hst), trivial⟩⟩
    · skip
      have h80 := t_beq h3
      refine rg_put (d := 19) (v := .d (.fl undef)) rfl (on rfl rfl rfl h3) ?_
      refine rg_put (d := 20) (v := .d (.fl undef)) rfl (on rfl rfl rfl h3) ?_
      refine rg_put (d := 21) (v := .d (.fl (.bool true))) rfl (og rfl (op_pick rfl rfl (by rw [h3]; rfl) rfl)) ?_
      refine rg_done rfl ?_
      refine a_condK rfl rfl ?_
      refine a_exit ?_
      show A _ _ _ _ _ _ _
      refine a_region ?_
      refine rg_put (d := 11) (v := .d (.fl (.int .i64 (k : Int)))) rfl (og rfl (op_move rfl rfl rfl)) ?_
      refine rg_put (d := 12) (v := .d (.fl (.int .i64 (((k : Int) + 1))))) rfl (og rfl (op_bin rfl rfl rfl (fun x y w => b_add64 _ _ _ x y w (by omega)) rfl)) ?_
      refine rg_put (d := 5) (v := .d (.fl (.int .i64 (((k : Int) + 1))))) rfl (og rfl (op_assign rfl rfl rfl)) ?_
      refine rg_done rfl ?_
      obtain ⟨hst, hcl⟩ := nr_sk (s := s) (k := k) (by omega) (by omega)
      have hst := hst.symm
      have hall : (cln (s.data.toList.take (k + 1))).all okb = true := by rw [hcl]; exact ha
      show ∃ i, _ ∧ _ ∧ Imp _ _ _ _ _
      refine ⟨k + 1, ⟨by omega, hall⟩, by omega, imp_forget rfl ⟨rfl, (by first | rfl | exact ci (by omega)), rfl, trivial⟩ ⟨(congrArg (fun z => Ob.tr 5 1 (tD (rI .u8) z)) hst), trivial⟩⟩
  · skip
    have h81 := f_dec h1
    refine a_exit ?_
    show A _ _ _ _ _ _ _
    refine a_seq ?_
    refine a_rseq ?_
    refine rg_put (d := 49) (v := .ow 101) rfl (og rfl (op_move rfl rfl rfl)) ?_
    refine rg_put (d := 50) (v := .d (.fl (.int .i64 ((((nr s k)).length : Int))))) rfl (og rfl (op_len_tr rfl Tryz.underlying115 rfl rfl tD_len rfl)) ?_
    refine rg_put (d := 51) (v := .d (.fl (.bool ((decide ((((nr s k)).length : Int) < 2)))))) rfl (og rfl (op_bin rfl rfl rfl (b_lss _ _ _ _) rfl)) ?_
    refine rg_put (d := 52) (v := .d (.fl (.bool ((decide ((((nr s k)).length : Int) < 2)))))) rfl (og rfl (op_move rfl rfl rfl)) ?_
    rcases fot ((decide ((((nr s k)).length : Int) < 2))) with h82 | h82
    · skip
      have h83 := f_dec h82
      refine rg_put (d := 53) (v := .ow 101) rfl (oy rfl rfl rfl h82 (op_move rfl rfl rfl)) ?_
      refine rg_put (d := 54) (v := .d (.fl (.int .i64 ((((nr s k)).length : Int))))) rfl (oy rfl rfl rfl h82 (op_len_tr rfl Tryz.underlying115 rfl rfl tD_len rfl)) ?_
      refine rg_put (d := 55) (v := .d (.fl (.bool ((decide (10 < (((nr s k)).length : Int))))))) rfl (oy rfl rfl rfl h82 (op_bin rfl rfl rfl (b_gtr _ _ _ _) rfl)) ?_
      refine rg_put (d := 56) (v := .d (.fl (.bool ((decide (10 < (((nr s k)).length : Int))))))) rfl (og rfl (op_pick rfl rfl (by rw [h82]; rfl) rfl)) ?_
      refine rg_done rfl ?_
      refine a_cond rfl (fun h84 => ?_) (fun h84 => ?_)
      · skip
        have h85 := t_dec h84
        refine a_rseq ?_
        refine rg_put (d := 2) (v := .d (.fl (.string (⟨#[]⟩)))) rfl (og rfl (op_assign rfl rfl rfl)) ?_
        refine rg_put (d := 3) (v := .d (.fl (.int .i64 19))) rfl (og rfl (op_assign rfl rfl rfl)) ?_
        refine rg_done rfl ?_
        refine a_ret ?_
        show ∃ ds, ResL _ _ _ ds ∧ RV.of ds = _
        refine ⟨[.fl (.string (⟨#[]⟩)), .fl (.int .i64 19)], (.cons (.tmp rfl (.d _)) (.cons (.tmp rfl (.d _)) .nil)), ?_⟩
        obtain ⟨g1, g2⟩ := nr_end (s := s) (k := k) (by omega)
        have e9 : (nr s k).length = (cS s).length := by rw [g1, List.length_map]
        obtain ⟨g3, g4⟩ := nm_f (s := s) (nm_lenF (by omega))
        rw [g3, g4]; rfl
      · skip
        have h86 := f_dec h84
        refine a_skip ?_
        show A _ _ _ _ _ _ _
        refine a_rseq ?_
        refine rg_put (d := 57) (v := .ow 101) rfl (og rfl (op_move rfl rfl rfl)) ?_
        refine rg_imp (imp_leakT 57 101 rfl rfl) ?_
        refine rg_put (d := 58) (v := .d (.fl (.string ((ibs (nr s k)))))) rfl (og rfl (op_strOf rfl Tryz.underlying115 Tryz.underlying5 Tryz.underlying9 (l := (nr s k)) rfl rfl)) ?_
        refine rg_put (d := 2) (v := .d (.fl (.string ((ibs (nr s k)))))) rfl (og rfl (op_assign rfl rfl rfl)) ?_
        refine rg_put (d := 3) (v := .d (.fl (.int .i64 0))) rfl (og rfl (op_assign rfl rfl rfl)) ?_
        refine rg_done rfl ?_
        refine a_ret ?_
        show ∃ ds, ResL _ _ _ ds ∧ RV.of ds = _
        refine ⟨[.fl (.string ((ibs (nr s k)))), .fl (.int .i64 0)], (.cons (.tmp rfl (.d _)) (.cons (.tmp rfl (.d _)) .nil)), ?_⟩
        obtain ⟨g1, g2⟩ := nr_end (s := s) (k := k) (by omega)
        have e9 : (nr s k).length = (cS s).length := by rw [g1, List.length_map]
        rw [g2] at ha
        have hg := nm_of (s := s) (by omega) (by omega) ha
        rw [(nm_t hg).1, (nm_t hg).2, g1, ibs_of]; rfl
    · skip
      have h87 := t_dec h82
      refine rg_put (d := 53) (v := .d (.fl undef)) rfl (on rfl rfl rfl h82) ?_
      refine rg_put (d := 54) (v := .d (.fl undef)) rfl (on rfl rfl rfl h82) ?_
      refine rg_put (d := 55) (v := .d (.fl undef)) rfl (on rfl rfl rfl h82) ?_
      refine rg_put (d := 56) (v := .d (.fl (.bool true))) rfl (og rfl (op_pick rfl rfl (by rw [h82]; rfl) rfl)) ?_
      refine rg_done rfl ?_
      refine a_condK rfl rfl ?_
      refine a_rseq ?_
      refine rg_put (d := 2) (v := .d (.fl (.string (⟨#[]⟩)))) rfl (og rfl (op_assign rfl rfl rfl)) ?_
      refine rg_put (d := 3) (v := .d (.fl (.int .i64 19))) rfl (og rfl (op_assign rfl rfl rfl)) ?_
      refine rg_done rfl ?_
      refine a_ret ?_
      show ∃ ds, ResL _ _ _ ds ∧ RV.of ds = _
      refine ⟨[.fl (.string (⟨#[]⟩)), .fl (.int .i64 19)], (.cons (.tmp rfl (.d _)) (.cons (.tmp rfl (.d _)) .nil)), ?_⟩
      obtain ⟨g1, g2⟩ := nr_end (s := s) (k := k) (by omega)
      have e9 : (nr s k).length = (cS s).length := by rw [g1, List.length_map]
      obtain ⟨g3, g4⟩ := nm_f (s := s) (nm_lenF (by omega))
      rw [g3, g4]; rfl
end Go.Proofs.YtaoopadfijkbcaaGreatDoor.Wk
