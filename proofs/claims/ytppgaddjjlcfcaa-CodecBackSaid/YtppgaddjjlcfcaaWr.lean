/- Encodings are written: copies, codes. Conditions: the slices read as lists; at most 100000 bytes. -/
import Derived.Test.YtppgaddjjlcfcaaRot
import Derived.Deep.RegionHeldLaw
set_option linter.unusedSimpArgs false
set_option linter.unusedVariables false
namespace Go.Proofs.Ytppgaddjjlcfcaa.Mt
open Go
def zz (n : Int) : Nat := if n < 0 then (-2 * n - 1).toNat else (2 * n).toNat
def enc (c : Nat) : List Int := if c < 128 then [(c : Int)] else ((c % 128 + 128 : Nat) : Int) :: enc (c / 128)
termination_by c
decreasing_by omega
theorem enc_lo {c : Nat} (h : c < 128) : enc c = [(c : Int)] := by rw [enc, if_pos h]
theorem enc_hi {c : Nat} (h : ¬ c < 128) : enc c = ((c % 128 + 128 : Nat) : Int) :: enc (c / 128) := by rw [enc, if_neg h]
theorem enc_len : ∀ (k c : Nat), c < 128 ^ (k + 1) → (enc c).length ≤ k + 1 := by
  intro k
  induction k with
  | zero => intro c h; rw [enc_lo (by simpa using h)]; simp
  | succ k ih =>
    intro c h
    by_cases h1 : c < 128
    · rw [enc_lo h1]; simp
    · rw [enc_hi h1, List.length_cons]
      have h2 : c / 128 < 128 ^ (k + 1) := by rw [Nat.div_lt_iff_lt_mul (by decide)]; rw [← Nat.pow_succ]; exact h
      have := ih _ h2
      omega
theorem enc_ten {c : Nat} (h : c < 18446744073709551616) : (enc c).length ≤ 10 := enc_len 9 c (Nat.lt_trans h (by decide))
theorem enc_pos (c : Nat) : 0 < (enc c).length := by
  by_cases h : c < 128
  · rw [enc_lo h]; simp
  · rw [enc_hi h]; simp
theorem enc_in : ∀ (n c : Nat), c ≤ n → ∀ x ∈ enc c, 0 ≤ x ∧ x ≤ 255 := by
  intro n
  induction n with
  | zero => intro c h x hx; rw [enc_lo (by omega)] at hx; simp only [List.mem_singleton] at hx; omega
  | succ n ih =>
    intro c h x hx
    by_cases h1 : c < 128
    · rw [enc_lo h1] at hx; simp only [List.mem_singleton] at hx; omega
    · rw [enc_hi h1, List.mem_cons] at hx
      rcases hx with hx | hx
      · omega
      · exact ih _ (by omega) x hx
theorem zz_lt {n : Int} (h : -9223372036854775808 ≤ n ∧ n ≤ 9223372036854775807) : zz n < 18446744073709551616 := by unfold zz; split <;> omega
theorem iat_wf {l : List Int} (h : ∀ x ∈ l, 0 ≤ x ∧ x ≤ 255) : ∀ i, (Lit.int .u8 (iat l i)).wf = true := by
  intro i
  apply Wk.u8_w
  unfold iat
  rw [List.getD_eq_getElem?_getD]
  rcases Nat.lt_or_ge i l.length with h1 | h1
  · rw [List.getElem?_eq_getElem h1]
    exact h _ (List.getElem_mem h1)
  · rw [List.getElem?_eq_none h1]
    exact ⟨by decide, by decide⟩
theorem or128 : ∀ n : Fin 256, bits BinOp.or IntKind.u8 (n.val : Int) 128 = ((n.val % 128 + 128 : Nat) : Int) := by decide +kernel
theorem not_u64 (x : Nat) (hx : x < 18446744073709551616) : x ^^^ 18446744073709551615 = 18446744073709551615 - x := by
  have h : (BitVec.ofNat 64 x ^^^ BitVec.allOnes 64).toNat = 2 ^ 64 - 1 - (BitVec.ofNat 64 x).toNat := by rw [BitVec.xor_allOnes, BitVec.toNat_not]
  have hn : (BitVec.ofNat 64 x).toNat = x := by rw [BitVec.toNat_ofNat]; exact Nat.mod_eq_of_lt (by omega)
  rw [BitVec.toNat_xor, hn, BitVec.toNat_allOnes] at h
  exact h
theorem zig {n : Int} (h : -9223372036854775808 ≤ n ∧ n ≤ 9223372036854775807) : bits BinOp.xor IntKind.u64 (IntKind.u64.wrap (IntKind.u64.wrap n * 2)) (IntKind.u64.wrap (n / 9223372036854775808)) = ((zz n : Nat) : Int) := by
  simp only [IntKind.wrap_u64]
  by_cases h0 : n < 0
  · obtain ⟨a, ha⟩ : ∃ a : Nat, n % 18446744073709551616 * 2 % 18446744073709551616 = (a : Int) := ⟨(n % 18446744073709551616 * 2 % 18446744073709551616).toNat, by omega⟩
    have hb : n / 9223372036854775808 % 18446744073709551616 = ((18446744073709551615 : Nat) : Int) := by omega
    rw [ha, hb, bits_xor_u64_nat a 18446744073709551615 (by omega) (by decide), not_u64 a (by omega)]
    unfold zz
    rw [if_pos h0]
    omega
  · obtain ⟨a, ha⟩ : ∃ a : Nat, n % 18446744073709551616 * 2 % 18446744073709551616 = (a : Int) := ⟨(n % 18446744073709551616 * 2 % 18446744073709551616).toNat, by omega⟩
    have hb : n / 9223372036854775808 % 18446744073709551616 = ((0 : Nat) : Int) := by omega
    rw [ha, hb, bits_xor_u64_nat a 0 (by omega) (by decide), Nat.xor_zero]
    unfold zz
    rw [if_neg h0]
    omega
end Go.Proofs.Ytppgaddjjlcfcaa.Mt
namespace Go.Proofs.Ytppgaddjjlcfcaa.Wk
open Go.RowKit
open Go.Proofs.Ytppgaddjjlcfcaa.Mt
theorem step_append_own {P : Program} {ops : Array Oper} {o : Oper} {a : Act} {w : World} {K : Act → World → Prop} {Q : Exit → Act → World → Prop} {E : Prop} (hgd : o.guard = none) (s x : Operand) (t : TypeId)
    (ho : o.op = .call { callee := .builtin .append, args := #[s, x], argTypes := #[t, t] })
    (base : Nat) (e : TypeId) (i : TypeInfo) (z : Value) (size bytes : Nat) (ht : P.underlying t = some (.slice e)) (hi : P.info? e = some i) (hz : i.zero = some z)
    (hsize : i.size = size) (hby : i.bytes = bytes) (hzs : z.cells.size = size) (hsz : 0 < size)
    (v : Value) (n : Nat) (xs : List Value) (hs : a.eval s = v) (hown : w.ownsRow base e size v n xs)
    (ad : Addr) (m c : Nat) (news : List Value) (hx : a.eval x = .slice (some ad) m c) (hl : news.length = m * size) (hc : ∀ j u, news[j]? = some u → w.cell? (ad.add j) = some u) (h1 : ∀ u ∈ news, u.oneCell' = true)
    (h63 : n + m ≤ maxLen) (hbytes : (n + m) * bytes ≤ 140737488355328) (hbase : base ≤ w.heap.size)
    (h : ∀ v' w', w'.ownsRow base e size v' (n + m) (xs ++ news) → w.grownBy w' v.ownBlock → K (a.put o.dst v') w') :
    if Region.wanted o (yielded ops a.tmps) = true then Oper.wp P o a w K Q else E := by
  have hw : Region.wanted o (yielded ops a.tmps) = true := by simp [Region.wanted, hgd]
  rw [if_pos hw]
  obtain ⟨v', w', hr, h2, h3, _⟩ := run_append_own (P := P) w base t o.type e i z size bytes ht hi hz hsize hby hzs hsz v n xs hown ad m c news hl hc h1 h63 hbytes hbase
  unfold Oper.wp execOp
  simp only [ho, resolve, invoke, builtin, Sem.run_bind, Sem.run_pure, Result.andThen_ok, List.map_toArray, List.map_cons, List.map_nil, hs, hx, hr]
  exact h v' w' h2 h3
theorem u8_info : (Try.prog.info? 5).map (fun i => (i.zero, i.size, i.bytes)) = some (some (.int .u8 0), 1, 1) := by kernel_rfl
theorem vk_app (a b : List Int) : vk .u8 (a ++ b) = vk .u8 a ++ vk .u8 b := List.map_append
theorem vk_one (l : List Int) : ∀ u ∈ vk .u8 l, u.oneCell' = true := by
  intro u hu
  simp only [vk, List.mem_map] at hu
  obtain ⟨_, _, rfl⟩ := hu
  rfl
theorem one_byte (x : Int) : ∀ u ∈ [Value.int .u8 x], u.oneCell' = true := by
  intro u hu; simp at hu; subst hu; rfl
theorem new_cell (W : World) (x : Value) (t : TypeId) (n : Nat) (h : n = W.heap.size) : ∀ j u, [x][j]? = some u → (W.alloc (.cells #[x] t)).cell? ((⟨n, 0, none⟩ : Addr).add j) = some u := by
  subst h; exact cell_one_new _ _ _
/-- a slice that may be handed on -/
structure Sl (w : World) (A : Option Addr) (n c : Nat) (zs : List Int) : Prop where
  rk : Rk .u8 w w.heap.size A n zs
  le : n ≤ c
  cap : c ≤ 9223372036854775807
  nil : A = none → n = 0 ∧ c = 0
theorem Sl.up {w w' : World} {A : Option Addr} {n c : Nat} {zs : List Int} (h : Sl w A n c zs) (hb : Below w.heap.size w w') : Sl w' A n c zs := ⟨h.rk.up hb, h.le, h.cap, h.nil⟩
theorem Sl.src {w : World} {A : Option Addr} {n c : Nat} {zs : List Int} (h : Sl w A n c zs) : ∀ ad, A = some ad → ∀ j u, (vk .u8 zs)[j]? = some u → w.cell? (ad.add j) = some u := by
  intro ad ha j u hu
  have hj : j < zs.length := by have := (List.getElem?_eq_some_iff.1 hu).1; simpa [vk] using this
  have hjn : j < n := by rw [← h.rk.1]; exact hj
  obtain ⟨b, off, e, _, hc⟩ := h.rk.get hjn
  rw [ha] at e
  injection e with e
  subst e
  rw [vk_at _ _ _ hj] at hu
  injection hu with hu
  subst hu
  have e : (⟨b, off, none⟩ : Addr).add j = ⟨b, off + j, none⟩ := by unfold Addr.add; by_cases hj : j = 0 <;> simp [hj]
  rw [e]
  exact hc
/-- a row of bytes of the call's own -/
def Ob (base : Nat) (w : World) (v : Value) (l : List Int) : Prop := w.ownsRow base 5 1 v l.length (vk .u8 l)
theorem Ob.nil (base : Nat) (w : World) : Ob base w (.slice none 0 0) [] := World.ownsRow_nil _ _ _ _
theorem Ob.below {base : Nat} {w w' : World} {v : Value} {l : List Int} (h : Ob base w v l) (hb : Below w.heap.size w w') : Ob base w' v l := own_below h hb
theorem Ob.more {base : Nat} {w : World} {v : Value} {l m : List Int} {n : Nat} (h : w.ownsRow base 5 1 v n (vk .u8 l ++ vk .u8 m)) (hn : n = (l ++ m).length) : Ob base w v (l ++ m) := by
  subst hn
  unfold Ob
  rw [vk_app]
  exact h
theorem Ob.sl {base : Nat} {w : World} {v : Value} {l : List Int} (h : Ob base w v l) (hl : l.length ≤ 1000000) (hw : ∀ x ∈ l, 0 ≤ x ∧ x ≤ 255) : ∃ A c, v = .slice A l.length c ∧ Sl w A l.length c l := by
  rcases h.2 with ⟨hv, h0⟩ | ⟨g, cap, cur, hv, hb, hg, hcap, hmax, _, _⟩
  · have hz : l = [] := List.eq_nil_of_length_eq_zero h0
    subst hz
    exact ⟨none, 0, hv, ⟨rk_none _ _ _ (by decide), Nat.le_refl _, by omega, fun _ => ⟨rfl, rfl⟩⟩⟩
  · obtain ⟨A, c, e, hr⟩ := Rk.owned h (by omega) (iat_wf hw)
    have e2 := hv.symm.trans e
    injection e2 with ea _ ec
    subst ea ec
    exact ⟨_, cap, hv, ⟨hr, hcap, by unfold maxLen at hmax; omega, fun h => by cases h⟩⟩
set_option maxHeartbeats 2000000 in
theorem copy11 (A : Option Addr) (n c : Nat) (zs : List Int) (w : World) (h : Sl w A n c zs) (hn : n ≤ 200000) : Calls Try.prog 11 #[.slice A n c] w fun e w' => ∃ v, e = .returned v ∧ Ob w.heap.size w' v zs ∧ Below w.heap.size w w' := by
  obtain ⟨i0, hi0, hz0, hs0, hb0'⟩ := info_parts u8_info
  have HB0 := Lib.hid hb0'
  have HS := Lib.hid h
  have HL : Hid (zs.length = n) := Lib.hid h.rk.1
  have C4 : Hid (0 + n ≤ maxLen) := Lib.hid (by unfold maxLen; omega)
  have C5 : Hid ((0 + n) * 1 ≤ 140737488355328) := Lib.hid (by omega)
  clear h hb0'
  go_enter Try.func11, Try.ntmps11
  go_wp2_with (first | (go_loud (at_builtin; refine Rot.wpList_append_any _ _ 22 rfl (by rfl) w.heap.size 5 i0 (.int .u8 0) 1 1 Try.underlying22 hi0 hz0 hs0 HB0.out rfl (by omega) _ _ _ rfl (World.ownsRow_nil w w.heap.size 5 1) A n c (vk .u8 zs) rfl (by rw [Nat.mul_one]; simp only [vk, List.length_map]; exact HL.out) HS.out.nil HS.out.src (vk_one _) C4.out C5.out (Nat.le_refl _) ?_)) | fail)
  intro v' w9 hown hgrow
  have HO : Hid (Ob w.heap.size w9 v' zs) := Lib.hid (by unfold Ob; rw [HL.out]; simpa using hown)
  have HB : Hid (Below w.heap.size w w9) := Lib.hid ((Below.refl _ _).grown hgrow (Nat.le_refl _) (fun k hk => by cases hk))
  clear hown hgrow
  go_wp2_with fail
  go_ret
  exact ⟨_, rfl, HO.out, HB.out⟩
set_option maxHeartbeats 2000000 in
theorem fresh34 (A : Option Addr) (n c k : Nat) (zs : List Int) (w : World) (h : Sl w A n c zs) (hn : n ≤ 200000) (hk : k ≤ 1000000) : Calls Try.prog 34 #[.slice A n c, .int .i64 (k : Int)] w fun e w' => ∃ v, e = .returned v ∧ Ob w.heap.size w' v zs ∧ Below w.heap.size w w' := by
  obtain ⟨i0, hi0, hz0, hs0, hb0'⟩ := info_parts u8_info
  have HB0 := Lib.hid hb0'
  have HL : Hid (zs.length = n) := Lib.hid h.rk.1
  have C4 : Hid (0 + n ≤ maxLen) := Lib.hid (by unfold maxLen; omega)
  have C5 : Hid ((0 + n) * 1 ≤ 140737488355328) := Lib.hid (by omega)
  have W1 : IntKind.i64.wrap ((n : Int) + (k : Int)) = (n : Int) + (k : Int) := IntWalk.i64_in _ (by omega)
  have HS := Lib.hid h
  clear hb0' h
  go_enter Try.func34, Try.ntmps34
  go_wp2_with (first
    | (at_make; refine wpList_make_own _ rfl _ _ 22 rfl w.heap.size 5 i0 (.int .u8 0) 1 Try.underlying22 hi0 hz0 hs0 .i64 .i64 _ (n + k) rfl rfl (by first | rfl | omega) (by rw [HB0.out]; omega) (by unfold maxLen; omega) (Nat.le_refl _) ?_; intro w1 hown hgrow; have HO1 := Lib.hid hown; have HB1 : Hid (Below w.heap.size w w1) := Lib.hid ((Below.refl _ _).grown hgrow (Nat.le_refl _) (fun k hk => by cases hk)); have HS1 := Lib.hid (HS.out.up HB1.out); have HSZ : Hid (w.heap.size ≤ w1.heap.size) := Lib.hid HB1.out.size; clear hown hgrow)
    | (go_loud (at_builtin; refine Rot.wpList_append_any _ _ 22 rfl (by rfl) w.heap.size 5 i0 (.int .u8 0) 1 1 Try.underlying22 hi0 hz0 hs0 HB0.out rfl (by omega) _ _ _ rfl HO1.out A n c (vk .u8 zs) rfl (by rw [Nat.mul_one]; simp only [vk, List.length_map]; exact HL.out) HS1.out.nil HS1.out.src (vk_one _) C4.out C5.out HSZ.out ?_)) | fail)
  intro v' w9 hown hgrow
  have HO : Hid (Ob w.heap.size w9 v' zs) := Lib.hid (by unfold Ob; rw [HL.out]; simpa using hown)
  have HB : Hid (Below w.heap.size w w9) := Lib.hid (HB1.out.grown hgrow HSZ.out (fun k hk => (World.ownsRow.lt HO1.out k hk).1))
  clear hown hgrow
  go_wp2_with fail
  go_ret
  exact ⟨_, rfl, HO.out, HB.out⟩
set_option maxHeartbeats 4000000 in
set_option maxRecDepth 100000 in
theorem putCode33 (base : Nat) (v : Value) (l : List Int) (n : Int) (w : World) (h : Ob base w v l) (hbase : base ≤ w.heap.size) (hl : l.length ≤ 300000) (hn : -9223372036854775808 ≤ n ∧ n ≤ 9223372036854775807) : Calls Try.prog 33 #[v, .int .i64 n] w fun e w' => ∃ v', e = .returned v' ∧ Ob base w' v' (l ++ enc (zz n)) ∧ Below base w w' := by
  obtain ⟨i0, hi0, hz0, hs0, hb0'⟩ := info_parts u8_info
  have HB0 := Lib.hid hb0'
  have HO := Lib.hid h
  clear hb0' h
  have Z := zig hn
  obtain ⟨c0, hc0⟩ : ∃ c, zz n = c := ⟨_, rfl⟩
  have hc64 := zz_lt hn
  rw [hc0] at Z hc64
  rw [hc0]
  have HN := Lib.hid (enc_ten hc64)
  clear hc0
  go_enter Try.func33, Try.ntmps33
  go_wp2_with fail
  have HO0 := HO
  clear HO
  go_loopw [0, 5] (fun bv cv wr => ∃ (cd : Nat) (cur : List Int), cv = .int .u64 (cd : Int) ∧ cd < 18446744073709551616 ∧ Hid (cur ++ enc cd = l ++ enc c0) ∧ Hid (Ob base wr bv cur) ∧ Hid (Below base w wr)) (fun _ cv _ => (intOf cv).toNat)
  case atStart => exact ⟨c0, l, rfl, hc64, Lib.hid rfl, HO0, Lib.hid (Below.refl _ _)⟩
  case round =>
    obtain ⟨cd, cur, rfl, hcd, HE, HO, HB⟩ := hrel
    clear Z HO0
    have hcl : cur.length ≤ 300010 := by
      have h1 := congrArg List.length HE.out
      rw [List.length_append, List.length_append] at h1
      have := HN.out
      omega
    have C4 : Hid (cur.length + 1 ≤ maxLen) := Lib.hid (by unfold maxLen; omega)
    have C5 : Hid ((cur.length + 1) * 1 ≤ 140737488355328) := Lib.hid (by omega)
    have hsz : base ≤ wr.heap.size := Nat.le_trans hbase HB.out.size
    clear hcl
    by_cases h128 : 128 ≤ cd
    · have h1 : (128 : Int) ≤ (cd : Int) := by omega
      obtain ⟨r, hr⟩ : ∃ r : Nat, cd % 128 + 128 = r := ⟨_, rfl⟩
      obtain ⟨r8, hr8⟩ : ∃ r : Nat, cd % 256 = r := ⟨_, rfl⟩
      have M1 : (cd : Int) % 256 = (r8 : Int) := by omega
      have O1 : bits BinOp.or IntKind.u8 (r8 : Int) 128 = (r : Int) := by
        have := or128 ⟨r8, by omega⟩
        simp only at this
        rw [this]
        congr 1
        omega
      obtain ⟨q, hq⟩ : ∃ q, cd / 128 = q := ⟨_, rfl⟩
      have D1 : (cd : Int) / 128 = (q : Int) := by omega
      have HE2 : Hid ((cur ++ [(r : Int)]) ++ enc q = l ++ enc c0) := Lib.hid (by rw [← HE.out, enc_hi (c := cd) (by omega), hr, hq]; simp)
      have hq64 : q < 18446744073709551616 := by omega
      have hqd : q < cd := by omega
      have HSZ : Hid (base ≤ (wr.alloc (.cells #[.int .u8 ((r : Nat) : Int)] 5)).heap.size) := Lib.hid (by simp; omega)
      clear hr hq hr8
      go_wp2_with (first | (go_loud (at_builtin; refine wpList_append_own _ rfl _ _ 22 rfl base 5 i0 (.int .u8 0) 1 1 Try.underlying22 hi0 hz0 hs0 HB0.out rfl (by omega) _ _ _ rfl (World.ownsRow.alloc HO.out _) ⟨_, 0, none⟩ 1 1 [.int .u8 ((r : Nat) : Int)] rfl rfl (new_cell _ _ _ _ (by simp)) (one_byte _) C4.out C5.out HSZ.out ?_)) | fail)
      intro v' w9 hown hgrow _
      have HO9 : Hid (Ob base w9 v' (cur ++ [(r : Int)])) := Lib.hid (Ob.more (m := [(r : Int)]) (n := cur.length + 1) hown (by simp))
      have HB9 : Hid (Below base w w9) := Lib.hid ((HB.out.alloc hsz (.cells #[.int .u8 ((r : Nat) : Int)] 5)).grown hgrow HSZ.out (fun k hk => (World.ownsRow.lt HO.out k hk).1))
      clear hown hgrow
      go_wp2_with fail
      go_roundw
      case rel => exact ⟨q, _, rfl, hq64, HE2, HO9, HB9⟩
      case measure => simp [intOf]; omega
    · have h1 : ¬ (128 : Int) ≤ (cd : Int) := by omega
      have W8 : (cd : Int) % 256 = (cd : Int) := by omega
      have HE2 : Hid (cur ++ [(cd : Int)] = l ++ enc c0) := Lib.hid (by rw [← HE.out, enc_lo (by omega)])
      have HSZ : Hid (base ≤ (wr.alloc (.cells #[.int .u8 ((cd : Nat) : Int)] 5)).heap.size) := Lib.hid (by simp; omega)
      go_wp2_with (first | (go_loud (at_builtin; refine wpList_append_own _ rfl _ _ 22 rfl base 5 i0 (.int .u8 0) 1 1 Try.underlying22 hi0 hz0 hs0 HB0.out rfl (by omega) _ _ _ rfl (World.ownsRow.alloc HO.out _) ⟨_, 0, none⟩ 1 1 [.int .u8 ((cd : Nat) : Int)] rfl rfl (new_cell _ _ _ _ (by simp)) (one_byte _) C4.out C5.out HSZ.out ?_)) | fail)
      intro v' w9 hown hgrow _
      have HO9 : Hid (Ob base w9 v' (l ++ enc c0)) := Lib.hid (by rw [← HE2.out]; exact Ob.more (m := [(cd : Int)]) (n := cur.length + 1) hown (by simp))
      have HB9 : Hid (Below base w w9) := Lib.hid ((HB.out.alloc hsz (.cells #[.int .u8 ((cd : Nat) : Int)] 5)).grown hgrow HSZ.out (fun k hk => (World.ownsRow.lt HO.out k hk).1))
      clear hown hgrow
      go_wp2_with fail
      go_ret
      exact ⟨_, rfl, HO9.out, HB9.out⟩
end Go.Proofs.Ytppgaddjjlcfcaa.Wk
