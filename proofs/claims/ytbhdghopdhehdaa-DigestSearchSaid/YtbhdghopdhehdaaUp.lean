/- The level above, in the layer and in its reference. Conditions: the slice reads as 64-bit numbers; no more than 4096 of them. -/
import Derived.Test.YtbhdghopdhehdaaJr
import Derived.Test.YtbhdghopdhehdaaUmath
import Derived.Deep.RegionLaw
import Derived.Deep.RegionHeldLaw
set_option linter.unusedSimpArgs false
set_option linter.unusedVariables false
namespace Go.Proofs.Ytbhdghopdhehdaa.Wk
open Go.RowKit
open Go.Proofs.Ytbhdghopdhehdaa.Mt
theorem above33 (n : Nat) (h : n ≤ 9223372036854775807) (w : World) : Calls Try.prog 33 #[.int .i64 (n : Int)] w fun e w' => e = .returned (.int .i64 (ab n : Nat)) ∧ w = w' := by
  have E : Hid (((n : Int) / 2 + (n : Int) % 2) = ((ab n : Nat) : Int)) := Lib.hid (by unfold ab; omega)
  go_enter Try.func33, Try.ntmps33
  go_wp2_with fail
  go_ret
  exact ⟨by rw [← E.out]; rfl, rfl⟩
theorem height30 (n : Nat) (h : n ≤ 9223372036854775807) (w : World) : Calls Try.prog 30 #[.int .i64 (n : Int)] w fun e w' => e = .returned (.int .i64 (ht n : Nat)) ∧ w = w' := by
  go_enter Try.func30, Try.ntmps30
  go_wp2_with fail
  go_loop [0, 3] (fun a i => ∃ m k : Nat, a = .int .i64 m ∧ i = .int .i64 k ∧ Hid (k + ht m = ht n) ∧ k + m ≤ n) (fun a _ => (intOf a).toNat)
  case atStart => exact ⟨n, 0, rfl, rfl, Lib.hid (Nat.zero_add _), by omega⟩
  case round =>
    obtain ⟨m, k, rfl, rfl, HE, hle⟩ := hrel
    by_cases hm : 1 < m
    · have hmI : (1 : Int) < (m : Int) := by omega
      have HN := Lib.hid (ht_more hm)
      have hab : ab m + 1 ≤ m := by unfold ab; omega
      go_wp2_with (go_at_call 33; refine (above33 m (by omega) _).mono ?_; rintro e w' ⟨rfl, rfl⟩)
      go_round
      case rel => exact ⟨ab m, k + 1, rfl, by go_num, Lib.hid (by have := HE.out; have := HN.out; omega), by omega⟩
      case measure => simp [intOf]; omega
    · have hmI : ¬ (1 : Int) < (m : Int) := by omega
      have HK : Hid (ht n = k) := Lib.hid (by have := HE.out; rw [ht_one (by omega)] at this; omega)
      go_wp2_with fail
      go_ret
      exact ⟨by rw [HK.out]; rfl, rfl⟩
/-- what is read lies from block B on -/
def Fr (B : Nat) (A : Option Addr) (n : Nat) : Prop := 0 < n → ∀ b off sp, A = some ⟨b, off, sp⟩ → B ≤ b
theorem Rk.ownedF {k : IntKind} {w : World} {base : Nat} {t : TypeId} {v : Value} {zs : List Int} (h : w.ownsRow base t 1 v zs.length (vk k zs)) (hl : zs.length ≤ 9223372036854775807) (hw : ∀ i, (Lit.int k (iat zs i)).wf = true) : ∃ A c, v = .slice A zs.length c ∧ Rk k w w.heap.size A zs.length zs ∧ Fr base A zs.length := by
  obtain ⟨A, c, rfl, hr⟩ := Rk.owned h hl hw
  refine ⟨A, c, rfl, hr, fun h0 b off sp e => ?_⟩
  obtain ⟨g, cap, hv, hb, _⟩ := h.form h0
  injection hv with hv
  rw [hv] at e
  injection e with e
  injection e with e1
  omega
theorem Ow.cell {k : IntKind} {t : TypeId} {w wr : World} {v u : Value} {xs : List Int} {b o : Nat} (h : Ow k t w.heap.size w wr v xs) (hd : w.cell? ⟨b, o, none⟩ = some u) (hb : b < w.heap.size) : wr.cell? ⟨b, o, none⟩ = some u := (h.2.1.cell (p := ⟨b, o, none⟩) hb).trans hd
theorem u64_info : (Try.prog.info? 23).map (fun i => (i.zero, i.size, i.bytes)) = some (some (.int .u64 0), 1, 8) := by kernel_rfl
theorem step_append_own {P : Program} {ops : Array Oper} {o : Oper} {a : Act} {w : World} {K : Act → World → Prop} {Q : Exit → Act → World → Prop} {E : Prop} (hgd : o.guard = none) (s x : Operand) (t : TypeId)
    (ho : o.op = .call { callee := .builtin .append, args := #[s, x], argTypes := #[t, t] })
    (base : Nat) (e : TypeId) (i : TypeInfo) (z : Value) (size bytes : Nat) (ht : P.underlying t = some (.slice e)) (hi : P.info? e = some i) (hz : i.zero = some z)
    (hsize : i.size = size) (hby : i.bytes = bytes) (hzs : z.cells.size = size) (hsz : 0 < size)
    (v : Value) (n : Nat) (xs : List Value) (hs : a.eval s = v) (hown : w.ownsRow base e size v n xs)
    (ad : Addr) (m c : Nat) (news : List Value) (hx : a.eval x = .slice (some ad) m c) (hl : news.length = m * size) (hc : ∀ j u, news[j]? = some u → w.cell? (ad.add j) = some u) (h1 : ∀ u ∈ news, u.oneCell' = true)
    (h63 : n + m ≤ maxLen) (hbytes : (n + m) * bytes ≤ 140737488355328) (hbase : base ≤ w.heap.size)
    (h : ∀ v' w', w'.ownsRow base e size v' (n + m) (xs ++ news) → w.grownBy w' v.ownBlock → K (a.put o.dst v') w') :
    if Region.wanted o (yielded ops a.tmps) = true then Oper.wp P o a w K Q else E := by
  have hw : Region.wanted o (yielded ops a.tmps) = true := by simp [Region.wanted, hgd]
  rw [if_pos hw]
  obtain ⟨v', w', hr, h2, h3, _⟩ := run_append_own (P := P) w base t o.type e i z size bytes ht hi hz hsize hby hzs hsz v n xs hown ad m c news hl hc h1 h63 hbytes hbase
  unfold Oper.wp execOp
  simp only [ho, resolve, invoke, builtin, Sem.run_bind, Sem.run_pure, Result.andThen_ok, List.map_toArray, List.map_cons, List.map_nil, hs, hx, hr]
  exact h v' w' h2 h3
set_option maxHeartbeats 2000000 in
set_option maxRecDepth 100000 in
theorem up31 (A : Option Addr) (n c : Nat) (l : List Int) (w : World) (h : Rk .u64 w w.heap.size A n l) (hn4 : n ≤ 4096) :
    Calls Try.prog 31 #[.slice A n c] w fun e w' => ∃ A' c', e = .returned (.slice A' (ab n) c') ∧ (Rk .u64 w' w'.heap.size A' (ab n) (upS l) ∧ Fr w.heap.size A' (ab n)) ∧ Below w.heap.size w w' := by
  have hn := h.2.1
  have HL := Lib.hid h.1
  have HR := Lib.hid h
  have HU : Hid (U64 l) := Lib.hid (fun i => u64_r (h.2.2.2 i))
  clear h
  obtain ⟨i0, hi0, hz0, hs0, hb0'⟩ := info_parts u64_info
  obtain ⟨wm, hrun, hown, hg⟩ := run_make_own (P := Try.prog) (w := w) w.heap.size 31 23 i0 (.int .u64 0) 1 Try.underlying31 hi0 hz0 hs0 .i64 .i64 (ab n) (by rw [hb0']; unfold ab; omega) (by unfold maxLen ab; omega) (Nat.le_refl _)
  have HM : Hid (Ow .u64 23 w.heap.size w wm (.slice (some ⟨w.heap.size, 0, none⟩) 0 (ab n)) []) := Lib.hid ⟨Nat.le_refl _, (Below.refl _ _).grown hg (Nat.le_refl _) (fun k hk => by cases hk), hown⟩
  clear hown hg
  go_enter Try.func31, Try.ntmps31
  go_wp2_with (go_at_call 33; refine (above33 n hn _).mono ?_; rintro e w' ⟨rfl, rfl⟩)
  clear hrun
  go_loopw [3, 4] (fun v i wr => ∃ k j : Nat, Hid (j = 2 * k) ∧ j ≤ n + 0 ∧ i = .int .i64 j ∧ Hid (Ow .u64 23 w.heap.size w wr v (pr l k))) (fun _ i _ => n + 2 - (intOf i).toNat)
  case atStart => exact ⟨0, 0, Lib.hid rfl, by omega, rfl, HM⟩
  case round =>
    obtain ⟨k, j, HJ, hj, rfl, HO⟩ := hrel
    by_cases hlt : j + 1 < n
    · have hltI : (j : Int) + 1 < (n : Int) := by omega
      obtain ⟨b, off, rfl, hbb, d1⟩ := HR.out.get (i := j) (by omega)
      have d2 := HR.out.two (i := j + 1) (by omega)
      have hx := HU.out j
      have hy := HU.out (j + 1)
      have HD : Hid (pr l (k + 1) = pr l k ++ [jn (iat l j) (iat l (j + 1))]) := Lib.hid (by rw [pr_next, HJ.out])
      obtain ⟨x, hxx⟩ : ∃ x, iat l j = x := ⟨_, rfl⟩
      obtain ⟨y, hyy⟩ : ∃ y, iat l (j + 1) = y := ⟨_, rfl⟩
      rw [hxx] at d1 hx HD
      rw [hyy] at d2 hy HD
      clear hxx hyy
      have HX := Lib.hid hx
      have HY := Lib.hid hy
      have D1 := Lib.hid d1
      have D2 : Hid (w.cell? ⟨b, off + (j + 1), none⟩ = some (.int .u64 y)) := Lib.hid d2
      have HBB := Lib.hid hbb
      clear hx hy d1 d2
      obtain ⟨L, hLL⟩ : ∃ L, pr l k = L := ⟨_, rfl⟩
      have HLk : Hid (L.length ≤ n + 1) := Lib.hid (by rw [← hLL, pr_len]; have := HJ.out; omega)
      rw [hLL] at HO HD
      clear hLL
      have C4 : Hid (L.length + 1 ≤ maxLen) := Lib.hid (by have := HLk.out; unfold maxLen; omega)
      have C5 : Hid ((L.length + 1) * 8 ≤ 140737488355328) := Lib.hid (by have := HLk.out; omega)
      have hj0 : j < n := by omega
      have hj1 : j + 1 < n := by omega
      have hj2 : (0 : Int) ≤ (j : Int) + 1 := by omega
      have E1 : IntKind.i64.wrap ((j : Int) + 1) = (j : Int) + 1 := IntWalk.i64_in _ (by omega)
      go_wp2_with fail
      replace HO := Lib.hid (HO.out.below (Below.refl wr.heap.size wr).drew)
      first | (go_region_held_law (fun w' => w'.cell? ⟨b, off + j, none⟩ = some (.int .u64 x) ∧ w'.cell? ⟨b, off + (j + 1), none⟩ = some (.int .u64 y)) (first | exact ⟨HO.out.cell D1.out HBB.out, HO.out.cell D2.out HBB.out⟩ | assumption | exact ⟨HP.out.cell D1.out HBB.out, HP.out.cell D2.out HBB.out⟩ | go_keep) (first
          | (go_at_call 13; refine (join13 x y _ HX.out HY.out).mono ?_; rintro e w2 ⟨rfl, hb⟩; replace HO := Lib.hid (HO.out.below hb); have HP := Lib.hid (HO.out.below (b1 w2 (.cells #[.int .u64 (jn x y)] 23))); clear hb)
          | (refine step_append_own rfl (.tmp 16) (.tmp 27) 31 rfl w.heap.size 23 i0 (.int .u64 0) 1 8 Try.underlying31 hi0 hz0 hs0 hb0' rfl (by omega) _ _ _ (by first | (simp [Act.eval, Act.put]; done) | (simp [Act.eval, Act.put]; rfl)) HP.out.2.2 ⟨_, 0, none⟩ 1 1 [.int .u64 (jn x y)] (by first | (simp [Act.eval, Act.put]; done) | (simp [Act.eval, Act.put]; rfl)) rfl (new_cell _ _ _ _ (by simp)) (one_int .u64 (jn x y)) C4.out C5.out HP.out.size ?_; intro v' w9 hown hgrow; replace HO := Lib.hid (HO.out.app rfl hown hgrow); clear hown hgrow))) | fail
      all_goals go_wp2_with fail
      all_goals go_roundw
      all_goals first | exact ⟨k + 1, j + 2, Lib.hid (by have := HJ.out; omega), by omega, by go_num, by rw [HD.out]; exact HO⟩ | (simp [intOf]; done) | (simp [intOf]; omega)
    · have hltI : ¬ (j : Int) + 1 < (n : Int) := by omega
      by_cases ho : n % 2 = 1
      · obtain ⟨q, rfl⟩ : ∃ q, n = q + 1 := ⟨n - 1, by omega⟩
        have hoI : (((q + 1 : Nat) : Int) % 2) = 1 := by omega
        have hoI2 : ((q : Int) + 1) % 2 = 1 := by omega
        have HD : Hid (upS l = pr l k ++ [iat l q]) := Lib.hid (by rw [up_odd (by rw [HL.out]; exact ho), HL.out]; have := HJ.out; have e : (q + 1) / 2 = k := by { omega }; rw [e]; rfl)
        have hdl := HU.out q
        obtain ⟨b, off, rfl, _, d1⟩ := (HR.out.below HO.out.2.1 (Nat.le_refl _)).get (i := q) (by omega)
        obtain ⟨x, hxx⟩ : ∃ x, iat l q = x := ⟨_, rfl⟩
        rw [hxx] at d1 HD
        clear hxx hdl
        obtain ⟨L, hLL⟩ : ∃ L, pr l k = L := ⟨_, rfl⟩
        have HLk : Hid (L.length ≤ q + 1) := Lib.hid (by rw [← hLL, pr_len]; have := HJ.out; omega)
        rw [hLL] at HO HD
        clear hLL
        have C4 : Hid (L.length + 1 ≤ maxLen) := Lib.hid (by have := HLk.out; unfold maxLen; omega)
        have C5 : Hid ((L.length + 1) * 8 ≤ 140737488355328) := Lib.hid (by have := HLk.out; omega)
        have hsz := HO.out.size
        go_wp2_with (at_builtin; refine wpList_append_own _ rfl _ _ 31 rfl w.heap.size 23 i0 (.int .u64 0) 1 8 Try.underlying31 hi0 hz0 hs0 hb0' rfl (by omega) _ _ _ rfl (HO.out.2.2.alloc _) ⟨_, 0, none⟩ 1 1 [.int .u64 x] rfl rfl (new_cell _ _ _ _ (by simp)) (one_int .u64 x) C4.out C5.out (by simp; omega) ?_)
        intro v' w9 hown hgrow _
        have HO9 := Lib.hid (HO.out.app rfl hown hgrow)
        clear hown hgrow HO
        rw [← HD.out] at HO9
        replace HO := HO9
        clear HO9
        obtain ⟨A', c', rfl, hrk⟩ := Rk.ownedF HO.out.2.2 (by rw [up_len, HL.out]; unfold ab; omega) (fun i => u64_w (up_in HU.out i))
        rw [up_len, HL.out] at hrk
        have HRK := Lib.hid hrk
        clear hrk
        rw [up_len, HL.out]
        have HB := Lib.hid HO.out.2.1
        clear HO
        go_wp2_with fail
        go_ret
        first | exact ⟨_, ⟨_, rfl⟩, HRK.out, HB.out⟩ | exact ⟨_, _, rfl, HRK.out, HB.out⟩
      · have hoI : ¬ ((n : Int) % 2) = 1 := by omega
        have hoI2 : ((n : Int) % 2 == 1) = false := by simp; omega
        have HD : Hid (upS l = pr l k) := Lib.hid (by rw [up_even (by rw [HL.out]; exact ho), HL.out]; have := HJ.out; have e : n / 2 = k := by { omega }; rw [e])
        rw [← HD.out] at HO
        obtain ⟨A', c', rfl, hrk⟩ := Rk.ownedF HO.out.2.2 (by rw [up_len, HL.out]; unfold ab; omega) (fun i => u64_w (up_in HU.out i))
        rw [up_len, HL.out] at hrk
        have HRK := Lib.hid hrk
        clear hrk
        rw [up_len, HL.out]
        have HB := Lib.hid HO.out.2.1
        clear HO
        go_wp2_with fail
        go_ret
        first | exact ⟨_, ⟨_, rfl⟩, HRK.out, HB.out⟩ | exact ⟨_, _, rfl, HRK.out, HB.out⟩
set_option maxHeartbeats 2000000 in
set_option maxRecDepth 100000 in
theorem up32 (A : Option Addr) (n c : Nat) (l : List Int) (w : World) (h : Rk .u64 w w.heap.size A n l) (hn4 : n ≤ 4096) :
    Calls Try.prog 32 #[.slice A n c] w fun e w' => ∃ A' c', e = .returned (.slice A' (ab n) c') ∧ (Rk .u64 w' w'.heap.size A' (ab n) (upS l) ∧ Fr w.heap.size A' (ab n)) ∧ Below w.heap.size w w' := by
  have hn := h.2.1
  have HL := Lib.hid h.1
  have HR := Lib.hid h
  have HU : Hid (U64 l) := Lib.hid (fun i => u64_r (h.2.2.2 i))
  clear h
  obtain ⟨i0, hi0, hz0, hs0, hb0'⟩ := info_parts u64_info
  go_enter Try.func32, Try.ntmps32
  go_wp2_with fail
  go_loopw [3, 4] (fun v i wr => ∃ k j : Nat, Hid (j = 2 * k) ∧ j ≤ n + 1 ∧ i = .int .i64 j ∧ Hid (Ow .u64 23 w.heap.size w wr v (upk l k))) (fun _ i _ => n + 2 - (intOf i).toNat)
  case atStart => exact ⟨0, 0, Lib.hid rfl, by omega, rfl, Lib.hid (by rw [upk_zero]; exact Ow.nil (Nat.le_refl _))⟩
  case round =>
    obtain ⟨k, j, HJ, hj, rfl, HO⟩ := hrel
    by_cases hlt : j < n
    · have hltI : (j : Int) < (n : Int) := by omega
      by_cases hlt2 : j + 1 < n
      · have hltI2 : (j : Int) + 1 < (n : Int) := by omega
        obtain ⟨b, off, rfl, hbb, d1⟩ := HR.out.get (i := j) (by omega)
        have d2 := HR.out.two (i := j + 1) (by omega)
        have hx := HU.out j
        have hy := HU.out (j + 1)
        have HD : Hid (upk l (k + 1) = upk l k ++ [jn (iat l j) (iat l (j + 1))]) := Lib.hid (by rw [upk_pair (by rw [HL.out]; have := HJ.out; omega), HJ.out])
        obtain ⟨x, hxx⟩ : ∃ x, iat l j = x := ⟨_, rfl⟩
        obtain ⟨y, hyy⟩ : ∃ y, iat l (j + 1) = y := ⟨_, rfl⟩
        rw [hxx] at d1 hx HD
        rw [hyy] at d2 hy HD
        clear hxx hyy
        have HX := Lib.hid hx
        have HY := Lib.hid hy
        have D1 := Lib.hid d1
        have D2 : Hid (w.cell? ⟨b, off + (j + 1), none⟩ = some (.int .u64 y)) := Lib.hid d2
        have HBB := Lib.hid hbb
        clear hx hy d1 d2
        obtain ⟨L, hLL⟩ : ∃ L, upk l k = L := ⟨_, rfl⟩
        have HLk : Hid (L.length ≤ n + 1) := Lib.hid (by rw [← hLL, upk_len (by rw [HL.out]; have := HJ.out; omega)]; have := HJ.out; omega)
        rw [hLL] at HO HD
        clear hLL
        have C4 : Hid (L.length + 1 ≤ maxLen) := Lib.hid (by have := HLk.out; unfold maxLen; omega)
        have C5 : Hid ((L.length + 1) * 8 ≤ 140737488355328) := Lib.hid (by have := HLk.out; omega)
        have hj0 : j < n := by omega
        have hj1 : j + 1 < n := by omega
        have hj2 : (0 : Int) ≤ (j : Int) + 1 := by omega
        have E1 : IntKind.i64.wrap ((j : Int) + 1) = (j : Int) + 1 := IntWalk.i64_in _ (by omega)
        go_wp2_with fail
        replace HO := Lib.hid (HO.out.below (Below.refl wr.heap.size wr).drew)
        first | (go_region_held_law (fun w' => w'.cell? ⟨b, off + j, none⟩ = some (.int .u64 x) ∧ w'.cell? ⟨b, off + (j + 1), none⟩ = some (.int .u64 y)) (first | exact ⟨HO.out.cell D1.out HBB.out, HO.out.cell D2.out HBB.out⟩ | assumption | exact ⟨HP.out.cell D1.out HBB.out, HP.out.cell D2.out HBB.out⟩ | go_keep) (first
            | (go_at_call 14; refine (join14 x y _ HX.out HY.out).mono ?_; rintro e w2 ⟨rfl, hb⟩; replace HO := Lib.hid (HO.out.below hb); have HP := Lib.hid (HO.out.below (b1 w2 (.cells #[.int .u64 (jn x y)] 23))); clear hb)
            | (refine step_append_own rfl (.tmp 16) (.tmp 27) 31 rfl w.heap.size 23 i0 (.int .u64 0) 1 8 Try.underlying31 hi0 hz0 hs0 hb0' rfl (by omega) _ _ _ (by first | (simp [Act.eval, Act.put]; done) | (simp [Act.eval, Act.put]; rfl)) HP.out.2.2 ⟨_, 0, none⟩ 1 1 [.int .u64 (jn x y)] (by first | (simp [Act.eval, Act.put]; done) | (simp [Act.eval, Act.put]; rfl)) rfl (new_cell _ _ _ _ (by simp)) (one_int .u64 (jn x y)) C4.out C5.out HP.out.size ?_; intro v' w9 hown hgrow; replace HO := Lib.hid (HO.out.app rfl hown hgrow); clear hown hgrow))) | fail
        all_goals go_wp2_with fail
        all_goals go_roundw
        all_goals first | exact ⟨k + 1, j + 2, Lib.hid (by have := HJ.out; omega), by omega, by go_num, by rw [HD.out]; exact HO⟩ | (simp [intOf]; done) | (simp [intOf]; omega)
      · have hltI2 : ¬ (j : Int) + 1 < (n : Int) := by omega
        have hjq : j + 1 = n := by omega
        have HD : Hid (upk l (k + 1) = upk l k ++ [iat l j]) := Lib.hid (by rw [upk_last (by rw [HL.out]; have := HJ.out; omega), HL.out, ← hjq]; rfl)
        have hdl := HU.out j
        obtain ⟨b, off, rfl, _, d1⟩ := (HR.out.below HO.out.2.1 (Nat.le_refl _)).get (i := j) (by omega)
        obtain ⟨x, hxx⟩ : ∃ x, iat l j = x := ⟨_, rfl⟩
        rw [hxx] at d1 HD
        clear hxx hdl
        obtain ⟨L, hLL⟩ : ∃ L, upk l k = L := ⟨_, rfl⟩
        have HLk : Hid (L.length ≤ n + 1) := Lib.hid (by rw [← hLL, upk_len (by rw [HL.out]; have := HJ.out; omega)]; have := HJ.out; omega)
        rw [hLL] at HO HD
        clear hLL
        have C4 : Hid (L.length + 1 ≤ maxLen) := Lib.hid (by have := HLk.out; unfold maxLen; omega)
        have C5 : Hid ((L.length + 1) * 8 ≤ 140737488355328) := Lib.hid (by have := HLk.out; omega)
        have hsz := HO.out.size
        go_wp2_with (at_builtin; refine wpList_append_own _ rfl _ _ 31 rfl w.heap.size 23 i0 (.int .u64 0) 1 8 Try.underlying31 hi0 hz0 hs0 hb0' rfl (by omega) _ _ _ rfl (HO.out.2.2.alloc _) ⟨_, 0, none⟩ 1 1 [.int .u64 x] rfl rfl (new_cell _ _ _ _ (by simp)) (one_int .u64 x) C4.out C5.out (by simp; omega) ?_)
        intro v' w9 hown hgrow _
        have HO9 := Lib.hid (HO.out.app rfl hown hgrow)
        clear hown hgrow HO
        skip
        go_wp2_with fail
        go_roundw
        case rel => exact ⟨k + 1, j + 2, Lib.hid (by have := HJ.out; omega), by omega, by go_num, by rw [HD.out]; exact HO9⟩
        case measure => simp [intOf]; omega
    · have hltI : ¬ (j : Int) < (n : Int) := by omega
      have HD : Hid (upS l = upk l k) := Lib.hid (by rw [upk_end (k := k) (by rw [HL.out]; have := HJ.out; omega)])
      rw [← HD.out] at HO
      obtain ⟨A', c', rfl, hrk⟩ := Rk.ownedF HO.out.2.2 (by rw [up_len, HL.out]; unfold ab; omega) (fun i => u64_w (up_in HU.out i))
      rw [up_len, HL.out] at hrk
      have HRK := Lib.hid hrk
      clear hrk
      rw [up_len, HL.out]
      have HB := Lib.hid HO.out.2.1
      clear HO
      go_wp2_with fail
      go_ret
      first | exact ⟨_, ⟨_, rfl⟩, HRK.out, HB.out⟩ | exact ⟨_, _, rfl, HRK.out, HB.out⟩
end Go.Proofs.Ytbhdghopdhehdaa.Wk
