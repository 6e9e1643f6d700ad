/- The join of lists of intervals: their seconds in normal form. Conditions: the lists read as intervals; at most 2000 of them in all. -/
import Derived.Test.YtmdkhnndfhcfdaaMm
set_option linter.unusedSimpArgs false
set_option linter.unusedVariables false
namespace Go.Proofs.Ytmdkhnndfhcfdaa.Mt
def llat (ls : List (List Iv)) (i : Nat) : List Iv := ls.getD i []
theorem fltn_next {ls : List (List Iv)} {k : Nat} (h : k < ls.length) : (ls.take (k + 1)).flatten = (ls.take k).flatten ++ llat ls k := by
  rw [List.take_add_one, List.getElem?_eq_getElem h]
  unfold llat
  rw [List.getD_eq_getElem?_getD, List.getElem?_eq_getElem h]
  show (ls.take k ++ [ls[k]]).flatten = _
  rw [List.flatten_append, List.flatten_singleton]
  rfl
theorem fltn_le (ls : List (List Iv)) (k : Nat) : (ls.take k).flatten.length ≤ ls.flatten.length := by
  have e : ls.flatten = (ls.take k).flatten ++ (ls.drop k).flatten := by rw [← List.flatten_append, List.take_append_drop]
  rw [e, List.length_append]
  omega
theorem set_self {α : Type} {l : List α} {k : Nat} {x : α} (h : l[k]? = some x) : l.set k x = l := by
  apply List.ext_getElem?
  intro j
  rw [List.getElem?_set]
  by_cases e : k = j
  · subst e
    rw [if_pos rfl, h]
    split
    · rfl
    · next hn => rw [List.getElem?_eq_none (by omega)] at h; cases h
  · rw [if_neg e]
theorem Qset {l : List Iv} {k : Nat} {v : Iv} (h : k < l.length) : fl (l.set k v) = ((fl l).set (k * 2) (.int .i64 v.1)).set (k * 2 + 1) (.int .i64 v.2) := by
  induction l generalizing k with
  | nil => simp at h
  | cons u l ih =>
    rcases k with _ | k
    · rfl
    · have := ih (k := k) (by simpa using h)
      have e : (k + 1) * 2 = k * 2 + 1 + 1 := by omega
      rw [e]
      show Go.Value.int .i64 u.1 :: Go.Value.int .i64 u.2 :: fl (l.set k v) = _
      rw [this]
      rfl
end Go.Proofs.Ytmdkhnndfhcfdaa.Mt
namespace Go.Proofs.Ytmdkhnndfhcfdaa.Wk
open Go.RowKit
open Go.Proofs.Ytmdkhnndfhcfdaa.Mt
theorem iv_info : (Try.prog.info? 25).map (fun i => (i.zero, i.size, i.bytes)) = some (some (.agg #[.int .i64 0, .int .i64 0]), 2, 16) := by kernel_rfl
theorem Qb.put2 {w : World} {g : Nat} {l : List Iv} (h : Qb w g l) {k : Nat} (hk : k < l.length) (a b : Int) : Qb ((w.setCell ⟨g, k * 2, none⟩ (.int .i64 a)).setCell ⟨g, k * 2 + 1, none⟩ (.int .i64 b)) g (l.set k (a, b)) := by
  obtain ⟨cur, h1, h2, h3⟩ := h
  refine ⟨(cur.setIfInBounds (k * 2) (.int .i64 a)).setIfInBounds (k * 2 + 1) (.int .i64 b), heap_setCell_same _ g _ _ 25 _ (heap_setCell_same w g _ _ 25 _ h1), by simpa using h2, ?_⟩
  rw [Qset hk, ← h3]
  simp only [Array.toList_setIfInBounds, List.length_set, List.take_set]
theorem Qb.put1 {w : World} {g : Nat} {l : List Iv} (h : Qb w g l) {k : Nat} (hk : k < l.length) (b : Int) : Qb (w.setCell ⟨g, k * 2 + 1, none⟩ (.int .i64 b)) g (l.set k ((vat l k).1, b)) := by
  obtain ⟨cur, h1, h2, h3⟩ := h
  refine ⟨cur.setIfInBounds (k * 2 + 1) (.int .i64 b), heap_setCell_same w g _ _ 25 _ h1, by simpa using h2, ?_⟩
  rw [Qset hk, ← h3]
  simp only [Array.toList_setIfInBounds, List.length_set, List.take_set]
  congr 1
  rw [h3, set_self (fl_at l k hk).1]
theorem Qb.blk {w : World} {g : Nat} {l : List Iv} (h : Qb w g l) : ∃ cur, w.heap[g]? = some (.cells cur 25 (0, 0)) := by obtain ⟨cur, h1, _⟩ := h; exact ⟨cur, h1⟩
theorem vat_take {T : List Iv} {m i : Nat} (h : i < m) : vat (T.take m) i = vat T i := by
  unfold vat; rw [List.getD_eq_getElem?_getD, List.getD_eq_getElem?_getD, List.getElem?_take, if_pos h]
theorem Qb.rp {w : World} {g m : Nat} {T : List Iv} (h : Qb w g T) (hm : m ≤ T.length) (hl : T.length ≤ 2000) (hok : ∀ v ∈ T.take m, Ok v) : Rp w w.heap.size (some ⟨g, 0, none⟩) m (T.take m) := by
  have hlen : (T.take m).length = m := by rw [List.length_take]; omega
  refine ⟨hlen, by omega, fun h0 => ⟨g, 0, rfl, h.lt, fun i hi => ?_⟩, fun i => ?_⟩
  · rw [vat_take hi, Nat.zero_add]
    exact h.cell (by omega)
  · rcases Nat.lt_or_ge i m with hi | hi
    · have := hok _ (vat_mem (l := T.take m) (i := i) (by omega))
      unfold Ok at this
      unfold In64
      omega
    · have e : vat (T.take m) i = (0, 0) := by unfold vat; rw [List.getD_eq_getElem?_getD, List.getElem?_eq_none (by omega)]; rfl
      rw [e]
      unfold In64
      simp
/-- slices of slices of intervals -/
def Rll (w : World) (B : Nat) (A : Option Addr) (n : Nat) (ls : List (List Iv)) : Prop :=
  ls.length = n ∧ n ≤ 9223372036854775807 ∧ (0 < n → ∃ b off, A = some ⟨b, off, none⟩ ∧ b < B ∧ ∀ i, i < n → ∃ Ai ni ci, w.cell? ⟨b, off + i, none⟩ = some (.slice Ai ni ci) ∧ Rp w B Ai ni (llat ls i))
theorem Rll.get {w w' : World} {A : Option Addr} {n : Nat} {ls : List (List Iv)} (h : Rll w w.heap.size A n ls) (hb : Below w.heap.size w w') {i : Nat} (hi : i < n) : ∃ b off Ai ni ci, A = some ⟨b, off, none⟩ ∧ b < w.heap.size ∧ w'.cell? ⟨b, off + i, none⟩ = some (.slice Ai ni ci) ∧ Rp w w.heap.size Ai ni (llat ls i) := by
  obtain ⟨b, off, e, hlt, hc⟩ := h.2.2 (by omega)
  obtain ⟨Ai, ni, ci, h1, h2⟩ := hc i hi
  exact ⟨b, off, Ai, ni, ci, e, hlt, (hb.cell (p := ⟨b, _, none⟩) hlt).trans h1, h2⟩
/-- the row that gathers -/
def Gr (w wr : World) (v : Value) (s : List Iv) : Prop := Below w.heap.size w wr ∧ wr.ownsRow w.heap.size 25 2 v s.length (fl s)
theorem Gr.below {w wr w1 : World} {v : Value} {s : List Iv} (h : Gr w wr v s) (hb : Below wr.heap.size wr w1) : Gr w w1 v s := ⟨upB h.1 hb, own_below h.2 hb⟩
theorem Gr.app {w wr w1 : World} {v v' : Value} {s : List Iv} {x y : Int} {o : Obj} (h : Gr w wr v s) (ho : w1.ownsRow w.heap.size 25 2 v' (s.length + 1) (fl s ++ [Value.int .i64 x, Value.int .i64 y])) (hg : (wr.alloc o).grownBy w1 v.ownBlock) : Gr w w1 v' (s ++ [(x, y)]) := by
  refine ⟨(h.1.alloc h.1.size o).grown hg (by have := h.1.size; simp; omega) (fun k hk => (h.2.lt k hk).1), ?_⟩
  rw [List.length_append, fl_app]
  exact ho
theorem new_two (W : World) (x y : Value) (t : TypeId) (n : Nat) (h : n = W.heap.size) : ∀ j u, [x, y][j]? = some u → (W.alloc (.cells #[x, y] t)).cell? ((⟨n, 0, none⟩ : Addr).add j) = some u := by
  intro j u hu
  subst h
  have e : (⟨W.heap.size, 0, none⟩ : Addr).add j = ⟨W.heap.size, j, none⟩ := by unfold Addr.add; by_cases hj : j = 0 <;> simp [hj]
  rw [e, cell_of_row _ W.heap.size j _ _ _ (heap_alloc_new W _)]
  rcases j with _ | _ | j
  · simpa using hu
  · simpa using hu
  · simp at hu
theorem two_one (x y : Int) : ∀ u ∈ [Value.int .i64 x, Value.int .i64 y], u.oneCell' = true := by intro u hu; simp at hu; rcases hu with rfl | rfl <;> rfl
set_option maxHeartbeats 2000000 in
set_option maxRecDepth 100000 in
theorem join30 (A : Option Addr) (K c : Nat) (ls : List (List Iv)) (w : World) (h : Rll w w.heap.size A K ls) (hN : ls.flatten.length ≤ 2000) :
    Calls Try.prog 30 #[.slice A K c] w fun e w' => ∃ A' c' R, e = .returned (.slice A' R.length c') ∧ R.length ≤ c' ∧ Rp w' w'.heap.size A' R.length R ∧ (0 < R.length → ∀ b off sp, A' = some ⟨b, off, sp⟩ → w.heap.size ≤ b ∧ ∃ cur, w'.heap[b]? = some (.cells cur 25 (0, 0))) ∧ Nf R ∧ (∀ t, Hs R t ↔ Hs ls.flatten t) ∧ Below w.heap.size w w' ∧ R.length ≤ ls.flatten.length := by
  have hK := h.2.1
  have HL := Lib.hid h.1
  have HR := Lib.hid h
  have HNN := Lib.hid hN
  clear h hN
  obtain ⟨i0, hi0, hz0, hs0, hb0'⟩ := info_parts iv_info
  have HG0 : Hid (Gr w w (.slice none 0 0) []) := Lib.hid ⟨Below.refl _ _, World.ownsRow_nil _ _ _ _⟩
  go_enter Try.func30, Try.ntmps30
  go_wp2_with fail
  go_loopw [3, 13] (fun v iv wr => ∃ k : Nat, k ≤ K ∧ iv = .int .i64 k ∧ Hid (Gr w wr v (flt (ls.take k).flatten))) (fun _ iv _ => K - (intOf iv).toNat)
  case atStart => exact ⟨0, Nat.zero_le _, rfl, HG0⟩
  case round =>
    obtain ⟨k, hk, rfl, HG⟩ := hrel
    by_cases hlt : k < K
    · have hltI : (k : Int) < (K : Int) := by omega
      obtain ⟨b, off, Ai, ni, ci, rfl, hbb, d1, hr⟩ := HR.out.get HG.out.1 hlt
      have HRI := Lib.hid hr
      have hni := hr.2.1
      have HLI := Lib.hid hr.1
      have hb2 : b < wr.heap.size := Nat.lt_of_lt_of_le hbb HG.out.1.size
      clear hr
      have HN2 : Hid ((ls.take k).flatten.length + ni ≤ 2000) := Lib.hid (by
        have h1 := fltn_le ls (k + 1)
        rw [fltn_next (by rw [HL.out]; exact hlt), List.length_append, HLI.out] at h1
        have := HNN.out; omega)
      go_wp2_with fail
      clear d1
      go_loopw [3, 19] (fun v iv wr => ∃ q : Nat, q ≤ ni ∧ iv = .int .i64 q ∧ Hid (Gr w wr v (flt (ls.take k).flatten ++ flt ((llat ls k).take q)))) (fun _ iv _ => ni - (intOf iv).toNat)
      case atStart => exact ⟨0, Nat.zero_le _, rfl, Lib.hid (by simpa [flt] using HG.out)⟩
      case round =>
        obtain ⟨q, hq, rfl, HG2⟩ := hrel
        by_cases hlt2 : q < ni
        · have hltI2 : (q : Int) < (ni : Int) := by omega
          obtain ⟨b2, o2, rfl, hb3, d2, d3⟩ := (HRI.out.below HG2.out.1 (Nat.le_refl _)).get hlt2
          obtain ⟨⟨x, y⟩, hxy⟩ : ∃ v, vat (llat ls k) q = v := ⟨_, rfl⟩
          have HV := Lib.hid hxy
          have HI : Hid (In64 x ∧ In64 y) := Lib.hid (by have := HRI.out.2.2.2 q; rw [hxy] at this; exact this)
          rw [hxy] at d2 d3
          simp only at d2 d3
          clear hxy
          have hbx : b2 < wr.heap.size := Nat.lt_of_lt_of_le hb3 HG2.out.1.size
          go_wp2_with fail
          refine (valid10 x y _).mono ?_
          rintro e w2 ⟨rfl, hb⟩
          have hX : Bx w2 wr.heap.size 25 #[.int .i64 x, .int .i64 y] := (Bx.new wr 25 #[.int .i64 x, .int .i64 y]).next hb
          have HG3 := Lib.hid (HG2.out.below (((Below.refl wr.heap.size wr).alloc (Nat.le_refl _) _).trans (hb.mono (by simp))))
          clear hb d2 d3 HG2
          by_cases ho : Ok (x, y)
          · rw [okB_yes ho]
            have HS : Hid (flt ((llat ls k).take (q + 1)) = flt ((llat ls k).take q) ++ [(x, y)]) := Lib.hid (by rw [flt_yes (by rw [HLI.out]; exact hlt2) (by rw [HV.out]; exact ho), HV.out])
            obtain ⟨s, hs⟩ : ∃ s, flt (ls.take k).flatten ++ flt ((llat ls k).take q) = s := ⟨_, rfl⟩
            have HSS := Lib.hid hs
            rw [hs] at HG3
            have hsl : s.length ≤ 2000 := by
              rw [← hs, List.length_append]
              have h1 := flt_len (ls.take k).flatten
              have h2 := flt_len ((llat ls k).take q)
              rw [List.length_take] at h2
              have := HN2.out
              omega
            clear hs ho
            obtain ⟨c0, c1⟩ := hX.cells2
            have hlx := hX.lt
            have HOW := Lib.hid HG3.out.2
            have hsz := HG3.out.1.size
            have C4 : Hid (s.length + 1 ≤ maxLen) := Lib.hid (by unfold maxLen; omega)
            have C5 : Hid ((s.length + 1) * 16 ≤ 140737488355328) := Lib.hid (by omega)
            go_wp2_with (go_loud (at_builtin; refine wpList_append_own _ rfl _ _ 22 rfl w.heap.size 25 i0 (.agg #[.int .i64 0, .int .i64 0]) 2 16 Try.underlying22 hi0 hz0 hs0 hb0' rfl (by omega) _ _ _ rfl (HOW.out.alloc _) ⟨_, 0, none⟩ 1 1 [.int .i64 x, .int .i64 y] rfl rfl (new_two _ _ _ _ _ (by simp)) (two_one x y) C4.out C5.out (by simp; omega) ?_))
            intro v' w9 hown hgrow _
            have HG9 := Lib.hid (HG3.out.app hown hgrow)
            clear hown hgrow c0 c1 hX HOW
            rw [← HSS.out, List.append_assoc, ← HS.out] at HG9
            go_wp2_with fail
            go_roundw
            case rel => exact ⟨q + 1, by omega, by go_num, HG9⟩
            case measure => simp [intOf]; omega
          · rw [okB_no ho]
            have HS : Hid (flt ((llat ls k).take (q + 1)) = flt ((llat ls k).take q)) := Lib.hid (flt_no (by rw [HLI.out]; exact hlt2) (by rw [HV.out]; exact ho))
            clear ho
            rw [← HS.out] at HG3
            go_wp2_with fail
            go_roundw
            case rel => exact ⟨q + 1, by omega, by go_num, HG3⟩
            case measure => simp [intOf]; omega
        · have hltI2 : ¬ (q : Int) < (ni : Int) := by omega
          have HE : Hid (flt (ls.take (k + 1)).flatten = flt (ls.take k).flatten ++ flt ((llat ls k).take q)) := Lib.hid (by
            rw [fltn_next (by rw [HL.out]; exact hlt), flt_app, show (llat ls k).take q = llat ls k from List.take_of_length_le (by rw [HLI.out]; omega)])
          rw [← HE.out] at HG2
          go_wp2_with fail
          go_roundw
          case rel => exact ⟨k + 1, by omega, by go_num, HG2⟩
          case measure => simp [intOf]; omega
    · have hltI : ¬ (k : Int) < (K : Int) := by omega
      have HE : Hid ((ls.take k).flatten = ls.flatten) := Lib.hid (by rw [List.take_of_length_le (by rw [HL.out]; omega)])
      rw [HE.out] at HG
      obtain ⟨s, hs⟩ : ∃ s, flt ls.flatten = s := ⟨_, rfl⟩
      have HS := Lib.hid hs
      rw [hs] at HG
      have hsl : s.length ≤ 2000 := by rw [← hs]; have := flt_len ls.flatten; have := HNN.out; omega
      clear hs HE HR HG0
      rcases Nat.eq_zero_or_pos s.length with h0 | h0
      · have HE0 : Hid (s = []) := Lib.hid (List.eq_nil_of_length_eq_zero h0)
        have HHS : Hid (∀ t, Hs [] t ↔ Hs ls.flatten t) := Lib.hid (fun t => by rw [← HE0.out, ← HS.out]; exact flt_hs _ t)
        have HB := Lib.hid HG.out.1
        rcases HG.out.2.2 with ⟨rfl, _⟩ | ⟨g, cap, cur, rfl, _⟩
        · clear HG
          go_wp2_with fail
          refine (sort_none none 0 _ _).mono ?_
          rintro e w2 ⟨rfl, rfl⟩
          go_wp2_with fail
          go_loop [8, 35] (fun nv iv => nv = .int .i64 0 ∧ iv = .int .i64 0) (fun _ _ => 0)
          case atStart => exact ⟨rfl, rfl⟩
          case round =>
            obtain ⟨rfl, rfl⟩ := hrel
            go_wp2_with fail
            go_ret
            exact ⟨none, 0, [], rfl, Nat.le_refl _, ⟨rfl, by simp, fun h => absurd h (by simp), fun i => by simp [vat, In64]⟩, fun h => absurd h (by simp), trivial, HHS.out, HB.out, Nat.zero_le _⟩
        · rw [h0]
          clear HG
          go_wp2_with fail
          refine (sort_none _ cap _ _).mono ?_
          rintro e w2 ⟨rfl, rfl⟩
          go_wp2_with fail
          go_loop [8, 35] (fun nv iv => nv = .int .i64 0 ∧ iv = .int .i64 0) (fun _ _ => 0)
          case atStart => exact ⟨rfl, rfl⟩
          case round =>
            obtain ⟨rfl, rfl⟩ := hrel
            go_wp2_with fail
            go_ret
            exact ⟨some ⟨g, 0, none⟩, cap, [], rfl, Nat.zero_le _, ⟨rfl, by simp, fun h => absurd h (by simp), fun i => by simp [vat, In64]⟩, fun h => absurd h (by simp), trivial, HHS.out, HB.out, Nat.zero_le _⟩
      · obtain ⟨g, cap, rfl, hcap, hbase, hq⟩ := Qb.own HG.out.2 h0
        have HQ := Lib.hid hq
        have HB := Lib.hid HG.out.1
        have HOKS : Hid (∀ v ∈ s, Ok v) := Lib.hid (fun v hv => by rw [← HS.out] at hv; exact flt_ok _ v hv)
        clear HG hq
        go_wp2_with fail
        refine (sort_own g cap s _ HQ.out (by omega)).mono ?_
        rintro e w2 ⟨rfl, l', hlen, hmem, hasc, hq2, hgr⟩
        have HB2 : Hid (Below w.heap.size w w2) := Lib.hid (HB.out.grown hgr HB.out.size (fun q hq => by injection hq with hq; omega))
        have HQ2 := Lib.hid hq2
        have HLEN := Lib.hid hlen
        have HASC : Hid (∀ a b, a < b → b < l'.length → (vat l' a).1 ≤ (vat l' b).1) := Lib.hid hasc
        have HOK : Hid (∀ j, j < l'.length → Ok (vat l' j)) := Lib.hid (fun j hj => HOKS.out _ ((hmem _).1 (vat_mem hj)))
        have HHS : Hid (∀ t, Hs l' t ↔ Hs ls.flatten t) := Lib.hid (fun t => by rw [Hs.perm hmem t, ← HS.out]; exact flt_hs _ t)
        have hfl : s.length ≤ ls.flatten.length := by rw [← HS.out]; exact flt_len _
        obtain ⟨N, hN⟩ : ∃ N, s.length = N := ⟨_, rfl⟩
        rw [hN] at hsl h0 hcap HLEN hfl ⊢
        have HFL := Lib.hid hfl
        clear hfl
        have HM0 := Lib.hid (Mg.start l')
        clear hgr hq2 hlen hasc hmem hN HB HQ HOKS HS
        go_wp2_with fail
        go_loopw [8, 35] (fun nv iv wr => ∃ (i m : Nat) (TT : List Iv), i ≤ N ∧ nv = .int .i64 m ∧ iv = .int .i64 i ∧ Hid (Mg l' TT i m) ∧ Hid (Qb wr g TT) ∧ Hid (Below w.heap.size w wr)) (fun _ iv _ => N - (intOf iv).toNat)
        case atStart => exact ⟨0, 0, l', Nat.zero_le _, rfl, rfl, HM0, HQ2, HB2⟩
        case round =>
          obtain ⟨i, m, TT, hi, rfl, rfl, HM, HQ, HB⟩ := hrel
          by_cases hlt : i < N
          · have hltI : (i : Int) < (N : Int) := by omega
            have hTl : i < TT.length := by rw [HM.out.len, HLEN.out]; exact hlt
            have hll : i < l'.length := by rw [HLEN.out]; exact hlt
            have HTL : Hid (TT.length = N) := Lib.hid (by rw [HM.out.len, HLEN.out])
            obtain ⟨c0, c1⟩ := HQ.out.cell hTl
            rw [HM.out.rest i (Nat.le_refl _)] at c0 c1
            have HO := Lib.hid (HOK.out i hll)
            obtain ⟨⟨a, b⟩, hab⟩ : ∃ v, vat l' i = v := ⟨_, rfl⟩
            have HAB := Lib.hid hab
            rw [hab] at c0 c1 HO
            simp only at c0 c1
            have hg1 := HQ.out.lt
            have hmi := HM.out.le
            clear hab
            rcases m with _ | m
            · have q0 : decide ((0 : Int) < ((0 : Nat) : Int)) = false := by decide
              have HM2 : Hid (Mg l' (TT.set 0 (a, b)) (i + 1) 1) := Lib.hid (by rw [← HAB.out]; exact HM.out.push hll (by rw [HAB.out]; exact HO.out) HASC.out (fun h => by omega))
              have h0T : 0 < TT.length := by omega
              clear hTl hll
              go_wp2_with fail
              go_quiet (fail)
              have hb13 : Below wr.heap.size wr ((wr.alloc (.cells #[.int .i64 a, .int .i64 b] 25)).drewN nq) := below_drewN (b1 wr _) nq
              have HQ3 := Lib.hid (HQ.out.next hb13)
              have HB3 := Lib.hid (upB HB.out hb13)
              have HX3 : Hid (Bx ((wr.alloc (.cells #[.int .i64 a, .int .i64 b] 25)).drewN nq) wr.heap.size 25 #[.int .i64 a, .int .i64 b]) := Lib.hid ((Bx.new wr 25 _).next (below_drewN (Below.refl _ _) nq))
              generalize ((wr.alloc (.cells #[.int .i64 a, .int .i64 b] 25)).drewN nq) = w3 at hb13 HQ3 HB3 HX3 ⊢
              clear hb13 c0 c1
              obtain ⟨x0, x1⟩ := HX3.out.cells2
              have l1 := HX3.out.lt
              have l2 := HQ3.out.lt
              obtain ⟨c0, c1⟩ := HQ3.out.cell (i := 0) h0T
              have f0 := HQ3.out.free (0 * 2)
              have f1 := HQ3.out.free (0 * 2 + 1)
              skip
              have HQ4 : Hid (Qb ((w3.setCell ⟨g, 0 * 2, none⟩ (.int .i64 a)).setCell ⟨g, 0 * 2 + 1, none⟩ (.int .i64 b)) g (TT.set (0) (a, b))) := Lib.hid (HQ3.out.put2 h0T a b)
              have HB4 : Hid (Below w.heap.size w ((w3.setCell ⟨g, 0 * 2, none⟩ (.int .i64 a)).setCell ⟨g, 0 * 2 + 1, none⟩ (.int .i64 b))) := Lib.hid ((HB3.out.setCell (p := ⟨g, 0 * 2, none⟩) hbase _).setCell (p := ⟨g, 0 * 2 + 1, none⟩) hbase _)
              simp only [Nat.zero_mul, Nat.zero_add] at HQ4 HB4 c0 c1 f0 f1
              go_wp2_with fail
              go_roundw
              case rel => exact ⟨i + 1, 0 + 1, TT.set (0) (a, b), by omega, by go_num, by go_num, HM2, HQ4, HB4⟩
              case measure => simp [intOf]; omega
            · have hmT : m < TT.length := by omega
              obtain ⟨k0, k1⟩ := HQ.out.cell hmT
              obtain ⟨⟨p, q⟩, hpq⟩ : ∃ v, vat TT m = v := ⟨_, rfl⟩
              have HPQ := Lib.hid hpq
              rw [hpq] at k0 k1
              simp only at k0 k1
              clear hpq
              have q0 : (0 : Int) < (m : Int) + 1 := by omega
              have q1 : IntKind.i64.wrap ((m : Int) + 1 - 1) = (m : Int) := by rw [IntWalk.i64_in _ (by omega)]; omega
              have q2 : IntKind.i64.wrap (m : Int) = (m : Int) := IntWalk.i64_in _ (by omega)
              have q3 : (m : Int) < (N : Int) := by omega
              by_cases hm : a ≤ q
              · have HM2 : Hid (∀ z, z = max q b → Mg l' (TT.set m (p, z)) (i + 1) (m + 1)) := Lib.hid (fun z hz => by
                  have := HM.out.merge (y := z) hll (by rw [HAB.out]; exact HO.out) (by rw [HAB.out, HPQ.out]; exact hm) (by rw [HPQ.out, HAB.out]; exact hz)
                  rw [HPQ.out] at this; exact this)
                by_cases hqb : q < b
                · have g2 : decide (b < q) = false := decide_eq_false (by omega)
                  have g3 : ¬ b < q := by omega
                  have g4 : max q b = b := by omega
                  have g5 : ¬ b ≤ q := by omega
                  have g6 : q ≤ b := by omega
                  go_wp2_with fail
                  go_quiet (fail)
                  clear k0 k1
                  have hb13 : Below wr.heap.size wr ((wr.alloc (.cells #[.int .i64 a, .int .i64 b] 25)).drewN nq) := below_drewN (b1 wr _) nq
                  have HQ3 := Lib.hid (HQ.out.next hb13)
                  have HB3 := Lib.hid (upB HB.out hb13)
                  have HX3 : Hid (Bx ((wr.alloc (.cells #[.int .i64 a, .int .i64 b] 25)).drewN nq) wr.heap.size 25 #[.int .i64 a, .int .i64 b]) := Lib.hid ((Bx.new wr 25 _).next (below_drewN (Below.refl _ _) nq))
                  generalize ((wr.alloc (.cells #[.int .i64 a, .int .i64 b] 25)).drewN nq) = w3 at hb13 HQ3 HB3 HX3 ⊢
                  clear hb13 c0 c1
                  obtain ⟨x0, x1⟩ := HX3.out.cells2
                  obtain ⟨k0, k1⟩ := HQ3.out.cell hmT
                  rw [HPQ.out] at k0 k1
                  simp only at k0 k1
                  go_wp2_with fail
                  go_still_tail 14, (by kernel_rfl)
                  clear x0 x1 k0 k1
                  have HQ4 := Lib.hid (HQ3.out.next (Below.refl w3.heap.size w3).drew)
                  have HB4 := Lib.hid HB3.out.drew
                  have f1 := HQ4.out.free (m * 2 + 1)
                  obtain ⟨k0, k1⟩ := HQ4.out.cell hmT
                  have l2 := HQ4.out.lt
                  have HQ5 : Hid (Qb (w3.drew.setCell ⟨g, m * 2 + 1, none⟩ (.int .i64 b)) g (TT.set m (p, b))) := Lib.hid (by have := HQ4.out.put1 hmT b; rw [HPQ.out] at this; exact this)
                  have HB5 : Hid (Below w.heap.size w (w3.drew.setCell ⟨g, m * 2 + 1, none⟩ (.int .i64 b))) := Lib.hid (HB4.out.setCell (p := ⟨g, m * 2 + 1, none⟩) hbase _)
                  go_wp2_with fail
                  go_roundw
                  case rel => exact ⟨i + 1, m + 1, TT.set m (p, b), by omega, rfl, by go_num, HM2.out b (by omega), HQ5, HB5⟩
                  case measure => simp [intOf]; omega
                · have g1 : decide (q < b) = false := decide_eq_false hqb
                  have g4 : max q b = q := by omega
                  have g6 : b ≤ q := by omega
                  go_wp2_with fail
                  go_quiet (fail)
                  clear k0 k1
                  have hb13 : Below wr.heap.size wr ((wr.alloc (.cells #[.int .i64 a, .int .i64 b] 25)).drewN nq) := below_drewN (b1 wr _) nq
                  have HQ3 := Lib.hid (HQ.out.next hb13)
                  have HB3 := Lib.hid (upB HB.out hb13)
                  have HX3 : Hid (Bx ((wr.alloc (.cells #[.int .i64 a, .int .i64 b] 25)).drewN nq) wr.heap.size 25 #[.int .i64 a, .int .i64 b]) := Lib.hid ((Bx.new wr 25 _).next (below_drewN (Below.refl _ _) nq))
                  generalize ((wr.alloc (.cells #[.int .i64 a, .int .i64 b] 25)).drewN nq) = w3 at hb13 HQ3 HB3 HX3 ⊢
                  clear hb13 c0 c1
                  obtain ⟨x0, x1⟩ := HX3.out.cells2
                  obtain ⟨k0, k1⟩ := HQ3.out.cell hmT
                  rw [HPQ.out] at k0 k1
                  simp only at k0 k1
                  go_wp2_with fail
                  go_still_tail 14, (by kernel_rfl)
                  clear x0 x1 k0 k1
                  have HQ4 := Lib.hid (HQ3.out.next (Below.refl w3.heap.size w3).drew)
                  have HB4 := Lib.hid HB3.out.drew
                  have f1 := HQ4.out.free (m * 2 + 1)
                  obtain ⟨k0, k1⟩ := HQ4.out.cell hmT
                  have l2 := HQ4.out.lt
                  have HQ5 : Hid (Qb (w3.drew.setCell ⟨g, m * 2 + 1, none⟩ (.int .i64 q)) g (TT.set m (p, q))) := Lib.hid (by have := HQ4.out.put1 hmT q; rw [HPQ.out] at this; exact this)
                  have HB5 : Hid (Below w.heap.size w (w3.drew.setCell ⟨g, m * 2 + 1, none⟩ (.int .i64 q))) := Lib.hid (HB4.out.setCell (p := ⟨g, m * 2 + 1, none⟩) hbase _)
                  go_wp2_with fail
                  go_roundw
                  case rel => exact ⟨i + 1, m + 1, TT.set m (p, q), by omega, rfl, by go_num, HM2.out q (by omega), HQ5, HB5⟩
                  case measure => simp [intOf]; omega
              · have hm' : decide (a ≤ q) = false := decide_eq_false hm
                have HM2 : Hid (Mg l' (TT.set (m + 1) (a, b)) (i + 1) (m + 1 + 1)) := Lib.hid (by
                  rw [← HAB.out]
                  exact HM.out.push hll (by rw [HAB.out]; exact HO.out) HASC.out (fun _ => by rw [Nat.add_sub_cancel, HPQ.out, HAB.out]; simp only; omega))
                have h0T : m + 1 < TT.length := by omega
                clear hTl hll
                go_wp2_with fail
                go_quiet (fail)
                clear k0 k1
                have hb13 : Below wr.heap.size wr ((wr.alloc (.cells #[.int .i64 a, .int .i64 b] 25)).drewN nq) := below_drewN (b1 wr _) nq
                have HQ3 := Lib.hid (HQ.out.next hb13)
                have HB3 := Lib.hid (upB HB.out hb13)
                have HX3 : Hid (Bx ((wr.alloc (.cells #[.int .i64 a, .int .i64 b] 25)).drewN nq) wr.heap.size 25 #[.int .i64 a, .int .i64 b]) := Lib.hid ((Bx.new wr 25 _).next (below_drewN (Below.refl _ _) nq))
                generalize ((wr.alloc (.cells #[.int .i64 a, .int .i64 b] 25)).drewN nq) = w3 at hb13 HQ3 HB3 HX3 ⊢
                clear hb13 c0 c1
                obtain ⟨x0, x1⟩ := HX3.out.cells2
                have l1 := HX3.out.lt
                have l2 := HQ3.out.lt
                obtain ⟨c0, c1⟩ := HQ3.out.cell (i := m + 1) h0T
                have f0 := HQ3.out.free ((m + 1) * 2)
                have f1 := HQ3.out.free ((m + 1) * 2 + 1)
                have hmI : (m : Int) + 1 < (N : Int) := by omega
                have HQ4 : Hid (Qb ((w3.setCell ⟨g, (m + 1) * 2, none⟩ (.int .i64 a)).setCell ⟨g, (m + 1) * 2 + 1, none⟩ (.int .i64 b)) g (TT.set (m + 1) (a, b))) := Lib.hid (HQ3.out.put2 h0T a b)
                have HB4 : Hid (Below w.heap.size w ((w3.setCell ⟨g, (m + 1) * 2, none⟩ (.int .i64 a)).setCell ⟨g, (m + 1) * 2 + 1, none⟩ (.int .i64 b))) := Lib.hid ((HB3.out.setCell (p := ⟨g, (m + 1) * 2, none⟩) hbase _).setCell (p := ⟨g, (m + 1) * 2 + 1, none⟩) hbase _)
                skip
                go_wp2_with fail
                go_roundw
                case rel => exact ⟨i + 1, (m + 1) + 1, TT.set (m + 1) (a, b), by omega, by go_num, by go_num, HM2, HQ4, HB4⟩
                case measure => simp [intOf]; omega
          · have hltI : ¬ (i : Int) < (N : Int) := by omega
            have hmi := HM.out.le
            have HTL : Hid (TT.length = N) := Lib.hid (by rw [HM.out.len, HLEN.out])
            have HRL : Hid ((TT.take m).length = m) := Lib.hid (by rw [List.length_take, HTL.out]; omega)
            have HRP := Lib.hid (HQ.out.rp (m := m) (by rw [HTL.out]; omega) (by rw [HTL.out]; exact hsl) HM.out.nf.ok)
            have HHR : Hid (∀ t, Hs (TT.take m) t ↔ Hs ls.flatten t) := Lib.hid (fun t => by rw [HM.out.hs t, List.take_of_length_le (by rw [HLEN.out]; omega)]; exact HHS.out t)
            have hm0 : (0 : Int) ≤ (m : Int) := by omega
            have hmc : (m : Int) ≤ (cap : Int) := by omega
            have hmc2 : m ≤ cap := by omega
            go_wp2_with fail
            go_ret
            exact ⟨some ⟨g, 0, none⟩, cap, TT.take m, by rw [HRL.out]; rfl, by rw [HRL.out]; exact hmc2, by rw [HRL.out]; exact HRP.out, fun _ b off sp e => by injection e with e; injection e with e1; subst e1; exact ⟨hbase, HQ.out.blk⟩, HM.out.nf, HHR.out, HB.out, by rw [HRL.out]; have h1 := HFL.out; first | omega | (rw [List.length_flatten] at h1; omega)⟩
end Go.Proofs.Ytmdkhnndfhcfdaa.Wk
