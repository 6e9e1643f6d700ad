/- Many states made one after the other: their numbers ascend; the law of it, walked. Condition: the table of powers reads as the program lays it. -/
import Derived.Test.YtgghnamjjgmimaaDoorLawB
set_option linter.unusedSimpArgs false
set_option linter.unusedVariables false
namespace Go.Proofs.YtgghnamjjgmimaaDoor.Mt
open Go
theorem less_app (a x y : List UInt8) : Op.bytesLess (a ++ x) (a ++ y) = Op.bytesLess x y := by
  induction a with
  | nil => rfl
  | cons c a ih =>
    have hx : ¬ c < c := by rw [UInt8.lt_iff_toNat_lt]; omega
    simp [Op.bytesLess, ih, hx]
theorem less_dgl (p q : List UInt8) : ∀ k n m, n % 10 ^ k < m % 10 ^ k → Op.bytesLess (dgl n k ++ p) (dgl m k ++ q) = true := by
  intro k
  induction k with
  | zero => intro n m h; simp [Nat.mod_one] at h
  | succ k ih =>
    intro n m h
    rw [dgl_front, dgl_front]
    have e1 : n % 10 ^ (k + 1) = n % 10 ^ k + 10 ^ k * (n / 10 ^ k % 10) := by rw [Nat.pow_succ, Nat.mod_mul]
    have e2 : m % 10 ^ (k + 1) = m % 10 ^ k + 10 ^ k * (m / 10 ^ k % 10) := by rw [Nat.pow_succ, Nat.mod_mul]
    have h1 : n % 10 ^ k < 10 ^ k := Nat.mod_lt _ (Nat.pow_pos (by omega))
    have h2 : m % 10 ^ k < 10 ^ k := Nat.mod_lt _ (Nat.pow_pos (by omega))
    have u1 := u8_dig (n / 10 ^ k)
    have u2 := u8_dig (m / 10 ^ k)
    rw [List.cons_append, List.cons_append]
    generalize hA : UInt8.ofNat (48 + n / 10 ^ k % 10) = A at u1 ⊢
    generalize hB : UInt8.ofNat (48 + m / 10 ^ k % 10) = B at u2 ⊢
    generalize hx : n / 10 ^ k % 10 = x at *
    generalize hy : m / 10 ^ k % 10 = y at *
    rcases Nat.lt_trichotomy x y with c | c | c
    · have : A < B := by rw [UInt8.lt_iff_toNat_lt]; omega
      simp [Op.bytesLess, this]
    · subst c
      have hab : A = B := by rw [← hA, ← hB]
      subst hab
      have := ih n m (by omega)
      simp [Op.bytesLess, this]
    · have : 10 ^ k * (y + 1) ≤ 10 ^ k * x := Nat.mul_le_mul_left _ (by omega)
      rw [Nat.mul_add, Nat.mul_one] at this
      omega
theorem tag_list (ag : ByteArray) (n : Nat) : (tagOf ag n).toList = ag.data.toList ++ (dgl n 8 ++ dgl (cd (bd ag n)) 1) := by
  rw [ByteArray.toList_eq]
  unfold tagOf bd strd
  simp [ByteArray.data_append]
theorem ls_tag (ag : ByteArray) {n m : Nat} (h : n < m) (hm : m < 100000000) : ls (tagOf ag n) (tagOf ag m) = true := by
  unfold ls
  rw [tag_list, tag_list, less_app]
  have e : (10 ^ 8 : Nat) = 100000000 := by decide
  refine less_dgl _ _ 8 n m ?_
  rw [Nat.mod_eq_of_lt (by omega), Nat.mod_eq_of_lt (by omega)]
  exact h
def mst (ag : ByteArray) (i : Nat) : Ts := (tagOf ag i, (i : Int), 1 + ((i % 3 : Nat) : Int))
def mkl (ag : ByteArray) (k : Nat) : List Ts := (List.range k).map (mst ag)
theorem mkl_len (ag : ByteArray) (k : Nat) : (mkl ag k).length = k := by simp [mkl]
theorem mkl_next (ag : ByteArray) (k : Nat) : mkl ag (k + 1) = mkl ag k ++ [mst ag k] := by unfold mkl; rw [List.range_succ, List.map_append]; rfl
theorem mkl_at (ag : ByteArray) {k i : Nat} (h : i < k) : tat (mkl ag k) i = mst ag i := by simp [tat, mkl, h]
theorem mst_bf (ag : ByteArray) {i : Nat} (h : i + 1 < 100000000) : bf (mst ag i) (mst ag (i + 1)) = true := by
  unfold bf
  cases e : eqb (mst ag i).1 (mst ag (i + 1)).1
  · rw [if_neg (by simp)]
    exact ls_tag ag (by omega : i < i + 1) h
  · rw [if_pos rfl]
    exact decide_eq_true (show (i : Int) < ((i + 1 : Nat) : Int) by omega)
theorem ca_ok {ag : ByteArray} (h : Ag ag) : caS (mkl ag 1024) = 0 := by
  unfold caS
  rw [mkl_len, if_neg (by omega)]
  refine fe_all.2 fun i hi => ?_
  unfold er
  rw [mkl_at ag hi]
  have h1 : ck (mst ag i).1 = 0 := ck_yes (tag_is h)
  rw [h1, if_neg (by omega), if_neg (by simp only [mst]; omega), if_neg (by simp only [mst]; omega)]
  rw [if_neg]
  rintro ⟨h0, h2⟩
  rw [mkl_at ag (by omega)] at h2
  have := mst_bf ag (i := i - 1) (by omega)
  rw [show i - 1 + 1 = i by omega] at this
  rw [this] at h2; cases h2
theorem ca_big {l : List Ts} (h : 1024 < l.length) : caS l = 3 := if_pos h
theorem ca_bad {ag : ByteArray} {tl : List Ts} (h : Ag ag) (hl : (((tagOf ag 0, (0 : Int), (4 : Int)) : Ts) :: tl).length = 1024) : caS ((tagOf ag 0, 0, 4) :: tl) = 1 := by
  have he : er ((tagOf ag 0, 0, 4) :: tl) 0 = 1 := by
    unfold er
    have h1 : ck (tat (((tagOf ag 0, (0 : Int), (4 : Int)) : Ts) :: tl) 0).1 = 0 := ck_yes (tag_is h)
    rw [h1]
    simp [tat]
  unfold caS
  rw [hl, if_neg (by omega)]
  have := fe_yes (l := (tagOf ag 0, 0, 4) :: tl) (k := 0) rfl (by rw [he]; decide) 1023
  rw [he] at this
  exact this
def fts (l : List Ts) : List Go.Value := l.flatMap fun v => [.string v.1, .int .i64 v.2.1, .int .i64 v.2.2]
theorem fts_len (l : List Ts) : (fts l).length = l.length * 3 := by
  induction l with
  | nil => rfl
  | cons v l ih => simp only [fts, List.flatMap_cons, List.length_append, List.length_cons, List.length_nil] at *; omega
theorem fts_app (a b : List Ts) : fts (a ++ b) = fts a ++ fts b := by simp [fts]
theorem fts_at : ∀ (l : List Ts) (i : Nat), i < l.length → (fts l)[i * 3]? = some (.string (tat l i).1) ∧ (fts l)[i * 3 + 1]? = some (.int .i64 (tat l i).2.1) ∧ (fts l)[i * 3 + 2]? = some (.int .i64 (tat l i).2.2) := by
  intro l
  induction l with
  | nil => intro i h; simp at h
  | cons v l ih =>
    intro i h
    have e : fts (v :: l) = .string v.1 :: .int .i64 v.2.1 :: .int .i64 v.2.2 :: fts l := rfl
    rw [e]
    rcases i with _ | i
    · exact ⟨rfl, rfl, rfl⟩
    · obtain ⟨h1, h2, h3⟩ := ih i (by simpa using h)
      have e1 : (i + 1) * 3 = i * 3 + 3 := by omega
      have e2 : tat (v :: l) (i + 1) = tat l i := by simp [tat]
      rw [e1, e2]
      exact ⟨by simpa using h1, by simpa using h2, by simpa using h3⟩
end Go.Proofs.YtgghnamjjgmimaaDoor.Mt
namespace Go.Proofs.YtgghnamjjgmimaaDoor.Wk
open Go.RowKit
open Go.Proofs.YtgghnamjjgmimaaDoor.Mt
theorem st_info : (Tryd.prog.info? 45).map (fun i => (i.zero, i.size, i.bytes)) = some (some (.agg #[.string ⟨#[]⟩, .int .i64 0, .int .i64 0]), 3, 32) := by kernel_rfl
def Qt (w : World) (g : Nat) (l : List Ts) : Prop := ∃ cur : Array Value, w.heap[g]? = some (.cells cur 45 (0, 0)) ∧ l.length * 3 ≤ cur.size ∧ cur.toList.take (l.length * 3) = fts l
theorem Qt.bx {w : World} {g : Nat} {l : List Ts} (h : Qt w g l) : ∃ cur, Bx w g 45 cur := by obtain ⟨cur, h1, _⟩ := h; exact ⟨cur, h1⟩
theorem Qt.lt {w : World} {g : Nat} {l : List Ts} (h : Qt w g l) : g < w.heap.size := by obtain ⟨cur, h1⟩ := h.bx; exact h1.lt
theorem Qt.cell {w : World} {g : Nat} {l : List Ts} (h : Qt w g l) {i : Nat} (hi : i < l.length) : w.cell? ⟨g, i * 3, none⟩ = some (.string (tat l i).1) ∧ w.cell? ⟨g, i * 3 + 1, none⟩ = some (.int .i64 (tat l i).2.1) ∧ w.cell? ⟨g, i * 3 + 2, none⟩ = some (.int .i64 (tat l i).2.2) := by
  obtain ⟨cur, h1, h2, h3⟩ := h
  obtain ⟨e1, e2, e3⟩ := fts_at l i hi
  rw [← h3, List.getElem?_take, if_pos (by omega)] at e1 e2 e3
  have c1 := cell_of_row w g (i * 3) cur 45 (0, 0) h1
  have c2 := cell_of_row w g (i * 3 + 1) cur 45 (0, 0) h1
  have c3 := cell_of_row w g (i * 3 + 2) cur 45 (0, 0) h1
  rw [← Array.getElem?_toList] at c1 c2 c3
  exact ⟨c1.trans e1, c2.trans e2, c3.trans e3⟩
theorem Qt.rt {w : World} {g n : Nat} {l : List Ts} (h : Qt w g l) (hn : l.length = n) (hb : n ≤ 4096) (hi : ∀ i, In64 (tat l i).2.1 ∧ In64 (tat l i).2.2) : Rt w w.heap.size (some ⟨g, 0, none⟩) n l :=
  ⟨hn, by omega, fun _ => ⟨g, 0, rfl, h.lt, fun i hin => by rw [Nat.zero_add]; exact h.cell (by omega)⟩, hi⟩
theorem Qt.spoil {w : World} {g : Nat} {a : ByteArray} {b c d : Int} {tl : List Ts} (h : Qt w g ((a, b, c) :: tl)) : Qt (w.setCell ⟨g, 2, none⟩ (.int .i64 d)) g ((a, b, d) :: tl) := by
  obtain ⟨cur, h1, h2, h3⟩ := h
  refine ⟨cur.setIfInBounds 2 (.int .i64 d), heap_setCell_same w g 2 _ 45 _ h1, by simpa using h2, ?_⟩
  have e : fts ((a, b, d) :: tl) = (fts ((a, b, c) :: tl)).set 2 (.int .i64 d) := rfl
  rw [e, ← h3]
  simp only [Array.toList_setIfInBounds, List.length_cons, List.take_set]
def Gs (w wr : World) (v : Value) (s : List Ts) : Prop := Below w.heap.size w wr ∧ wr.ownsRow w.heap.size 45 3 v s.length (fts s)
theorem Gs.below {w wr w1 : World} {v : Value} {s : List Ts} (h : Gs w wr v s) (hb : Below wr.heap.size wr w1) : Gs w w1 v s := ⟨upB h.1 hb, own_below h.2 hb⟩
theorem Gs.app {w W w1 : World} {v v' : Value} {s : List Ts} {x : Ts} (h : Gs w W v s) (ho : w1.ownsRow w.heap.size 45 3 v' (s.length + 1) (fts s ++ [.string x.1, .int .i64 x.2.1, .int .i64 x.2.2])) (hg : W.grownBy w1 v.ownBlock) : Gs w w1 v' (s ++ [x]) := by
  refine ⟨h.1.grown hg h.1.size (fun k hk => (h.2.lt k hk).1), ?_⟩
  rw [List.length_append, fts_app]
  exact ho
theorem Gs.own {w wr : World} {v : Value} {l : List Ts} (h : Gs w wr v l) (h0 : 0 < l.length) : ∃ g cap, v = .slice (some ⟨g, 0, none⟩) l.length cap ∧ l.length ≤ cap ∧ w.heap.size ≤ g ∧ Qt wr g l := by
  rcases h.2.2 with ⟨_, h2⟩ | ⟨g, cap, cur, hv, hb, hg, hc, _, hs, ht⟩
  · omega
  · exact ⟨g, cap, hv, hc, hb, cur, hg, by omega, ht⟩
theorem new_three (W : World) (x y z : Value) (t : TypeId) (n : Nat) (h : n = W.heap.size) : ∀ j u, [x, y, z][j]? = some u → (W.alloc (.cells #[x, y, z] t)).cell? ((⟨n, 0, none⟩ : Addr).add j) = some u := by
  intro j u hu
  subst h
  have e : (⟨W.heap.size, 0, none⟩ : Addr).add j = ⟨W.heap.size, j, none⟩ := by unfold Addr.add; by_cases hj : j = 0 <;> simp [hj]
  rw [e, cell_of_row _ W.heap.size j _ _ _ (heap_alloc_new W _)]
  rcases j with _ | _ | _ | j
  · simpa using hu
  · simpa using hu
  · simpa using hu
  · simp at hu
theorem three_one (s : ByteArray) (x y : Int) : ∀ u ∈ [Value.string s, Value.int .i64 x, Value.int .i64 y], u.oneCell' = true := by intro u hu; simp at hu; rcases hu with rfl | rfl | rfl <;> rfl
theorem mkl_in (ag : ByteArray) {k : Nat} (hk : k ≤ 4096) : ∀ i, In64 (tat (mkl ag k) i).2.1 ∧ In64 (tat (mkl ag k) i).2.2 := by
  intro i
  rcases Nat.lt_or_ge i k with h | h
  · rw [mkl_at ag h]; simp only [mst]; unfold In64; omega
  · have e : tat (mkl ag k) i = (⟨#[]⟩, 0, 0) := by simp [tat, mkl, h]
    rw [e]; simp [In64]
theorem conv1 (d : Nat) (hd : d < 10) (w : World) (x : Int) (hx : x = 48 + (d : Int)) (g : Nat) (h : Bx w g 5 #[.int .u8 x]) :
    (convert 43 9 (.slice (some ⟨g, 0, none⟩) 1 1)).run Tryd.prog w = .ok (.string (strd (dgl d 1))) w := by
  have hb := run_convert_bytes_back (P := Tryd.prog) w 43 9 5 ⟨g, 0, none⟩ 1 (dgl d 1) Tryd.underlying43 Tryd.underlying5 Tryd.underlying9 (fun j hj => by
    rw [dgl_len] at hj
    obtain rfl : j = 0 := by omega
    have e : (⟨g, 0, none⟩ : Addr).add 0 = ⟨g, 0, none⟩ := rfl
    rw [e, h.cell]
    have : (dgl d 1)[0]'(by rw [dgl_len]; omega) = UInt8.ofNat (48 + d % 10) := rfl
    rw [this, u8_dig, hx]
    have : d % 10 = d := by omega
    simp [this])
  rw [dgl_len] at hb
  exact hb
theorem agn_small (d : Nat) (hd : d < 10) : ({ data := #[48, 48] } : ByteArray) ++ strd (dgl d 1) = agn d := by
  unfold agn
  rw [dgl3]
  have e1 : d / 100 % 10 = 0 := by omega
  have e2 : d / 10 % 10 = 0 := by omega
  rw [e1, e2]
  rfl
set_option maxHeartbeats 4000000 in
set_option maxRecDepth 100000 in
theorem many_law (a0 a1 : Int) (sp : Bool) (w : World) (ht : Tb w) (h0 : 0 ≤ a0 ∧ a0 ≤ 65535) (h1 : 0 ≤ a1 ∧ a1 ≤ 255) : Calls Tryd.prog 6 #[.int .u16 a0, .int .u8 a1, .bool sp] w fun e w' => e = .returned (.bool true) ∧ Below w.heap.size w w' := by
  have HTB := Lib.hid ht
  clear ht
  obtain ⟨i0, hi0, hz0, hs0, hb0'⟩ := info_parts st_info
  by_cases hm : 100 < a1
  · go_enter Tryd.func6, Tryd.ntmps6
    go_wp2_with fail
    go_ret
    exact ⟨rfl, Below.refl _ _⟩
  · have q1 : decide (100 < a1) = false := decide_eq_false hm
    by_cases hk : 999 < a0
    · go_enter Tryd.func6, Tryd.ntmps6
      go_wp2_with fail
      go_ret
      exact ⟨rfl, Below.refl _ _⟩
    · have q2 : decide (999 < a0) = false := decide_eq_false hk
      obtain ⟨d, hd⟩ : ∃ d : Nat, Int.tmod a0 10 = (d : Int) ∧ d < 10 := ⟨(a0 % 10).toNat, by rw [Int.tmod_eq_emod_of_nonneg h0.1]; omega, by omega⟩
      obtain ⟨hd, hd10⟩ := hd
      obtain ⟨x, hx⟩ : ∃ x, 48 + (d : Int) = x := ⟨_, rfl⟩
      have F1 : IntKind.u16.wrap (d : Int) = (d : Int) := IntWalk.u16_in _ (by omega)
      have F2 : IntKind.u8.wrap (d : Int) = (d : Int) := IntWalk.u8_in _ (by omega)
      have F3 : IntKind.u8.wrap (48 + (d : Int)) = x := by rw [hx]; exact IntWalk.u8_in _ (by omega)
      have hcv := conv1 d hd10 (w.alloc (.cells #[.int .u8 x] 5)) x hx.symm w.heap.size (Bx.new _ _ _)
      have hcat := agn_small d hd10
      have hus : (strd (dgl d 1)).size = 1 := by rw [strd_size, dgl_len]
      have HAG := Lib.hid (agn_is d)
      obtain ⟨u, hu⟩ : ∃ u, strd (dgl d 1) = u := ⟨_, rfl⟩
      obtain ⟨ag, hag⟩ : ∃ ag, agn d = ag := ⟨_, rfl⟩
      rw [hu] at hcv hcat hus
      rw [hag] at hcat HAG
      obtain ⟨m, rfl⟩ : ∃ m : Nat, a1 = (m : Int) := ⟨a1.toNat, by omega⟩
      have hm100 : m ≤ 100 := by omega
      have F4 : IntKind.i64.wrap (m : Int) = (m : Int) := IntWalk.i64_in _ (by omega)
      have F5 : IntKind.i64.wrap (1024 + (m : Int)) = 1024 + (m : Int) := IntWalk.i64_in _ (by omega)
      obtain ⟨M, hM⟩ : ∃ M, 1024 + m = M := ⟨_, rfl⟩
      have hMI : 1024 + (m : Int) = (M : Int) := by omega
      have F6 : IntKind.i64.wrap (M : Int) = (M : Int) := IntWalk.i64_in _ (by omega)
      have HG0 : Hid (Gs w (w.alloc (.cells #[.int .u8 x] 5)) (.slice none 0 0) (mkl ag 0)) := Lib.hid ⟨b1 _ _, World.ownsRow_nil _ _ _ _⟩
      clear hx hu hag
      go_enter Tryd.func6, Tryd.ntmps6
      go_wp2_with fail
      clear hcv hcat hus F1 F2 F3
      go_loopw [8, 9] (fun v iv wr => ∃ k : Nat, k ≤ M ∧ iv = .int .i64 k ∧ Hid (Gs w wr v (mkl ag k))) (fun _ iv _ => M - (intOf iv).toNat)
      case atStart => exact ⟨0, Nat.zero_le _, rfl, HG0⟩
      case round =>
        obtain ⟨k, hk, rfl, HG⟩ := hrel
        by_cases hlt : k < M
        · have hltI : (k : Int) < (M : Int) := by omega
          have HMK := Lib.hid (mk_ok (ag := ag) (n := (k : Int)) HAG.out (by omega))
          rw [Int.toNat_natCast] at HMK
          have HTT := Lib.hid (HTB.out.next HG.out.1)
          have HNX : Hid (mkl ag (k + 1) = mkl ag k ++ [mst ag k]) := Lib.hid (mkl_next ag k)
          have HKL : Hid ((mkl ag k).length = k) := Lib.hid (mkl_len ag k)
          have hms : mst ag k = (tagOf ag k, (k : Int), 1 + ((k % 3 : Nat) : Int)) := rfl
          obtain ⟨tg, htg⟩ : ∃ tg, tagOf ag k = tg := ⟨_, rfl⟩
          obtain ⟨r3, hr3⟩ : ∃ r3 : Int, ((k % 3 : Nat) : Int) = r3 := ⟨_, rfl⟩
          rw [htg] at HMK hms
          rw [hr3] at hms
          rw [hms] at HNX
          have G1 : Int.tmod (k : Int) 3 = r3 := by rw [Int.tmod_eq_emod_of_nonneg (by omega)]; omega
          have G2 : IntKind.i64.wrap r3 = r3 := IntWalk.i64_in _ (by omega)
          have G3 : IntKind.i64.wrap (1 + r3) = 1 + r3 := IntWalk.i64_in _ (by omega)
          obtain ⟨y, hy⟩ : ∃ y, 1 + r3 = y := ⟨_, rfl⟩
          rw [hy] at G3 HNX
          obtain ⟨s, hs⟩ : ∃ s, mkl ag k = s := ⟨_, rfl⟩
          rw [hs] at HG HNX HKL
          clear htg hr3 hs hms
          go_wp2_with fail
          refine (make18 ag (k : Int) _ HTT.out).mono ?_
          rintro e w2 ⟨rfl, hb⟩
          rw [HMK.out.1, HMK.out.2]
          replace HG := Lib.hid (HG.out.below hb)
          clear hb
          have HOW := Lib.hid HG.out.2
          have hsz := HG.out.1.size
          have C4 : Hid (s.length + 1 ≤ maxLen) := Lib.hid (by have := HKL.out; unfold maxLen; omega)
          have C5 : Hid ((s.length + 1) * 32 ≤ 140737488355328) := Lib.hid (by have := HKL.out; omega)
          go_wp2_with (first | (go_loud (at_builtin; refine wpList_append_own _ rfl _ _ 38 rfl w.heap.size 45 i0 (.agg #[.string ⟨#[]⟩, .int .i64 0, .int .i64 0]) 3 32 Tryd.underlying38 hi0 hz0 hs0 hb0' rfl (by omega) _ _ _ rfl (HOW.out.alloc _) ⟨_, 0, none⟩ 1 1 [.string tg, .int .i64 (k : Int), .int .i64 y] rfl rfl (new_three _ _ _ _ _ _ (by simp)) (three_one tg (k : Int) y) C4.out C5.out (by simp; omega) ?_)) | fail)
          intro v' w9 hown hgrow _
          have HG9 : Hid (Gs w w9 v' (s ++ [(tg, (k : Int), y)])) := Lib.hid (Gs.app (W := w2.alloc (.cells #[.string tg, .int .i64 (k : Int), .int .i64 y] 45)) (HG.out.below (b1 _ _)) hown hgrow)
          clear hown hgrow HOW
          rw [← HNX.out] at HG9
          go_wp2_with fail
          go_roundw
          case rel => exact ⟨k + 1, by omega, by go_num, HG9⟩
          case measure => simp [intOf]; omega
        · have hltI : ¬ (k : Int) < (M : Int) := by omega
          have hkM : k = M := by omega
          subst hkM
          have hM0 : 0 < k := by omega
          obtain ⟨g, cap, hv, hcap, hgb, hq⟩ := HG.out.own (by rw [mkl_len]; exact hM0)
          rw [mkl_len] at hv hcap
          subst hv
          have hM0I : (0 : Int) < (k : Int) := by omega
          have HTL : Hid (mkl ag k = mst ag 0 :: (mkl ag k).tail) := Lib.hid (by
            obtain ⟨j, hj⟩ : ∃ j, k = j + 1 := ⟨k - 1, by omega⟩
            rw [hj]
            unfold mkl
            rw [List.range_succ_eq_map]
            rfl)
          have hms : mst ag 0 = (tagOf ag 0, 0, 1) := rfl
          rw [hms] at HTL
          obtain ⟨tl, htl⟩ : ∃ tl, (mkl ag k).tail = tl := ⟨_, rfl⟩
          rw [htl] at HTL
          have HLT : Hid ((((tagOf ag 0, (0 : Int), (4 : Int)) : Ts) :: tl).length = k) := Lib.hid (by have := mkl_len ag k; rw [HTL.out] at this; exact this)
          have HIT : Hid (∀ i, In64 (tat (((tagOf ag 0, (0 : Int), (4 : Int)) : Ts) :: tl) i).2.1 ∧ In64 (tat (((tagOf ag 0, (0 : Int), (4 : Int)) : Ts) :: tl) i).2.2) := Lib.hid (fun i => by
            rcases i with _ | i
            · simp [tat, In64]
            · have := mkl_in ag (k := k) (by omega) (i + 1)
              rw [HTL.out] at this
              exact this)
          have hHT := htl
          clear htl hms
          by_cases hm0 : 0 < m
          · have q5 : (0 : Int) < (m : Int) := by omega
            have HC1 : Hid (caS ((tagOf ag 0, 0, 4) :: tl) = 3) := Lib.hid (ca_big (by rw [HLT.out]; omega))
            have HC2 : Hid (caS (mkl ag k) = 3) := Lib.hid (ca_big (by rw [mkl_len]; omega))
            rcases fot sp with rfl | rfl
            · as_aux_lemma =>
                have HB2 := Lib.hid HG.out.1
                have HR : Hid (Rt wr wr.heap.size (some ⟨g, 0, none⟩) k (mkl ag k)) := Lib.hid (hq.rt (mkl_len ag k) (by omega) (mkl_in ag (by omega)))
                have HTT := Lib.hid (HTB.out.next (w' := wr) HB2.out)
                clear hq
                clear hHT
                go_wp2_with fail
                refine (checkAll20 (some ⟨g, 0, none⟩) k cap (mkl ag k) _ HR.out).mono ?_
                rintro e w3 ⟨rfl, hb⟩
                rw [HC2.out]
                replace HB2 := Lib.hid (upB HB2.out hb)
                replace HTT := Lib.hid (HTT.out.next hb)
                clear hb
                go_wp2_with fail
                refine (alive17 _ HTT.out).mono ?_
                rintro e w4 ⟨rfl, hb⟩
                replace HB2 := Lib.hid (upB HB2.out hb)
                clear hb
                go_wp2_with fail
                go_ret
                exact ⟨rfl, HB2.out⟩
            · as_aux_lemma =>
                have f1 : wr.frozen? ⟨g, 2, none⟩ = false := by obtain ⟨cur, hc⟩ := hq.bx; exact hc.free 2
                obtain ⟨_, _, k2⟩ := hq.cell (i := 0) (by rw [mkl_len]; omega)
                simp only [Nat.zero_mul, Nat.zero_add] at k2
                have hgl := hq.lt
                have HQ2 : Hid (Qt (wr.setCell ⟨g, 2, none⟩ (.int .i64 4)) g ((tagOf ag 0, 0, 4) :: tl)) := Lib.hid (by rw [HTL.out] at hq; exact hq.spoil)
                have HB2 : Hid (Below w.heap.size w (wr.setCell ⟨g, 2, none⟩ (.int .i64 4))) := Lib.hid (HG.out.1.setCell (p := ⟨g, 2, none⟩) hgb _)
                have HR : Hid (Rt (wr.setCell ⟨g, 2, none⟩ (.int .i64 4)) (wr.setCell ⟨g, 2, none⟩ (.int .i64 4)).heap.size (some ⟨g, 0, none⟩) k ((tagOf ag 0, 0, 4) :: tl)) := Lib.hid (HQ2.out.rt HLT.out (by omega) HIT.out)
                have HTT := Lib.hid (HTB.out.next (w' := wr.setCell ⟨g, 2, none⟩ (.int .i64 4)) HB2.out)
                clear hq
                clear hHT
                go_wp2_with fail
                refine (checkAll20 (some ⟨g, 0, none⟩) k cap ((tagOf ag 0, 0, 4) :: tl) _ HR.out).mono ?_
                rintro e w3 ⟨rfl, hb⟩
                rw [HC1.out]
                replace HB2 := Lib.hid (upB HB2.out hb)
                replace HTT := Lib.hid (HTT.out.next hb)
                clear hb
                go_wp2_with fail
                refine (alive17 _ HTT.out).mono ?_
                rintro e w4 ⟨rfl, hb⟩
                replace HB2 := Lib.hid (upB HB2.out hb)
                clear hb
                go_wp2_with fail
                go_ret
                exact ⟨rfl, HB2.out⟩
          · have q5 : decide ((0 : Int) < (m : Int)) = false := decide_eq_false (by omega)
            have hk1024 : k = 1024 := by omega
            have HC1 : Hid (caS ((tagOf ag 0, 0, 4) :: tl) = 1) := Lib.hid (ca_bad HAG.out (by rw [HLT.out]; exact hk1024))
            have HC2 : Hid (caS (mkl ag k) = 0) := Lib.hid (by rw [hk1024]; exact ca_ok HAG.out)
            clear hk1024
            rcases fot sp with rfl | rfl
            · as_aux_lemma =>
                have HB2 := Lib.hid HG.out.1
                have HR : Hid (Rt wr wr.heap.size (some ⟨g, 0, none⟩) k (mkl ag k)) := Lib.hid (hq.rt (mkl_len ag k) (by omega) (mkl_in ag (by omega)))
                have HTT := Lib.hid (HTB.out.next (w' := wr) HB2.out)
                clear hq
                clear hHT
                go_wp2_with fail
                refine (checkAll20 (some ⟨g, 0, none⟩) k cap (mkl ag k) _ HR.out).mono ?_
                rintro e w3 ⟨rfl, hb⟩
                rw [HC2.out]
                replace HB2 := Lib.hid (upB HB2.out hb)
                replace HTT := Lib.hid (HTT.out.next hb)
                clear hb
                go_wp2_with fail
                refine (alive17 _ HTT.out).mono ?_
                rintro e w4 ⟨rfl, hb⟩
                replace HB2 := Lib.hid (upB HB2.out hb)
                clear hb
                go_wp2_with fail
                go_ret
                exact ⟨rfl, HB2.out⟩
            · as_aux_lemma =>
                have f1 : wr.frozen? ⟨g, 2, none⟩ = false := by obtain ⟨cur, hc⟩ := hq.bx; exact hc.free 2
                obtain ⟨_, _, k2⟩ := hq.cell (i := 0) (by rw [mkl_len]; omega)
                simp only [Nat.zero_mul, Nat.zero_add] at k2
                have hgl := hq.lt
                have HQ2 : Hid (Qt (wr.setCell ⟨g, 2, none⟩ (.int .i64 4)) g ((tagOf ag 0, 0, 4) :: tl)) := Lib.hid (by rw [HTL.out] at hq; exact hq.spoil)
                have HB2 : Hid (Below w.heap.size w (wr.setCell ⟨g, 2, none⟩ (.int .i64 4))) := Lib.hid (HG.out.1.setCell (p := ⟨g, 2, none⟩) hgb _)
                have HR : Hid (Rt (wr.setCell ⟨g, 2, none⟩ (.int .i64 4)) (wr.setCell ⟨g, 2, none⟩ (.int .i64 4)).heap.size (some ⟨g, 0, none⟩) k ((tagOf ag 0, 0, 4) :: tl)) := Lib.hid (HQ2.out.rt HLT.out (by omega) HIT.out)
                have HTT := Lib.hid (HTB.out.next (w' := wr.setCell ⟨g, 2, none⟩ (.int .i64 4)) HB2.out)
                clear hq
                clear hHT
                go_wp2_with fail
                refine (checkAll20 (some ⟨g, 0, none⟩) k cap ((tagOf ag 0, 0, 4) :: tl) _ HR.out).mono ?_
                rintro e w3 ⟨rfl, hb⟩
                rw [HC1.out]
                replace HB2 := Lib.hid (upB HB2.out hb)
                replace HTT := Lib.hid (HTT.out.next hb)
                clear hb
                go_wp2_with fail
                refine (alive17 _ HTT.out).mono ?_
                rintro e w4 ⟨rfl, hb⟩
                replace HB2 := Lib.hid (upB HB2.out hb)
                clear hb
                go_wp2_with fail
                go_ret
                exact ⟨rfl, HB2.out⟩
end Go.Proofs.YtgghnamjjgmimaaDoor.Wk
