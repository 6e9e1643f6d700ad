/- Rows of bytes of the call's own, and the string that they are. Condition: none. -/
import Derived.Test.YtgfbgkoifcacdaaDoorOEr
import Derived.Laws.IdiomStrings
set_option linter.unusedSimpArgs false
set_option linter.unusedVariables false
namespace Go.Proofs.YtgfbgkoifcacdaaDoor.Ow
open Go.RowKit
open Go.Proofs.YtgfbgkoifcacdaaDoor.Om
theorem step_append_own {P : Program} {ops : Array Oper} {o : Oper} {a : Act} {w : World} {K : Act → World → Prop} {Q : Exit → Act → World → Prop} {E : Prop} (hgd : o.guard = none) (s x : Operand) (t : TypeId)
    (ho : o.op = .call { callee := .builtin .append, args := #[s, x], argTypes := #[t, t] })
    (base : Nat) (e : TypeId) (i : TypeInfo) (z : Value) (size bytes : Nat) (ht : P.underlying t = some (.slice e)) (hi : P.info? e = some i) (hz : i.zero = some z)
    (hsize : i.size = size) (hby : i.bytes = bytes) (hzs : z.cells.size = size) (hsz : 0 < size)
    (v : Value) (n : Nat) (xs : List Value) (hs : a.eval s = v) (hown : w.ownsRow base e size v n xs)
    (ad : Addr) (m c : Nat) (news : List Value) (hx : a.eval x = .slice (some ad) m c) (hl : news.length = m * size) (hc : ∀ j u, news[j]? = some u → w.cell? (ad.add j) = some u) (h1 : ∀ u ∈ news, u.oneCell' = true)
    (h63 : n + m ≤ maxLen) (hbytes : (n + m) * bytes ≤ 140737488355328) (hbase : base ≤ w.heap.size)
    (h : ∀ v' w', w'.ownsRow base e size v' (n + m) (xs ++ news) → w.grownBy w' v.ownBlock → K (a.put o.dst v') w') :
    if Region.wanted o (yielded ops a.tmps) = true then Oper.wp P o a w K Q else E := by
  have hw : Region.wanted o (yielded ops a.tmps) = true := by simp [Region.wanted, hgd]
  rw [if_pos hw]
  obtain ⟨v', w', hr, h2, h3, _⟩ := run_append_own (P := P) w base t o.type e i z size bytes ht hi hz hsize hby hzs hsz v n xs hown ad m c news hl hc h1 h63 hbytes hbase
  unfold Oper.wp execOp
  simp only [ho, resolve, invoke, builtin, Sem.run_bind, Sem.run_pure, Result.andThen_ok, List.map_toArray, List.map_cons, List.map_nil, hs, hx, hr]
  exact h v' w' h2 h3
theorem u8_info : (Tryd.prog.info? 5).map (fun i => (i.zero, i.size, i.bytes)) = some (some (.int .u8 0), 1, 1) := by kernel_rfl
def vbt (l : List UInt8) : List Value := l.map (fun b => .int .u8 (b.toNat : Int))
theorem vbt_app (a b : List UInt8) : vbt (a ++ b) = vbt a ++ vbt b := List.map_append
theorem vbt_at (l : List UInt8) (i : Nat) (h : i < l.length) : (vbt l)[i]? = some (.int .u8 ((l[i]'h).toNat : Int)) := by simp [vbt, h]
theorem vbt_one (l : List UInt8) : ∀ u ∈ vbt l, u.oneCell' = true := by
  intro u hu
  simp only [vbt, List.mem_map] at hu
  obtain ⟨_, _, rfl⟩ := hu
  rfl
def Ob (base : Nat) (w : World) (v : Value) (l : List UInt8) : Prop := w.ownsRow base 5 1 v l.length (vbt l)
theorem Ob.nil (base : Nat) (w : World) : Ob base w (.slice none 0 0) [] := World.ownsRow_nil _ _ _ _
theorem Ob.below {base : Nat} {w w' : World} {v : Value} {l : List UInt8} (h : Ob base w v l) (hb : Below w.heap.size w w') : Ob base w' v l := own_below h hb
/-- the new value owns what was there and what came -/
theorem Ob.more {base : Nat} {w : World} {v : Value} {l m : List UInt8} {n : Nat} (h : w.ownsRow base 5 1 v n (vbt l ++ vbt m)) (hn : n = (l ++ m).length) : Ob base w v (l ++ m) := by
  subst hn
  unfold Ob
  rw [vbt_app]
  exact h
set_option maxRecDepth 100000 in
theorem Ob.conv {base : Nat} {w : World} {v : Value} {l : List UInt8} (h : Ob base w v l) (hl : 0 < l.length) : ∃ g cap, v = .slice (some ⟨g, 0, none⟩) l.length cap ∧ (convert 133 9 (.slice (some ⟨g, 0, none⟩) l.length cap)).run Tryd.prog w = .ok (.string (strd l)) w := by
  obtain ⟨g, cap, hv, _, _⟩ := World.ownsRow.form h hl
  refine ⟨g, cap, hv, ?_⟩
  subst hv
  exact run_convert_bytes_back (P := Tryd.prog) w 133 9 5 ⟨g, 0, none⟩ cap l Tryd.underlying133 Tryd.underlying5 Tryd.underlying9 (fun j hj => World.ownsRow.cells h (g := g) rfl j _ (vbt_at l j hj))
theorem one_byte (x : Int) : ∀ u ∈ [Value.int .u8 x], u.oneCell' = true := by
  intro u hu; simp at hu; subst hu; rfl
theorem three_bytes (x y z : Int) : ∀ u ∈ [Value.int .u8 x, .int .u8 y, .int .u8 z], u.oneCell' = true := by
  intro u hu; simp at hu; rcases hu with rfl | rfl | rfl <;> rfl
theorem new_cells3 (W : World) (x y z : Value) (t : TypeId) (n : Nat) (h : n = W.heap.size) : ∀ j u, [x, y, z][j]? = some u → (W.alloc (.cells #[x, y, z] t)).cell? ((⟨n, 0, none⟩ : Addr).add j) = some u := by
  subst h
  intro j u hj
  have hb := Bx.new W t #[x, y, z]
  have e : (⟨W.heap.size, 0, none⟩ : Addr).add j = ⟨W.heap.size, j, none⟩ := by unfold Addr.add; by_cases h : j = 0 <;> simp [h]
  rw [e, hb.cell]
  simpa using hj
end Go.Proofs.YtgfbgkoifcacdaaDoor.Ow
