/- No call takes back a draw from the tape. No condition. -/
import Derived.Calls
set_option linter.unusedSimpArgs false
set_option linter.unusedVariables false
namespace Go.Proofs.Ytobgdemhadlgnaa.Av.Mo
open Go
theorem ask_mono {α : Type} : ∀ (x : Ask α) (w : World), w.drawn ≤ (w.ask x).2.drawn ∧ True
  | .done a, w => ⟨Nat.le_refl _, trivial⟩
  | .ask what range k, w => by
    show w.drawn ≤ (if (Question.extern what range).forced = true then w.ask (k 0) else World.ask { w with drawn := w.drawn + 1 } (k ((Question.extern what range).cut (w.tape w.drawn (Question.extern what range))))).2.drawn ∧ True
    split
    · exact ask_mono (k 0) w
    · exact ⟨Nat.le_trans (Nat.le_succ _) (ask_mono (k _) { w with drawn := w.drawn + 1 }).1, trivial⟩
theorem sys_mono (w : World) (c : Sys) : w.drawn ≤ (w.sys c).2.drawn := by
  unfold World.sys
  have h := (ask_mono (Kernel.perform c w.os) w).1
  split
  · exact Nat.le_refl _
  · rename_i h2
    rw [h2] at h
    exact h
theorem viewStore_mono {p : Program} {w w' : World} {at_ : Addr} {u : TypeId} {k : Addr} {v : Value} {b : Bool} {l : List Addr} (h : w.viewStore p at_ u k v b = .ok (w', l)) : w'.drawn = w.drawn := by
  unfold World.viewStore at h
  simp only [bind, Except.bind, pure, Except.pure, throw, throwThe, MonadExceptOf.throw] at h
  repeat' split at h
  all_goals first | (cases h; rfl) | cases h
theorem farStore_mono {p : Program} {w w' : World} {a : Addr} {v : Value} {b : Bool} {l : List Addr} (h : w.farStore p a v b = .ok (w', l)) : w'.drawn = w.drawn := by
  unfold World.farStore at h
  split at h
  · split at h
    · rename_i h2; cases h; exact viewStore_mono h2
    · cases h
  · cases h
theorem freeze_drawn (w : World) (a : Addr) (n : Nat) : (w.freeze a n).drawn = w.drawn := by unfold World.freeze; split <;> rfl
def RM {α : Type} (w : World) : Result α → Prop
  | .ok _ w' => w.drawn ≤ w'.drawn
  | .halt _ w' => w.drawn ≤ w'.drawn
theorem RM.of {α : Type} {w w1 : World} (h : w.drawn ≤ w1.drawn) : ∀ {r : Result α}, RM w1 r → RM w r
  | .ok _ _, h2 => Nat.le_trans h h2
  | .halt _ _, h2 => Nat.le_trans h h2
theorem run_mono {α : Type} (p : Program) : ∀ (s : Sem α) (w : World), RM w (s.run p w)
  | .pure a, w => Nat.le_refl _
  | .load m a k, w => by
    unfold Sem.run
    split
    · exact run_mono p _ w
    · split
      · exact run_mono p _ w
      · exact Nat.le_refl _
  | .store m a v k, w => by
    have key : RM w (match w.cell? a with
        | some _ => if w.frozen? a then .halt (.unsupported (.unsafePointer "a write to bytes that a string shares")) w else k.run p (w.setCell a v)
        | none => match w.farStore p a v (m == .atomic) with
          | .ok (w, _) => k.run p w
          | .error h => .halt h w) := by
      split
      · split
        · exact Nat.le_refl _
        · exact RM.of (w1 := w.setCell a v) (Nat.le_refl _) (run_mono p k (w.setCell a v))
      · split
        · rename_i h; exact RM.of (Nat.le_of_eq (farStore_mono h).symm) (run_mono p k _)
        · exact Nat.le_refl _
    cases v <;> first | exact key | exact Nat.le_refl w.drawn
  | .new o k, w => RM.of (Nat.le_refl _) (run_mono p (k w.heap.size) { w with heap := w.heap.push o })
  | .shape r k, w => run_mono p (k (w.shape? r)) w
  | .freeze a n k, w => RM.of (Nat.le_of_eq (freeze_drawn w a n).symm) (run_mono p k (w.freeze a n))
  | .frozen a k, w => run_mono p (k (w.frozen? a)) w
  | .getObj r k, w => by
    unfold Sem.run
    split
    · exact Nat.le_refl _
    · exact run_mono p _ w
    · exact Nat.le_refl _
  | .setObj r o k, w => by
    unfold Sem.run
    split
    · exact Nat.le_refl _
    · exact RM.of (Nat.le_refl _) (run_mono p k { w with heap := w.heap.setIfInBounds r o })
    · exact Nat.le_refl _
  | .choose q k, w => by
    unfold Sem.run
    split
    · exact run_mono p _ w
    · exact RM.of (Nat.le_succ _) (run_mono p _ { w with drawn := w.drawn + 1 })
  | .sys c k, w => RM.of (sys_mono w c) (run_mono p (k (w.sys c).1) (w.sys c).2)
  | .program k, w => run_mono p (k p) w
  | .mark m k, w => run_mono p k w
  | .halt h, w => Nat.le_refl _
theorem runT_mono {α : Type} (p : Program) : ∀ (s : Sem α) (w : World) (es : Array Event), RM w (s.runT p w es).1
  | .pure a, w, es => Nat.le_refl _
  | .load m a k, w, es => by
    unfold Sem.runT
    split
    · exact runT_mono p _ w _
    · split
      · exact runT_mono p _ w _
      · exact Nat.le_refl _
  | .store m a v k, w, es => by
    have key : RM w (match w.cell? a with
        | some _ =>
          if w.frozen? a then ((.halt (.unsupported (.unsafePointer "a write to bytes that a string shares")) w, es) : Result α × Array Event)
          else k.runT p (w.setCell a v) (es.push (⟨.cell a, true, m == Mode.atomic⟩ : Event))
        | none => match w.farStore p a v (m == Mode.atomic) with
          | .ok (w, touched) => k.runT p w (es ++ touched.toArray.map (fun x => (⟨.cell x, true, m == Mode.atomic⟩ : Event)))
          | .error h => (.halt h w, es)).1 := by
      split
      · split
        · exact Nat.le_refl _
        · exact RM.of (w1 := w.setCell a v) (Nat.le_refl _) (runT_mono p k (w.setCell a v) _)
      · split
        · rename_i h; exact RM.of (Nat.le_of_eq (farStore_mono h).symm) (runT_mono p k _ _)
        · exact Nat.le_refl _
    cases v <;> first | exact key | exact Nat.le_refl w.drawn
  | .new o k, w, es => RM.of (Nat.le_refl _) (runT_mono p (k w.heap.size) { w with heap := w.heap.push o } es)
  | .shape r k, w, es => runT_mono p (k (w.shape? r)) w es
  | .freeze a n k, w, es => RM.of (Nat.le_of_eq (freeze_drawn w a n).symm) (runT_mono p k (w.freeze a n) es)
  | .frozen a k, w, es => runT_mono p (k (w.frozen? a)) w es
  | .getObj r k, w, es => by
    unfold Sem.runT
    split
    · exact Nat.le_refl _
    · exact runT_mono p _ w _
    · exact Nat.le_refl _
  | .setObj r o k, w, es => by
    unfold Sem.runT
    split
    · exact Nat.le_refl _
    · exact RM.of (Nat.le_refl _) (runT_mono p k { w with heap := w.heap.setIfInBounds r o } _)
    · exact Nat.le_refl _
  | .choose q k, w, es => by
    unfold Sem.runT
    split
    · exact runT_mono p _ w _
    · exact RM.of (Nat.le_succ _) (runT_mono p _ { w with drawn := w.drawn + 1 } _)
  | .sys c k, w, es => RM.of (sys_mono w c) (runT_mono p (k (w.sys c).1) (w.sys c).2 _)
  | .program k, w, es => runT_mono p (k p) w es
  | .mark m k, w, es => runT_mono p k w _
  | .halt h, w, es => Nat.le_refl _
def GM (w : World) : GStep → Prop
  | .go _ w' _ => w.drawn ≤ w'.drawn
  | .comm _ _ _ _ w' _ => w.drawn ≤ w'.drawn
  | .spawn _ _ w' _ => w.drawn ≤ w'.drawn
  | .count _ w' _ => w.drawn ≤ w'.drawn
  | .timer _ _ w' _ => w.drawn ≤ w'.drawn
  | .alone _ _ w' _ => w.drawn ≤ w'.drawn
  | .newcoro _ _ _ w' _ => w.drawn ≤ w'.drawn
  | .coroswitch _ _ _ w' _ => w.drawn ≤ w'.drawn
  | .collect _ w' _ => w.drawn ≤ w'.drawn
  | .watch _ w' _ => w.drawn ≤ w'.drawn
  | .ended _ _ _ => True
theorem GM.after {w : World} {es : Array Event} : ∀ {s : GStep}, GM w s → GM w (s.after es)
  | .go .., h => h
  | .comm .., h => h
  | .spawn .., h => h
  | .count .., h => h
  | .timer .., h => h
  | .alone .., h => h
  | .newcoro .., h => h
  | .coroswitch .., h => h
  | .collect .., h => h
  | .watch .., h => h
  | .ended .., h => h
theorem GM.of {w w1 : World} (h : w.drawn ≤ w1.drawn) : ∀ {s : GStep}, GM w1 s → GM w s
  | .go .., h2 => Nat.le_trans h h2
  | .comm .., h2 => Nat.le_trans h h2
  | .spawn .., h2 => Nat.le_trans h h2
  | .count .., h2 => Nat.le_trans h h2
  | .timer .., h2 => Nat.le_trans h h2
  | .alone .., h2 => Nat.le_trans h h2
  | .newcoro .., h2 => Nat.le_trans h h2
  | .coroswitch .., h2 => Nat.le_trans h h2
  | .collect .., h2 => Nat.le_trans h h2
  | .watch .., h2 => Nat.le_trans h h2
  | .ended .., h2 => trivial
end Go.Proofs.Ytobgdemhadlgnaa.Av.Mo

namespace Go.Proofs.Ytobgdemhadlgnaa.Av.Mo
open Go
variable {α : Type} {p : Program}
theorem ok_mono {s : Sem α} {w w' : World} {a : α} (h : s.run p w = .ok a w') : w.drawn ≤ w'.drawn := by have := run_mono p s w; rw [h] at this; exact this
theorem halt_mono {s : Sem α} {w w' : World} {a : Halt} (h : s.run p w = .halt a w') : w.drawn ≤ w'.drawn := by have := run_mono p s w; rw [h] at this; exact this
theorem okT_mono {s : Sem α} {w w' : World} {a : α} {es es' : Array Event} (h : s.runT p w es = (.ok a w', es')) : w.drawn ≤ w'.drawn := by have := runT_mono p s w es; rw [h] at this; exact this
theorem haltT_mono {s : Sem α} {w w' : World} {a : Halt} {es es' : Array Event} (h : s.runT p w es = (.halt a w', es')) : w.drawn ≤ w'.drawn := by have := runT_mono p s w es; rw [h] at this; exact this
theorem GM_ite {w : World} {c : Prop} [Decidable c] {a b : GStep} (h1 : GM w a) (h2 : GM w b) : GM w (if c then a else b) := by split <;> assumption
theorem endWith_mono (w : World) (fd : Nat) (text : ByteArray) (o : Outcome) : GM w (endWith w fd text o) := by
  unfold endWith
  simp only []
  repeat' split
  all_goals trivial
theorem dieOf_mono (fr : Frame) (l : List ByteArray) (m : String) (b : Bool) (w : World) : GM w (dieOf fr l m b w) := Nat.le_refl _
theorem endThrow_mono (fr : Frame) (m : String) (w : World) : GM w (endThrow fr m w) := Nat.le_refl _
theorem endPrinting_mono (p : Program) (fr : Frame) (v : Value) (w : World) : GM w (endPrinting p fr v w) := by
  unfold endPrinting
  simp only []
  split
  · exact endThrow_mono _ _ _
  · trivial
theorem endFatal_mono (p : Program) (fr : Frame) (cs : List Frame) (d : Option Dying) (m : String) (w : World) : GM w (endFatal p fr cs d m w) := by
  unfold endFatal
  simp only []
  split
  · rename_i h; exact ok_mono h
  · trivial
  · trivial
theorem writeOn_mono (p : Program) (fr : Frame) (d : Dying) (f : Fatal) (w : World) : GM w (writeOn p fr d f w) := by
  unfold writeOn
  simp only []
  split
  · trivial
  · split
    · rename_i h; exact okT_mono h
    · rename_i h; exact haltT_mono h
    · trivial
    · trivial
theorem die_mono (p : Program) (fr : Frame) (d : Dying) (w : World) : GM w (die p fr d w) := by
  unfold die
  split
  · exact writeOn_mono p fr d _ w
  · split
    · split
      · exact Nat.le_refl _
      · exact endWith_mono _ _ _ _
    · simp only []
      split
      · exact Nat.le_refl _
      · split
        · rename_i h; exact ok_mono h
        · trivial
      · rename_i t recv name _
        have hr := runT_mono p (invoke (.fn (.method name) #[]) #[.iface t recv]) w #[]
        generalize (invoke (.fn (.method name) #[]) #[.iface t recv]).runT p w #[] = q at hr
        obtain ⟨r, es⟩ := q
        refine GM.after ?_
        rcases r with ⟨a, w1⟩ | ⟨a, w1⟩ <;> simp only [] <;> split <;> first
          | exact hr
          | trivial
          | exact GM.of hr (endPrinting_mono _ _ _ _)
          | (injections; subst_vars; first | exact hr | exact GM.of hr (endPrinting_mono _ _ _ _))
      · trivial
theorem doReturn_mono (p : Program) (main : Bool) (fr : Frame) (cs : List Frame) (d : Option Dying) (v : Value) (w : World) : GM w (doReturn p main fr cs d v w) := by
  unfold doReturn
  repeat' split
  all_goals first | trivial | exact Nat.le_refl _
theorem callDeferred_mono (p : Program) (fr : Frame) (cs : List Frame) (dy : Option Dying) (d : Deferred) (w : World) : GM w (callDeferred p fr cs dy d w) := by
  unfold callDeferred
  refine GM_ite trivial ?_
  · have hr := runT_mono p (invoke d.target d.args) w #[]
    generalize (invoke d.target d.args).runT p w #[] = q at hr
    obtain ⟨r, es⟩ := q
    simp only []
    refine GM.after ?_
    rcases r with ⟨a, w1⟩ | ⟨a, w1⟩
    · cases a <;> first
        | trivial
        | exact hr
        | (simp only []; split <;> first | trivial | exact hr)
        | (rename_i b; cases b <;> first | trivial | exact hr)
        | (rename_i b _; cases b <;> first | trivial | exact hr)
    · cases a <;> first
        | trivial
        | exact hr
        | exact GM.of hr (endFatal_mono _ _ _ _ _ _)
        | exact GM.of hr (endThrow_mono _ _ _)
theorem unwind_mono (p : Program) (main : Bool) (fr : Frame) (cs : List Frame) (dy : Option Dying) (w : World) : GM w (unwind p main fr cs dy w) := by
  unfold unwind
  split
  · rename_i block _ ds _
    have hr := runT_mono p (Instr.takeDeferred block) w #[]
    generalize (Instr.takeDeferred block).runT p w #[] = q at hr
    obtain ⟨r, es⟩ := q
    refine GM.after ?_
    rcases r with ⟨a, w1⟩ | ⟨a, w1⟩
    · exact hr
    · trivial
  · exact callDeferred_mono _ _ _ _ _ _
  · split
    · trivial
    · split
      · trivial
      · split
        · exact Nat.le_refl _
        · split
          · split
            · exact Nat.le_refl _
            · split
              · rename_i h; exact ok_mono h
              · trivial
              · trivial
          · split
            · exact endPrinting_mono _ _ _ _
            · trivial
    · split
      · exact doReturn_mono _ _ _ _ _ _ _
      · rename_i fn _
        have hr := runT_mono p (results fn fr.tmps) w #[]
        generalize (results fn fr.tmps).runT p w #[] = q at hr
        obtain ⟨r, es⟩ := q
        refine GM.after ?_
        rcases r with ⟨a, w1⟩ | ⟨a, w1⟩
        · exact GM.of hr (doReturn_mono _ _ _ _ _ _ _)
        · cases a <;> trivial
theorem choose_mono {w : World} {q : Question} {f g : World → GStep} {e : World → GStep} (hf : ∀ w1, GM w1 (f w1)) (hg : ∀ w1, GM w1 (g w1)) (he : ∀ w1, GM w1 (e w1)) : GM w (match (choose q).run p w with
    | .ok 0 w => f w
    | .ok _ w => g w
    | .halt _ w => e w) := by
  have hr := run_mono p (choose q) w
  generalize (choose q).run p w = r at hr
  rcases r with ⟨a, w1⟩ | ⟨a, w1⟩
  · match a with
    | 0 => exact GM.of hr (hf w1)
    | a + 1 => exact GM.of hr (hg w1)
  · exact GM.of hr (he w1)
theorem early_mono (p : Program) (fr : Frame) (cs : List Frame) (dy : Option Dying) (g : Nat) (w : World) : GM w (early p fr cs dy g w) := by
  unfold early
  extract_lets refuse notYet
  have hr : GM w refuse := trivial
  have hn : ∀ w1, GM w1 (notYet w1) := by
    intro w1
    show GM w1 (match w1.heap[g]? with
      | some (.pending c elem) => .go { frame := fr, callers := cs, status := .running, dying := dy } { w1 with heap := w1.heap.setIfInBounds g (.cells c elem) }
      | _ => .ended (.stuck "early: the variable does not wait" (fr.pos p)) w1)
    split
    · exact Nat.le_refl _
    · trivial
  clear_value refuse notYet
  refine GM_ite (hn w) ?_
  split
  · exact hr
  · extract_lets there
    have ht : ∀ w1, GM w1 (there w1) := fun w1 => Nat.le_refl _
    clear_value there
    refine GM_ite (hn w) (GM_ite (hn w) ?_)
    split
    · exact hr
    · exact ht w
    · exact hr
    · exact hn w
    · exact GM_ite (ht w) (GM_ite (hn w) (choose_mono hn ht (fun _ => trivial)))
end Go.Proofs.Ytobgdemhadlgnaa.Av.Mo

namespace Go.Proofs.Ytobgdemhadlgnaa.Av.Mo
open Go
theorem apply_mono (p : Program) (listen : Bool) (fr : Frame) (cs : List Frame) (dy : Option Dying) (s : Sem Next) (w : World) : GM w (stepG.apply p listen fr cs dy s w) := by
  unfold stepG.apply
  have hr : RM w (if listen then s.runT p w #[] else (s.run p w, #[])).1 := by
    split
    · exact runT_mono p s w #[]
    · exact run_mono p s w
  generalize (if listen then s.runT p w #[] else (s.run p w, #[])) = q at hr
  obtain ⟨r, es⟩ := q
  simp only []
  refine GM.after ?_
  rcases r with ⟨a, w1⟩ | ⟨a, w1⟩
  · cases a <;> first
      | trivial
      | exact hr
      | (simp only []; split <;> first | trivial | exact hr)
      | (simp only []; split <;> first | trivial | exact hr | (split <;> first | trivial | exact hr))
      | (refine GM_ite ?_ ?_ <;> first | exact hr | exact GM.of hr (endThrow_mono _ _ _))
  · cases a <;> first
      | trivial
      | exact hr
      | exact GM.of hr (endFatal_mono _ _ _ _ _ _)
      | exact GM.of hr (endThrow_mono _ _ _)
      | (rename_i u; cases u <;> first | trivial | exact GM.of hr (early_mono _ _ _ _ _ _))
end Go.Proofs.Ytobgdemhadlgnaa.Av.Mo

namespace Go.Proofs.Ytobgdemhadlgnaa.Av.Mo
open Go
theorem oper_mono (p : Program) (listen : Bool) (fr : Frame) (cs : List Frame) (dy : Option Dying) (w : World) : GM w (stepG.oper p listen fr cs dy w) := by
  unfold stepG.oper
  split
  · trivial
  · split
    · exact apply_mono _ _ _ _ _ _ _
    · exact apply_mono _ _ _ _ _ _ _
theorem exec_mono (p : Program) (main listen : Bool) (fr : Frame) (cs : List Frame) (dy : Option Dying) (w : World) : GM w (stepG.exec p main listen fr cs dy w) := by
  unfold stepG.exec
  extract_lets go to lost leave
  have hgo : ∀ f w1, GM w1 (go f w1) := fun f w1 => Nat.le_refl _
  have hto : ∀ t, GM w (to t) := fun t => Nat.le_refl _
  have hlost : ∀ s, GM w (lost s) := fun s => trivial
  have hleave : ∀ j, GM w (leave j) := by
    intro j
    show GM w (match fr.roundOf with
      | none => if j matches none | some .ret then go { fr with mode := .returning } w else lost "exit, goto: no such block or label"
      | some l =>
        let (r, es) := (Instr.endRound l j).runT p w #[]
        GStep.after (seen p fr.fn es) <| match r with
        | .ok v w => doReturn p main fr cs dy v w
        | .halt _ w => .ended (.stuck "range over a function: no such loop" (fr.pos p)) w)
    split
    · exact GM_ite (hgo _ w) (hlost _)
    · rename_i l _
      have hr := runT_mono p (Instr.endRound l j) w #[]
      generalize (Instr.endRound l j).runT p w #[] = q at hr
      obtain ⟨r, es⟩ := q
      refine GM.after ?_
      rcases r with ⟨a, w1⟩ | ⟨a, w1⟩
      · exact GM.of hr (doReturn_mono _ _ _ _ _ _ _)
      · trivial
  clear_value leave to lost go
  split
  · exact hleave _
  · exact hleave _
  · exact hto _
  · exact hto _
  · exact hto _
  · exact hto _
  · exact hto _
  · split
    · exact hto _
    · exact hlost _
  · exact hto _
  · exact hto _
  · exact hto _
  · exact hto _
  · rename_i id k _
    cases exitTo id k with
    | none => exact hleave _
    | some t => exact hto t
  · rename_i l k _
    cases gotoIn l k with
    | none => exact hleave _
    | some t => exact hto t
  · rename_i f params assign body k _
    have hr := runT_mono p (Instr.enterLoop fr.fn fr.tmps params assign body fr.roundOf) w #[]
    generalize (Instr.enterLoop fr.fn fr.tmps params assign body fr.roundOf).runT p w #[] = q at hr
    obtain ⟨r, es⟩ := q
    refine GM.after ?_
    rcases r with ⟨a, w1⟩ | ⟨a, w1⟩
    · exact GM.of hr (apply_mono _ _ _ _ _ _ _)
    · trivial
  · trivial
  · exact apply_mono _ _ _ _ _ _ _
  · rename_i l k _
    have hr := runT_mono p (Instr.endLoop l) w #[]
    generalize (Instr.endLoop l).runT p w #[] = q at hr
    obtain ⟨r, es⟩ := q
    refine GM.after ?_
    rcases r with ⟨a, w1⟩ | ⟨a, w1⟩
    · exact GM.of hr (hgo _ _)
    · cases a <;> first | trivial | exact GM.of hr (hgo _ _)
  · trivial
  · exact apply_mono _ _ _ _ _ _ _
  · rename_i row args k _
    cases Extern.next row with
    | none => exact hlost _
    | some e => exact apply_mono _ _ _ _ _ _ _
  · rename_i id ops draw k _
    refine GM_ite (hto _) ?_
    have hr := run_mono p (choose (.order fr.fn id)) w
    generalize (choose (.order fr.fn id)).run p w = r at hr
    rcases r with ⟨a, w1⟩ | ⟨a, w1⟩
    · exact GM.of hr (hgo _ _)
    · trivial
  · exact hto _
  · exact GM_ite (oper_mono _ _ _ _ _ _) (hgo _ _)
theorem stepG_mono (p : Program) (main : Bool) (g : Goroutine) (w : World) (listen : Bool) : GM w (stepG p main g w listen) := by
  unfold stepG
  obtain ⟨fr, callers, status, dying, offers⟩ := g
  simp only []
  split
  · exact die_mono _ _ _ _
  · exact exec_mono _ _ _ _ _ _ _
  · exact unwind_mono _ _ _ _ _ _
def SM (w : World) : Stepped → Prop
  | .next m => w.drawn ≤ m.world.drawn
  | .ended .. => True
end Go.Proofs.Ytobgdemhadlgnaa.Av.Mo

namespace Go.Proofs.Ytobgdemhadlgnaa.Av.Mo
open Go
theorem SM.of {w w1 : World} (h : w.drawn ≤ w1.drawn) : ∀ {s : Stepped}, SM w1 s → SM w s
  | .next _, h2 => Nat.le_trans h h2
  | .ended .., _ => trivial
theorem SM_ite {w : World} {c : Prop} [Decidable c] {a b : Stepped} (h1 : SM w a) (h2 : SM w b) : SM w (if c then a else b) := by split <;> assumption
theorem look_mono (p : Program) (gs : Array Goroutine) (rest : Rest) (w : World) : SM w (look p gs rest w) := by
  unfold look
  split
  · extract_lets
    split
    simp only []
    refine SM_ite trivial ?_
    split
    · trivial
    · split
      · rename_i h; exact Nat.le_trans (ok_mono h) (Nat.le_refl _)
      · trivial
      · trivial
  · trivial
theorem waitingAt_mono {rest : Rest} {cases : Array CommCase} {w w1 : World} (h : waitingAt rest cases w = some w1) : w.drawn ≤ w1.drawn := by
  unfold waitingAt at h
  split at h
  · split at h
    · cases h; exact Nat.le_refl _
    · cases h
  · cases h; exact Nat.le_refl _
theorem communicate_mono (p : Program) (rest : Rest) (gs : Array Goroutine) (i : Nat) (g : Goroutine) (cases : Array CommCase) (blocking : Bool) (shape : CommShape) (w : World) : SM w (communicate p rest gs i g cases blocking shape w).1 := by
  unfold communicate
  extract_lets put illMade me other
  have hput : ∀ g gs w1 ops, SM w1 (put g gs w1 ops).1 := fun g gs w1 ops => Nat.le_refl _
  clear_value put
  split
  · trivial
  · split
    · split
      · split
        · rename_i h; exact waitingAt_mono h
        · trivial
      · exact hput _ _ _ _
    · split
      · trivial
      · rename_i k c way w1 heq
        refine SM.of (ok_mono heq) ?_
        extract_lets r
        clear_value r
        split
        · have hr2 := run_mono p (runtimePanic (.plain "send on closed channel") : Sem Unit) w1
          generalize (runtimePanic (.plain "send on closed channel") : Sem Unit).run p w1 = r2 at hr2
          rcases r2 with ⟨a, w2⟩ | ⟨a, w2⟩
          · trivial
          · cases a <;> first | trivial | exact SM.of hr2 (hput _ _ _ _)
        · exact hput _ _ _ _
        · exact SM.of (Nat.le_refl _) (hput _ _ _ _)
        · extract_lets v buf
          split
          · exact SM.of (Nat.le_refl _) (hput _ _ _ _)
          · split
            · rename_i h2
              refine SM.of (ok_mono h2) ?_
              split
              exact SM.of (Nat.le_refl _) (hput _ _ _ _)
            · trivial
        · exact SM.of (Nat.le_refl _) (hput _ _ _ _)
        · exact SM.of (Nat.le_refl _) (hput _ _ _ _)
        · trivial
theorem serve_mono (p : Program) (m : Machine) (k : Nat) : SM m.world (serve p m k) := by
  unfold serve
  split
  · trivial
  · exact Nat.le_refl _
  · extract_lets
    split
    · trivial
    · exact Nat.le_refl _
theorem drain_mono (w : World) (c : Nat) : (drain w c).2.drawn = w.drawn := by
  unfold drain
  split <;> rfl
theorem retime_mono (m : Machine) (k : Nat) (t : Timer) (a b : Nat) : m.world.drawn ≤ (retime m k t a b).2.world.drawn := by
  unfold retime
  cases t.chan with
  | none => exact Nat.le_refl _
  | some c => exact Nat.le_of_eq (drain_mono m.world c).symm
theorem named_mono {m : Machine} {var : Addr} {f : Nat → Timer → Value × Machine} {v : Value} {m' : Machine} (hf : ∀ k t, m.world.drawn ≤ (f k t).2.world.drawn) (h : timerOp.named m var f = .ok (v, m')) : m.world.drawn ≤ m'.world.drawn := by
  unfold timerOp.named at h
  split at h
  · rename_i k _
    have h2 : f k (m.rest.timers.getD k default) = (v, m') := by injection h
    have := hf k (m.rest.timers.getD k default)
    rw [h2] at this; exact this
  · cases h
theorem timerOp_mono {m m' : Machine} {v : Value} {op : TimerOp} (h : timerOp m op = .ok (v, m')) : m.world.drawn ≤ m'.world.drawn := by
  unfold timerOp at h
  split at h
  · split at h
    · cases h; exact Nat.le_refl _
    · split at h
      · split at h
        · cases h
        · cases h; exact Nat.le_refl _
      · cases h
  · exact named_mono (fun k t => retime_mono _ _ _ _ _) h
  · split at h
    · rename_i m1 h1
      have h0 : m.world.drawn = m1.world.drawn := by
        unfold timerOp.opened at h1
        split at h1
        · split at h1
          · cases h1; rfl
          · cases h1
        · cases h1; rfl
      exact named_mono (fun k t => by rw [h0]; exact retime_mono _ _ _ _ _) h
    · cases h
  · cases h; exact Nat.le_refl _
theorem runT_m_mono (p : Program) (m : Machine) (i : Nat) (listen : Bool) : SM m.world (runT p m i listen).1 := by
  unfold runT
  extract_lets rest world
  split
  rename_i g gs _
  extract_lets wake fn pos s ops done
  have hs : GM m.world s := stepG_mono p (i == 0) g m.world listen
  have hdone : ∀ r, (done r).1 = r := fun r => rfl
  clear_value s done
  split
  · rw [hdone]; trivial
  · refine SM.of hs ?_
    exact communicate_mono _ _ _ _ _ _ _ _ _
  · rw [hdone]; exact hs
  · exact hs
  · rw [hdone]; refine SM_ite trivial ?_; exact hs
  · rw [hdone]; exact hs
  · rw [hdone]; exact SM.of hs (look_mono _ _ _ _)
  · rw [hdone]; exact hs
  · exact hs
  · rw [hdone]
    split
    · exact hs
    · simp only [endThrow, dieOf]; exact hs
    · trivial
  · rw [hdone]
    split
    · rename_i v m1 h1; exact Nat.le_trans hs (timerOp_mono h1)
    · simp only [endThrow, dieOf]; exact hs
    · trivial
    · trivial
end Go.Proofs.Ytobgdemhadlgnaa.Av.Mo

namespace Go.Proofs.Ytobgdemhadlgnaa.Av.Mo
open Go
def MM (w : World) : Move → Prop
  | .goroutine m _ => w.drawn ≤ m.world.drawn
  | .machine s _ => SM w s
theorem MM.of {w w1 : World} (h : w.drawn ≤ w1.drawn) : ∀ {s : Move}, MM w1 s → MM w s
  | .goroutine .., h2 => Nat.le_trans h h2
  | .machine .., h2 => SM.of h h2
theorem MM_ite {w : World} {c : Prop} [Decidable c] {a b : Move} (h1 : MM w a) (h2 : MM w b) : MM w (if c then a else b) := by split <;> assumption
theorem askOn_mono (p : Program) (m : Machine) : MM m.world (askOn p m) := by
  unfold askOn
  extract_lets mono rs ds pick
  have hp : ∀ m1 : Machine, MM m1.world (pick m1) := by
    intro m1
    show MM m1.world (match (choose (.sched rs.length)).run p m1.world with
      | .halt _ w => .machine (.ended (.stuck "sched" "") w)
      | .ok k world =>
        if rs.length ≤ 1 then .goroutine { m1 with world } (rs.getD k 0) else
        match (choose (.extern "sched.slice" 65536)).run p world with
        | .halt _ w => .machine (.ended (.stuck "sched.slice" "") w)
        | .ok n world => .goroutine { m1 with world, rest := { m1.rest with slice := if n = 0 then none else some (rs.getD k 0, n) } } (rs.getD k 0))
    split
    · trivial
    · rename_i h
      refine MM_ite (ok_mono h) ?_
      split
      · trivial
      · rename_i h2; exact Nat.le_trans (ok_mono h) (ok_mono h2)
  clear_value pick
  split
  · trivial
  · rename_i h
    refine MM.of (ok_mono h) ?_
    extract_lets m1
    refine MM_ite (serve_mono p m1 _) ?_
    clear_value rs
    cases rs with
    | nil =>
      simp only []
      split
      · exact Nat.le_refl _
      · refine MM_ite (Nat.le_refl _) ?_
        split <;> trivial
    | cons a l =>
      simp only []
      split
      · exact hp m1
      · split
        · trivial
        · rename_i h2; exact MM.of (ok_mono h2) (hp _)
        · rename_i h2; exact Nat.le_trans (ok_mono h2) (Nat.le_refl _)
        · rename_i h2; exact MM.of (ok_mono h2) (MM.of (Nat.le_refl _) (hp _))
theorem ask_mono' (p : Program) (m : Machine) : MM m.world (ask p m) := by
  unfold ask
  split
  · split
    · trivial
    · rename_i h
      have hl := look_mono p m.gs m.rest
      split
      · rename_i w1 _ m1 h1
        have := look_mono p m.gs m.rest w1
        rw [h1] at this
        exact MM.of (Nat.le_trans (ok_mono h) this) (askOn_mono p m1)
      · rename_i e h1
        exact MM.of (ok_mono h) (look_mono p m.gs m.rest _)
    · rename_i h; exact MM.of (ok_mono h) (askOn_mono p _)
  · exact askOn_mono p m
theorem move_mono (p : Program) (m : Machine) : MM m.world (move p m) := by
  unfold move
  split
  · exact MM_ite (Nat.le_refl _) trivial
  · split
    · refine MM_ite (Nat.le_refl _) ?_
      exact MM.of (w1 := m.world) (Nat.le_refl _) (ask_mono' p { m with rest := { m.rest with slice := none } })
    · exact ask_mono' p m
theorem step_mono {p : Program} {m m1 : Machine} (h : step p m = .next m1) : m.world.drawn ≤ m1.world.drawn := by
  have key : SM m.world (step p m) := by
    unfold step stepT
    have hm := move_mono p m
    generalize move p m = q at hm
    cases q with
    | goroutine m2 i => exact SM.of hm (runT_m_mono p m2 i true)
    | machine s ops => exact hm
  rw [h] at key; exact key
theorem steps_mono {P : Program} {m m' : Machine} (h : Steps P m m') : m.world.drawn ≤ m'.world.drawn := by
  obtain ⟨n, hn⟩ := h
  induction n generalizing m with
  | zero => have : m = m' := by injection hn
            rw [this]; exact Nat.le_refl _
  | succ n ih =>
    unfold runN at hn
    split at hn
    · rename_i m1 h1
      exact Nat.le_trans (step_mono h1) (ih hn)
    · rename_i h1
      first | exact absurd hn (h1 m') | exact absurd hn (h1 _) | (subst hn; exact absurd rfl (h1 _))
theorem Calls.drawn {P : Program} {f : FuncId} {args : Array Value} {w : World} {R : Ending → World → Prop} (h : Calls P f args w R) (hn : ∀ w', ¬ R .outgrown w') : Calls P f args w fun e w' => R e w' ∧ w.drawn ≤ w'.drawn := by
  intro cs
  obtain ⟨e, w', fr, h1, h2, h3, h4⟩ := h cs
  refine ⟨e, w', fr, ⟨h1, ?_⟩, h2, h3, h4⟩
  cases e with
  | returned v => exact steps_mono h2
  | panicked c => exact steps_mono h2
  | outgrown => exact absurd h1 (hn w')
end Go.Proofs.Ytobgdemhadlgnaa.Av.Mo

