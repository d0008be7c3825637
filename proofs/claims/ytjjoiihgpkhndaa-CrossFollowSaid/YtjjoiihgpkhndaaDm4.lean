/-
  A part of the texts that the claim builds on: see the last one.
-/
import Derived.Test.YtjjoiihgpkhndaaDm3
import Derived.Maps.RangeRun
set_option linter.unusedSimpArgs false
set_option linter.unusedVariables false
/-
  The engine, part Sc: a scope within a walk that may stand in a round: jumps to labels. No program is named here.
-/
namespace Go.Proofs.Ytjjoiihgpkhndaa.Eng
open Go.RowKit

section
variable {P : Program} {F : Fence} {n : Nat} {b : Frame} {a : Act} {k : List Item} {cs : List Frame} {w : World} {Q : Exit → Act → World → Prop}
theorem stepR_scope' {c : Code} : step P (lone (b.atR a (.code (.scope c) :: k)) cs w) = .next (lone (b.atR a (.code c :: .inScope c :: k)) cs w) :=
  step_lone_go (by simp [stepG, stepG.exec, Frame.atR])
theorem stepR_inScope' {c : Code} : step P (lone (b.atR a (.inScope c :: k)) cs w) = .next (lone (b.atR a k) cs w) :=
  step_lone_go (by simp [stepG, stepG.exec, Frame.atR])
/-- Code x within the scope c. -/
def ScIn (F : Fence) (n : Nat) (P : Program) (c x : Code) (Q : Exit → Act → World → Prop) (a : Act) (w : World) : Prop :=
  ∀ (b : Frame) (k : List Item) (cs : List Frame), b.roundOf = F.round → F.fn b.fn → F.room (cs.length + 1 + n) →
    ∃ e a' w', Q e a' w' ∧ ArrivesIn (Machine.fenced P F) P (lone (b.atR a (.code x :: .inScope c :: k)) cs w) b k cs e a' w'
def scopeX (c : Code) (J : Code → Act → World → Prop) (Q : Exit → Act → World → Prop) : Exit → Act → World → Prop
  | .goto l, a, w => match findLabel c l with
    | some rest => J rest a w
    | none => Q (.goto l) a w
  | e, a, w => Q e a w
theorem ScIn.of {c x : Code} (h : x.wpIn F n P (scopeX c (fun rest => ScIn F n P c rest Q) Q) a w) : ScIn F n P c x Q a w := by
  intro b k cs hro hb hr
  obtain ⟨e, a₁, w₁, hq, harr⟩ := h b (.inScope c :: k) cs hro hb hr
  cases e with
  | normal => exact ⟨.normal, a₁, w₁, hq, StepsIn.trans harr (.one (fenced_calm hb hr rfl) stepR_inScope')⟩
  | exit id =>
    have hx : exitTo id (.inScope c :: k) = exitTo id k := by simp [exitTo]
    exact ⟨_, a₁, w₁, hq, fun k' hk => harr.1 k' (by rw [hx]; exact hk), fun hr' hk => harr.2 hr' (by rw [hx]; exact hk)⟩
  | goto l =>
    simp only [scopeX] at hq
    cases hf : findLabel c l with
    | some rest =>
      rw [hf] at hq
      obtain ⟨e₂, a₂, w₂, hq₂, harr₂⟩ := hq b k cs hro hb hr
      have hg : gotoIn l (.inScope c :: k) = some (.code rest :: .inScope c :: k) := by simp [gotoIn, hf]
      exact ⟨e₂, a₂, w₂, hq₂, .of_steps (harr.1 _ hg) harr₂⟩
    | none =>
      rw [hf] at hq
      have hx : gotoIn l (.inScope c :: k) = gotoIn l k := by simp [gotoIn, hf]
      exact ⟨_, a₁, w₁, hq, fun k' hk => harr.1 k' (by rw [hx]; exact hk), fun hr' hk => harr.2 hr' (by rw [hx]; exact hk)⟩
  | ret => exact ⟨_, a₁, w₁, hq, harr⟩
  | panic ch => exact ⟨_, a₁, w₁, hq, harr⟩
  | outgrown => exact ⟨_, a₁, w₁, hq, harr⟩
theorem wpIn_scope' {c : Code} (h : ScIn F n P c c Q a w) : (Code.scope c).wpIn F n P Q a w := by
  intro b k cs hro hb hr
  obtain ⟨e, a₁, w₁, hq, harr⟩ := h b k cs hro hb hr
  exact ⟨e, a₁, w₁, hq, .of_steps (.one (fenced_calm hb hr rfl) stepR_scope') harr⟩
end
variable {P : Program} {T : Tab} {r : Option Nat} {ns n : Nat} {s : St} {Q : Post}
/-- Code x within the scope c, as a walk. -/
def AWs (P : Program) (r : Option Nat) (ns : Nat) (c x : Code) (n : Nat) (s : St) (Q : Post) : Prop :=
  ∀ (W0 : Fix) (R0 : Nat → Prop) (B : Nat) (E : Env) (a : Act) (w : World), InAct r W0 R0 B → Sim W0 R0 ns (· < n) s E a w →
    ScIn (fen (rOf W0 r)) 0 P c x (fun e a' w' => ∃ n' s' E' W1, Ext W0 W1 ∧ InAct r W1 R0 B ∧ Sim W1 R0 ns (· < n') s' E' a' w' ∧ Q e n' s') a w
def scopeP (c : Code) (J : Code → Nat → St → Prop) (Q : Post) : Post
  | .goto l, n, s => match findLabel c l with
    | some rest => J rest n s
    | none => Q (.goto l) n s
  | e, n, s => Q e n s
theorem ScIn.mono {F : Fence} {k : Nat} {c x : Code} {Q Q' : Exit → Act → World → Prop} {a : Act} {w : World} (h : ScIn F k P c x Q a w) (hq : ∀ e a w, Q e a w → Q' e a w) : ScIn F k P c x Q' a w :=
  fun b k cs hro hb hr => let ⟨e, a', w', q, r⟩ := h b k cs hro hb hr; ⟨e, a', w', hq _ _ _ q, r⟩
theorem AWs.of {c x : Code} (h : AWi P r ns x n s (scopeP c (fun rest n s => AWs P r ns c rest n s Q) Q)) : AWs P r ns c x n s Q := fun W0 R0 B E a w hi hs => by
  refine ScIn.of (wpIn_mono (h W0 R0 B E a w hi hs) ?_)
  rintro e a' w' ⟨n', s', E', W1, x1, i1, h1, h2⟩
  cases e with
  | goto l =>
    simp only [scopeP] at h2
    simp only [scopeX]
    cases hf : findLabel c l with
    | some rest =>
      rw [hf] at h2
      have h5 := h2 W1 R0 B E' a' w' i1 h1
      rw [x1.rOf] at h5
      exact h5.mono fun _ _ _ ⟨n2, s2, E2, W2, x2, i2, h3, h4⟩ => ⟨n2, s2, E2, W2, x1.trans x2, i2, h3, h4⟩
    | none =>
      rw [hf] at h2
      exact ⟨n', s', E', W1, x1, i1, h1, h2⟩
  | _ => exact ⟨n', s', E', W1, x1, i1, h1, h2⟩
theorem AWi.scope {c : Code} (h : AWs P r ns c c n s Q) : AWi P r ns (.scope c) n s Q := fun W0 R0 B E a w hi hs => wpIn_scope' (h W0 R0 B E a w hi hs)

/-! ### Loops, a round at a time -/
section
variable {F : Fence} {k : Nat} {Q : Exit → Act → World → Prop} {a : Act} {w : World}
/-- Code x within a round of the loop c. -/
def LpIn (F : Fence) (n : Nat) (P : Program) (c x : Code) (Q : Exit → Act → World → Prop) (a : Act) (w : World) : Prop :=
  ∀ (b : Frame) (k : List Item) (cs : List Frame), b.roundOf = F.round → F.fn b.fn → F.room (cs.length + 1 + n) →
    ∃ e a' w', Q e a' w' ∧ ArrivesIn (Machine.fenced P F) P (lone (b.atR a (.code x :: .inLoop c :: k)) cs w) b k cs e a' w'
def loopX (J : Act → World → Prop) (Q : Exit → Act → World → Prop) : Exit → Act → World → Prop
  | .normal, a, w => J a w
  | e, a, w => Q e a w
theorem LpIn.of {c x : Code} (h : x.wpIn F k P (loopX (LpIn F k P c c Q) Q) a w) : LpIn F k P c x Q a w := by
  intro b k cs hro hb hr
  obtain ⟨e, a₁, w₁, hq, harr⟩ := h b (.inLoop c :: k) cs hro hb hr
  cases e with
  | normal =>
    obtain ⟨e₂, a₂, w₂, hq₂, harr₂⟩ := hq b k cs hro hb hr
    exact ⟨e₂, a₂, w₂, hq₂, .of_steps (StepsIn.trans harr (.one (fenced_calm hb hr rfl) stepR_inLoop)) harr₂⟩
  | exit id => exact ⟨_, a₁, w₁, hq, .pass (x := .inLoop c) rfl (fun _ _ => .inl (by simp)) harr⟩
  | goto l => exact ⟨_, a₁, w₁, hq, .pass (x := .inLoop c) rfl (fun _ _ => .inl (by simp)) harr⟩
  | ret => exact ⟨_, a₁, w₁, hq, .pass (x := .inLoop c) rfl (fun _ _ => .inl (by simp)) harr⟩
  | panic ch => exact ⟨_, a₁, w₁, hq, .pass (x := .inLoop c) rfl (fun _ _ => .inl (by simp)) harr⟩
  | outgrown => exact ⟨_, a₁, w₁, hq, .pass (x := .inLoop c) rfl (fun _ _ => .inl (by simp)) harr⟩
theorem wpIn_loop' {c : Code} (h : LpIn F k P c c Q a w) : (Code.loop c).wpIn F k P Q a w := by
  intro b k cs hro hb hr
  obtain ⟨e, a₁, w₁, hq, harr⟩ := h b k cs hro hb hr
  exact ⟨e, a₁, w₁, hq, .of_steps (.one (fenced_calm hb hr rfl) stepR_loop) harr⟩
theorem LpIn.mono {c x : Code} {Q' : Exit → Act → World → Prop} (h : LpIn F k P c x Q a w) (hq : ∀ e a w, Q e a w → Q' e a w) : LpIn F k P c x Q' a w :=
  fun b k cs hro hb hr => let ⟨e, a', w', q, r⟩ := h b k cs hro hb hr; ⟨e, a', w', hq _ _ _ q, r⟩
end
/-- Code x within a round of the loop c, as a walk. -/
def AWl (P : Program) (r : Option Nat) (ns : Nat) (c x : Code) (n : Nat) (s : St) (Q : Post) : Prop :=
  ∀ (W0 : Fix) (R0 : Nat → Prop) (B : Nat) (E : Env) (a : Act) (w : World), InAct r W0 R0 B → Sim W0 R0 ns (· < n) s E a w →
    LpIn (fen (rOf W0 r)) 0 P c x (fun e a' w' => ∃ n' s' E' W1, Ext W0 W1 ∧ InAct r W1 R0 B ∧ Sim W1 R0 ns (· < n') s' E' a' w' ∧ Q e n' s') a w
theorem AWl.of {c x : Code} (h : AWi P r ns x n s (thenP (fun n s => AWl P r ns c c n s Q) Q)) : AWl P r ns c x n s Q := fun W0 R0 B E a w hi hs => by
  refine LpIn.of (wpIn_mono (h W0 R0 B E a w hi hs) ?_)
  rintro e a' w' ⟨n', s', E', W1, x1, i1, h1, h2⟩
  cases e with
  | normal =>
    have h5 := h2 W1 R0 B E' a' w' i1 h1
    rw [x1.rOf] at h5
    exact h5.mono fun _ _ _ ⟨n2, s2, E2, W2, x2, i2, h3, h4⟩ => ⟨n2, s2, E2, W2, x1.trans x2, i2, h3, h4⟩
  | _ => exact ⟨n', s', E', W1, x1, i1, h1, h2⟩
theorem AWi.loopL {c : Code} (h : AWl P r ns c c n s Q) : AWi P r ns (.loop c) n s Q := fun W0 R0 B E a w hi hs => wpIn_loop' (h W0 R0 B E a w hi hs)
end Go.Proofs.Ytjjoiihgpkhndaa.Eng

/-
  The runner, part 2: a function that runs code on states that are data. No program is named here.
-/
noncomputable section
namespace Go.Proofs.Ytjjoiihgpkhndaa.Eng
open Go.RowKit

def memN : List Nat → Nat → Bool
  | [], _ => false
  | x :: l, t => bif Nat.beq x t then true else memN l t
theorem memN_iff : ∀ {l : List Nat} {t : Nat}, memN l t = true ↔ t ∈ l
  | [], t => by simp [memN]
  | x :: l, t => by
    simp only [memN, beq_nat, cond_eq_ite, decide_eq_true_eq, List.mem_cons]
    by_cases h : x = t
    · simp [h]
    · simp [h, memN_iff (l := l), Ne.symm h, eq_comm]
/-- Operands, of these slots alone. -/
def evR (L : List Nat) (ns : Nat) (sl : Nat → SV) : Operand → Option SV
  | .tmp t => bif memN L t && Nat.ble (t + 1) ns then some (sl t) else none
  | .const v => constSV v
  | .func f => some (.fn f [] [])
  | _ => none
/-- Operations that make memory, or write it. -/
def isW : Op → Bool
  | .box .. | .alloc _ | .buildSlice .. | .makeSlice .. | .store .. | .makeMap .. | .mapUpdate .. => true
  | .call c => match c.callee with
    | .builtin .append | .builtin .copy | .builtin .clear | .builtin .delete => true
    | _ => false
  | _ => false
/-- Which blocks an operation may read that leaves memory as it is. -/
def idsOf2 : SV → List Nat
  | .own id _ _ | .lin id _ | .ptr id _ _ | .mp id | .sl id _ _ _ => [id]
  | _ => []
def readsOf (sl : Nat → SV) (o : Op) : List Nat := match o with
  | .load _ (.tmp t) => idsOf2 (sl t)
  | .lookup _ (.tmp t) _ _ => idsOf2 (sl t)
  | _ => []
/-- Memory, of these blocks alone. -/
def memC (m : Tr CB) : List Nat → Tr CB
  | [] => .lf
  | i :: l => bif Nat.ble i 10000000 then putM (memC m l) i (m.get i) else memC m l
inductive Cl where
  | plain
  | fn (f : FuncId) (args : List SV)
  | yl (id : Nat) (args : List SV)
  | bad
def calleeC (ev : Operand → Option SV) : Op → Cl
  | .call c => match c.callee with
    | .builtin _ => .plain
    | .value (.func f) => match evList ev c.args.toList with
      | some l => .fn f l
      | none => .bad
    | .value (.tmp t) => match ev (.tmp t), evList ev c.args.toList with
      | some (.fn f us vs), some l => .fn f (us ++ l ++ vs)
      | some (.yield id), some l => .yl id l
      | _, _ => .bad
    | _ => .bad
  | .defer _ => .bad
  | _ => .plain
structure Rs where
  y : SV
  n : Nat
  m : Tr CB
/-- Within what code stands: nothing, a scope, a loop. -/
inductive Ctx where
  | no
  | sc (c : Code)
  | lp (c : Code)
/-- Which loop's round, how many slots, within what, the code, the state. -/
abbrev Runner := Option Nat → Nat → Ctx → Code → CS → Option (Exit × CS)
def okN (n : Nat) : Bool := Nat.ble n 10000000
/-- One of a list. -/
def getL {α : Type} (l : List α) : Nat → Option α :=
  @List.rec α (fun _ => Nat → Option α) (fun _ => none) (fun x _ ih i => @Nat.rec (fun _ => Option α) (some x) (fun j _ => ih j) i) l
theorem getL_eq {α : Type} : ∀ (l : List α) (i : Nat), getL l i = l[i]?
  | [], i => rfl
  | x :: l, 0 => rfl
  | x :: l, i + 1 => by
    rw [List.getElem?_cons_succ]
    exact getL_eq l i
theorem getA_eq {α : Type} (a : Array α) (i : Nat) : getL a.toList i = a[i]? := by rw [getL_eq, Array.getElem?_toList]
def callFn (P : Program) (T : Tab) (R : Runner) (f : FuncId) (args : List SV) (n : Nat) (m : Tr CB) : Option Rs :=
  match getL P.funcs.toList f with
  | none => none
  | some fn => match fn.body with
    | none => none
    | some c => bif Nat.ble args.length fn.ntmps && okN fn.ntmps && resOk fn.results.toList fn.ntmps then
        match R none fn.ntmps .no c ⟨n, startT args 0 .lf, m⟩ with
        | some (.normal, s) => match resSlots T s.den fn.results.toList with
          | some xs => some ⟨retV xs, s.n, s.mem⟩
          | none => none
        | some (.ret, s) => match resSlots T s.den fn.results.toList with
          | some xs => some ⟨retV xs, s.n, s.mem⟩
          | none => none
        | _ => none
      else none
def callYl (R : Runner) (id : Nat) (xs : List SV) (n : Nat) (m : Tr CB) : Option Rs :=
  match m.get id with
  | some (.loop .ready pe k sl ps x y) => bif Nat.beq xs.length ps.size && ps.toList.all (fun t => Nat.ble (t + 1) k) && okN k && okN id then
      match R (some id) k .no x ⟨n, putAllT sl ps.toList xs, m⟩ with
      | some (.normal, s1) => match s1.mem.get id with
        | some (.loop .ready pe1 _ _ _ _ _) => match R (some id) k .no y ⟨s1.n, s1.sl, putM s1.mem id (some (.loop .busy pe1 k sl ps x y))⟩ with
          | some (e, s2) => match jumpOf e, s2.mem.get id with
            | some j, some (.loop .busy _ _ _ _ _ _) => some ⟨.d (.val (.bool j.isNone)), s2.n, putM s2.mem id (some (.loop (if j.isNone then .ready else .done) j k sl ps x y))⟩
            | _, _ => none
          | none => none
        | _ => none
      | _ => none
    else none
  | _ => none
/-- Two values are the same. -/
def same1 : SV → SV → Bool
  | .d (.val (.int k a)), .d (.val (.int k' b)) => decide (k = k') && decide (a = b)
  | .d (.val (.bool a)), .d (.val (.bool b)) => a == b
  | .d (.val .nilFunc), .d (.val .nilFunc) => true
  | .d (.val (.pointer none)), .d (.val (.pointer none)) => true
  | .d (.val (.map none)), .d (.val (.map none)) => true
  | .nilS, .nilS => true
  | .ptr a b c, .ptr a' b' c' => Nat.beq a a' && Nat.beq b b' && Nat.beq c c'
  | .mp a, .mp b => Nat.beq a b
  | .sl a b c (some d), .sl a' b' c' (some d') => Nat.beq a a' && Nat.beq b b' && Nat.beq c c' && Nat.beq d d'
  | .sl a b c none, .sl a' b' c' none => Nat.beq a a' && Nat.beq b b' && Nat.beq c c'
  | .yield a, .yield b => Nat.beq a b
  | _, _ => false
def sameL (f : SV → SV → Bool) : List SV → List SV → Bool
  | [], [] => true
  | x :: l, y :: k => f x y && sameL f l k
  | _, _ => false
def same2 : SV → SV → Bool
  | .fn f us vs, .fn f' us' vs' => Nat.beq f f' && sameL same1 us us' && sameL same1 vs vs'
  | x, y => same1 x y
def sameA : SV → SV → Bool
  | .agg l, .agg k => sameL same2 l k
  | x, y => same2 x y
def same3 : SV → SV → Bool
  | .tup l, .tup k => sameL sameA l k
  | x, y => sameA x y
def sameT : Tr SV → Tr SV → Bool
  | .lf, .lf => true
  | .nd none l r, .nd none l' r' => sameT l l' && sameT r r'
  | .nd (some x) l r, .nd (some y) l' r' => same3 x y && sameT l l' && sameT r r'
  | _, _ => false
def sameE : List (List Int × SV × Nat) → List (List Int × SV × Nat) → Bool
  | [], [] => true
  | (k, x, b) :: l, (k', y, b') :: l' => decide (k = k') && same3 x y && Nat.beq b b' && sameE l l'
  | _, _ => false
def sameB : Option CB → Option CB → Bool
  | some (.bx w t n d c f), some (.bx w' t' n' d' c' f') => (w == w') && Nat.beq t t' && Nat.beq n n' && sameL same2 d d' && sameT c c' && (f == f')
  | some (.mp a k es c), some (.mp a' k' es' c') => (a == a') && decide (k = k') && sameE es es' && Nat.beq c c'
  | none, none => true
  | _, _ => false
def subTr : Tr CB → Tr CB → Bool
  | .lf, _ => true
  | .nd v l r, .lf => v.isNone && subTr l .lf && subTr r .lf
  | .nd v l r, .nd v' l' r' => (match v with
      | none => true
      | some _ => sameB v v') && subTr l l' && subTr r r'
def eqTr (x y : Tr CB) : Bool := subTr x y && subTr y x
def noLoop : Tr CB → Bool
  | .lf => true
  | .nd v l r => (match v with
      | some (.loop ..) => false
      | _ => true) && noLoop l && noLoop r
def Tr.top {α : Type} : Tr α → Option α
  | .lf => none
  | .nd v _ _ => v
def Tr.left {α : Type} : Tr α → Tr α
  | .lf => .lf
  | .nd _ l _ => l
def Tr.right {α : Type} : Tr α → Tr α
  | .lf => .lf
  | .nd _ _ r => r
/-- What a call did not get stays as it was. -/
def pk {α : Type} (v v0 vq : Option α) : Option α := match v0 with
  | some _ => vq
  | none => match v with
    | some b => some b
    | none => vq
/-- Memory behind a call that got m0 of m and left mq. -/
def frameT {α : Type} : Tr α → Tr α → Tr α → Tr α
  | .lf, _, mq => mq
  | .nd v l r, m0, mq => .nd (pk v m0.top mq.top) (frameT l m0.left mq.left) (frameT r m0.right mq.right)
/-- A call of which it is known how it ends. -/
structure Ent where
  f : FuncId
  args : List SV
  n : Nat
  m : Tr CB
  q : Rs
/-- Functions of which it is known what they answer. -/
abbrev Sums := FuncId → Option (List SV → Nat → Tr CB → Option Rs)
structure Known where
  ents : List Ent
  closed : List (FuncId × Value)
  sums : Sums
def findC (f : FuncId) : List (FuncId × Value) → Option Value
  | [] => none
  | (g, v) :: l => bif Nat.beq g f then some v else findC f l
def findE (n : Nat) : List Ent → Option Ent
  | [] => none
  | e :: l => bif Nat.beq e.n n then some e else findE n l
def callK (P : Program) (T : Tab) (K : Known) (R : Runner) (f : FuncId) (args : List SV) (n : Nat) (m : Tr CB) : Option Rs :=
  match findC f K.closed with
  | some v => match args with
    | [] => some ⟨.d (.val v), n, m⟩
    | _ => none
  | none => match K.sums f with
   | some g => g args n m
   | none => match findE n K.ents with
    | some e => bif Nat.beq e.f f && sameL same3 args e.args && subTr e.m m && noLoop e.m then some ⟨e.q.y, e.q.n, frameT m e.m e.q.m⟩ else callFn P T R f args n m
    | none => callFn P T R f args n m
/-- One operation that is wanted; ev: its operands. -/
def doOp (P : Program) (T : Tab) (Z : ZTab) (Q : QTab) (M : MTab) (K : Known) (R : Runner) (ev : Operand → Option SV) (s : CS) (o : Oper) : Option Rs :=
  match calleeC ev o.op with
  | .plain => bif isW o.op then
      match xW T Z M s.mem s.n ev o.op with
      | some (x, m') => some ⟨x, s.n + 1, m'⟩
      | none => none
    else match xR T Q M s.mem ev o.op with
      | some x => some ⟨x, s.n, s.mem⟩
      | none => none
  | .fn f l => callK P T K R f l s.n s.mem
  | .yl id l => callYl R id l s.n s.mem
  | .bad => none
/-- Operations, decoded: the kernel does so once for each. -/
inductive Ins where
  | mv (x : Operand)
  | bin (op : BinOp) (t : TypeId) (x y : Operand) (ty : TypeId)
  | ld (t : TypeId) (x : Operand)
  | st (t : TypeId) (x y : Operand)
  | ix (t : TypeId) (x i : Operand)
  | fa (t : TypeId) (x : Operand) (f : Nat)
  | call (c : Call)
  | oth (op : Op)
def dec : Op → Ins
  | .move x => .mv x
  | .assign x => .mv x
  | .binOp op t x y ty => .bin op t x y ty
  | .load t x => .ld t x
  | .store t x y => .st t x y
  | .indexAddr t x i => .ix t x i
  | .fieldAddr t x f => .fa t x f
  | .call c => .call c
  | op => .oth op
def keepR (s : CS) : Option SV → Option Rs
  | some x => some ⟨x, s.n, s.mem⟩
  | none => none
def keepW (s : CS) : Option (SV × Tr CB) → Option Rs
  | some (x, m') => some ⟨x, s.n + 1, m'⟩
  | none => none
def fBin (T : Tab) (Q : QTab) (m : Tr CB) (ev : Operand → Option SV) (op : BinOp) (t : TypeId) (x y : Operand) (ty : TypeId) : Option SV := match aopR T (mOf m) ev (.binOp op t x y ty) with
    | some r => some r
    | none => match ev x, ev y with
      | some u, some v => match op with
        | .shl | .shr => none
        | _ => bigEq Q op t u v
      | _, _ => none
def fLd (T : Tab) (m : Tr CB) (ev : Operand → Option SV) (t : TypeId) (x : Operand) : Option SV := match T t, ev x with
    | some i, some v => loadC m i v
    | _, _ => none
def fIx (T : Tab) (ev : Operand → Option SV) (t : TypeId) (x ix : Operand) : Option SV := match T t, ev x, intOp (ev ix) with
    | some i, some v, some (_, k) => indexC T i k v
    | _, _, _ => none
def fFa (T : Tab) (ev : Operand → Option SV) (s : TypeId) (x : Operand) (f : Nat) : Option SV := match T s with
    | some i => match fieldOf i f with
      | some (off, ft) => match T ft, ev x with
        | some _, some (.rptr cs) => some (.rptr (cs.drop off))
        | some _, some (.ptr id r j) => some (.ptr id r (j + off))
        | _, _ => none
      | none => none
    | none => none
def fCall (P : Program) (T : Tab) (Z : ZTab) (Q : QTab) (M : MTab) (K : Known) (R : Runner) (ev : Operand → Option SV) (s : CS) (c : Call) : Option Rs :=
  match c.callee with
    | .builtin _ => bif isW (.call c) then keepW s (xW T Z M s.mem s.n ev (.call c)) else keepR s (xR T Q M s.mem ev (.call c))
    | .value (.func f) => match evList ev c.args.toList with
      | some l => callK P T K R f l s.n s.mem
      | none => none
    | .value (.tmp t) => match ev (.tmp t), evList ev c.args.toList with
      | some (.fn f us vs), some l => callK P T K R f (us ++ l ++ vs) s.n s.mem
      | some (.yield id), some l => callYl R id l s.n s.mem
      | _, _ => none
    | _ => none
def doF (P : Program) (T : Tab) (Z : ZTab) (Q : QTab) (M : MTab) (K : Known) (R : Runner) (ev : Operand → Option SV) (s : CS) (o : Oper) : Option Rs :=
  match dec o.op with
  | .mv x => keepR s (ev x)
  | .bin op t x y ty => keepR s (fBin T Q s.mem ev op t x y ty)
  | .ld t x => keepR s (fLd T s.mem ev t x)
  | .st t x y => keepW s (stoC T s.mem ev t x y)
  | .ix t x i => keepR s (fIx T ev t x i)
  | .fa t x f => keepR s (fFa T ev t x f)
  | .call c => fCall P T Z Q M K R ev s c
  | .oth _ => doOp P T Z Q M K R ev s o
theorem doF_eq {P : Program} {T : Tab} {Z : ZTab} {Q : QTab} {M : MTab} {K : Known} {R : Runner} {ev : Operand → Option SV} {s : CS} {o : Oper} : doF P T Z Q M K R ev s o = doOp P T Z Q M K R ev s o := by
  have key : ∀ op, o.op = op → (match dec op with
      | .mv x => keepR s (ev x)
      | .bin op t x y ty => keepR s (fBin T Q s.mem ev op t x y ty)
      | .ld t x => keepR s (fLd T s.mem ev t x)
      | .st t x y => keepW s (stoC T s.mem ev t x y)
      | .ix t x i => keepR s (fIx T ev t x i)
      | .fa t x f => keepR s (fFa T ev t x f)
      | .call c => fCall P T Z Q M K R ev s c
      | .oth _ => doOp P T Z Q M K R ev s o) = doOp P T Z Q M K R ev s o := by
    intro op ho
    unfold doOp
    rw [ho]
    cases op with
    | move x => rfl
    | assign x => rfl
    | binOp op t x y ty => rfl
    | load t x => rfl
    | store t x y =>
      simp only [dec, calleeC, isW, cond_true, xW]
      cases stoC T s.mem ev t x y with
      | none => rfl
      | some p => rfl
    | indexAddr t x i => rfl
    | fieldAddr t x f => rfl
    | call c =>
      simp only [dec, fCall, calleeC]
      cases hc : c.callee with
      | builtin b =>
        simp only
        cases isW (.call c) with
        | true =>
          simp only [cond_true]
          cases xW T Z M s.mem s.n ev (.call c) with
          | none => rfl
          | some p => rfl
        | false => rfl
      | value f =>
        cases f with
        | func f => simp only; cases evList ev c.args.toList <;> rfl
        | tmp t =>
          simp only
          cases ev (.tmp t) with
          | none => rfl
          | some v =>
            cases evList ev c.args.toList with
            | none => cases v <;> rfl
            | some l => cases v <;> rfl
        | const v => rfl
        | global g => rfl
      | invoke r m => rfl
    | _ => rfl
  exact key o.op rfl
def gF (ops : Array Oper) (ns : Nat) (s : CS) (o : Oper) : Option Bool := match o.guard with
  | none => bif dstOk ns o.dst then some true else none
  | some _ => guardS ops ns s.den o
theorem gF_eq {ops : Array Oper} {ns : Nat} {s : CS} {o : Oper} : gF ops ns s o = guardS ops ns s.den o := by
  unfold gF
  split
  · rename_i h
    unfold guardS
    rw [h]
    cases dstOk ns o.dst <;> rfl
  · rfl
def doOps (P : Program) (T : Tab) (Z : ZTab) (Q : QTab) (M : MTab) (K : Known) (R : Runner) (ns : Nat) (ops : Array Oper) : List Oper → CS → Option CS
  | [], s => some s
  | o :: l, s => match gF ops ns s o with
    | some true => match doF P T Z Q M K R (opd ns s.den) s o with
      | some q => doOps P T Z Q M K R ns ops l ⟨q.n, putD s.sl o.dst q.y, q.m⟩
      | none => none
    | some false => doOps P T Z Q M K R ns ops l ⟨s.n, putD s.sl o.dst (.tup []), s.mem⟩
    | none => none
/-- The same, with what is read and written. -/
inductive KC where
  | off
  | pure (x : SV) (ids : List Nat)
  | exact (y : SV)
structure En where
  k : KC
  s : CS
  s' : CS
def plainP (ev : Operand → Option SV) (o : Op) : Bool := match calleeC ev o with
  | .plain => !isW o
  | _ => false
def plainS : Op → Bool
  | .call c => match c.callee with
    | .builtin _ => !isW (.call c)
    | _ => false
  | .defer _ => false
  | op => !isW op
theorem plainS_P {op : Op} (h : plainS op = true) (ev : Operand → Option SV) : plainP ev op = true := by
  unfold plainP
  cases op with
  | call c =>
    simp only [plainS] at h
    simp only [calleeC]
    cases hc : c.callee with
    | builtin b => rw [hc] at h; exact h
    | _ => rw [hc] at h; cases h
  | defer c => cases h
  | _ => exact h
def pureF (T : Tab) (Q : QTab) (M : MTab) (m : Tr CB) (ev : Operand → Option SV) (op : Op) : Option SV := match dec op with
  | .mv x => ev x
  | .bin o t x y ty => fBin T Q m ev o t x y ty
  | .ld t x => fLd T m ev t x
  | .ix t x i => fIx T ev t x i
  | .fa t x f => fFa T ev t x f
  | _ => xR T Q M m ev op
theorem pureF_eq {T : Tab} {Q : QTab} {M : MTab} {m : Tr CB} {ev : Operand → Option SV} {op : Op} : pureF T Q M m ev op = xR T Q M m ev op := by
  unfold pureF
  cases op <;> rfl
def drOps (P : Program) (T : Tab) (Z : ZTab) (Q : QTab) (M : MTab) (K : Known) (R : Runner) (ns : Nat) (ops : Array Oper) : List Oper → CS → Option (List En × CS)
  | [], s => some ([], s)
  | o :: l, s => match gF ops ns s o with
    | some false => match drOps P T Z Q M K R ns ops l ⟨s.n, putD s.sl o.dst (.tup []), s.mem⟩ with
      | some (es, s2) => some (⟨.off, s, ⟨s.n, putD s.sl o.dst (.tup []), s.mem⟩⟩ :: es, s2)
      | none => none
    | some true => bif plainS o.op then
        match pureF T Q M (memC s.mem (readsOf (sOf s.sl) o.op)) (evR (slotsOf o.op) ns (sOf s.sl)) o.op with
        | some x => match drOps P T Z Q M K R ns ops l ⟨s.n, putD s.sl o.dst x, s.mem⟩ with
          | some (es, s2) => some (⟨.pure x (readsOf (sOf s.sl) o.op), s, ⟨s.n, putD s.sl o.dst x, s.mem⟩⟩ :: es, s2)
          | none => none
        | none => none
      else match doF P T Z Q M K R (evR (slotsOf o.op) ns (sOf s.sl)) s o with
        | some q => match drOps P T Z Q M K R ns ops l ⟨q.n, putD s.sl o.dst q.y, q.m⟩ with
          | some (es, s2) => some (⟨.exact q.y, s, ⟨q.n, putD s.sl o.dst q.y, q.m⟩⟩ :: es, s2)
          | none => none
        | none => none
    | none => none
def zeroN (n : Nat) : Bool := Nat.beq n 0
/-- Two operations may go in any order, or they may not (b: i comes before). -/
def pairOk (b i : Nat) (a e : En) : Bool := match a.k, e.k with
  | .exact _, .exact _ => b.testBit i
  | .exact _, .pure _ ids => b.testBit i || ids.all fun j => sameB (a.s'.mem.get j) (a.s.mem.get j)
  | .pure _ ids, .exact _ => b.testBit i || ids.all fun j => sameB (e.s'.mem.get j) (e.s.mem.get j)
  | _, _ => true
def okAfter (i : Nat) (a : En) : List Nat → List En → Bool
  | b :: bs, e :: es => pairOk b i a e && okAfter i a bs es
  | _, _ => true
def okEs (i : Nat) : List Nat → List En → Bool
  | _ :: bs, e :: es => okAfter i e bs es && okEs (i + 1) bs es
  | _, _ => true
/-- An operation that may go in any order with all others. -/
def dull (e : En) : Bool := match e.k with
  | .off => true
  | .pure _ ids => match ids with
    | [] => true
    | _ => false
  | .exact _ => false
theorem dull_after {e : En} (h : dull e = true) : ∀ {i : Nat} {bs : List Nat} {es : List En}, okAfter i e bs es = true
  | i, [], es => by simp [okAfter]
  | i, b :: bs, [] => by simp [okAfter]
  | i, b :: bs, g :: es => by
    simp only [okAfter, Bool.and_eq_true]
    refine ⟨?_, dull_after h⟩
    unfold dull at h
    unfold pairOk
    split at h
    · rename_i hk; rw [hk]
    · rename_i hk
      split at h
      · rw [hk]
        split
        · rename_i e1 _; cases e1
        · rename_i e1 _; cases e1
        · rename_i e1 e2; cases e1; simp
        · rfl
      · cases h
    · cases h
/-- Those that are not dull. -/
def thin (i : Nat) : List Nat → List En → List (Nat × Nat × En)
  | b :: bs, e :: es => match dull e with
    | true => thin (i + 1) bs es
    | false => (i, b, e) :: thin (i + 1) bs es
  | _, _ => []
def okAfter3 (i : Nat) (a : En) : List (Nat × Nat × En) → Bool
  | [] => true
  | (_, b, e) :: l => pairOk b i a e && okAfter3 i a l
def okEs3 : List (Nat × Nat × En) → Bool
  | [] => true
  | (i, _, a) :: l => okAfter3 i a l && okEs3 l
theorem dull_pair {e : En} (h : dull e = true) (b i : Nat) (a : En) : pairOk b i a e = true := by
  unfold dull at h
  unfold pairOk
  split at h
  · rename_i hk; rw [hk]; split <;> first | rfl | (rename_i e1 e2; cases e2)
  · rename_i hk
    split at h
    · rw [hk]
      split
      · rename_i e1 e2; cases e2
      · rename_i e1 e2; cases e2; simp
      · rename_i e1 e2; cases e2
      · rfl
    · cases h
  · cases h
theorem okAfter3_ok {i : Nat} {a : En} : ∀ {k : Nat} {bs : List Nat} {es : List En}, okAfter3 i a (thin k bs es) = true → okAfter i a bs es = true
  | k, [], es, _ => by simp [okAfter]
  | k, b :: bs, [], _ => by simp [okAfter]
  | k, b :: bs, e :: es, h => by
    simp only [thin] at h
    simp only [okAfter, Bool.and_eq_true]
    split at h
    · rename_i hd
      exact ⟨dull_pair hd b i a, okAfter3_ok h⟩
    · simp only [okAfter3, Bool.and_eq_true] at h
      exact ⟨h.1, okAfter3_ok h.2⟩
theorem okEs3_ok : ∀ {i : Nat} {bs : List Nat} {es : List En}, okEs3 (thin i bs es) = true → okEs i bs es = true
  | i, [], es, _ => by simp [okEs]
  | i, b :: bs, [], _ => by simp [okEs]
  | i, b :: bs, e :: es, h => by
    simp only [thin] at h
    simp only [okEs, Bool.and_eq_true]
    split at h
    · rename_i hd
      exact ⟨dull_after hd, okEs3_ok h⟩
    · simp only [okEs3, Bool.and_eq_true] at h
      exact ⟨okAfter3_ok h.1, okEs3_ok h.2⟩
def anyEx : List En → Bool
  | [] => false
  | e :: es => match e.k with
    | .exact _ => true
    | _ => anyEx es
def okDyn (bs : List Nat) (es : List En) : Bool := bif anyEx es then okEs3 (thin 0 bs es) else true
/-- What does not depend on the state: which slots are read and written. -/
def stAfter (i : Nat) (a : Nat × Nat) : List Nat → List (Nat × Nat) → Bool
  | b :: bs, e :: es => (b.testBit i || zeroN ((a.2 &&& (e.1 ||| e.2)) ||| (a.1 &&& e.2))) && stAfter i a bs es
  | _, _ => true
def stAll (i : Nat) : List Nat → List (Nat × Nat) → Bool
  | _ :: bs, e :: es => stAfter i e bs es && stAll (i + 1) bs es
  | _, _ => true
def stOk (ops : Array Oper) : Bool := backB ops && stAll 0 (ancs ops.toList []) (ops.toList.map fun o => (maskL (guardSlot ops o ++ slotsOf o.op), maskL o.dst.toList))
/-- How a range over a function goes on. -/
def afterX (pe : Option Code) (s : CS) : Option (Exit × CS) := match pe with
  | none => some (.normal, s)
  | some .ret => some (.ret, s)
  | some (.exit id) => some (.exit id, s)
  | some (.goto t) => some (.goto t, s)
  | _ => none
def hasRec (m : Tr CB) : Option Nat → Bool
  | none => true
  | some id => match m.get id with
    | some (.loop ..) => true
    | _ => false
def rangeX (P : Program) (T : Tab) (R : Runner) (r : Option Nat) (ns : Nat) (s : CS) (f : FuncId) (us vs : List SV) (ps : Array Tmp) (x y : Code) : Option (Exit × CS) :=
  bif free s.mem s.n && hasRec s.mem r then
    match callFn P T R f (us ++ [.yield s.n] ++ vs) (s.n + 1) (putM s.mem s.n (some (.loop .ready none ns s.sl ps x y))) with
    | some q => match q.m.get s.n with
      | some (.loop st pe _ _ _ _ _) => match st with
        | .busy => none
        | _ => afterX pe ⟨q.n, s.sl, putM q.m s.n (some (.loop .exhausted pe ns s.sl ps x y))⟩
      | _ => none
    | none => none
  else none
def bReg (P : Program) (T : Tab) (Z : ZTab) (Q : QTab) (M : MTab) (K : Known) (R : Runner) (ns : Nat) (ops : Array Oper) (draw : Bool) (s : CS) : Option (Exit × CS) :=
    bif draw then match drOps P T Z Q M K R ns ops ops.toList s with
      | some (es, s') => bif stOk ops && okDyn (ancs ops.toList []) es then some (.normal, s') else none
      | none => none
    else match doOps P T Z Q M K R ns ops ops.toList s with
      | some s' => some (.normal, s')
      | none => none
def onNormal (k : CS → Option (Exit × CS)) : Option (Exit × CS) → Option (Exit × CS)
  | some (e, s1) => match e with
      | .normal => k s1
      | e => some (e, s1)
  | none => none
def bCond (R : Runner) (r : Option Nat) (ns : Nat) (c : Operand) (a b : Code) (s : CS) : Option (Exit × CS) := match opd ns s.den c with
    | some (.d (.val (.bool t))) => if t then R r ns .no a s else R r ns .no b s
    | _ => none
def bBlock (id : Nat) : Option (Exit × CS) → Option (Exit × CS)
  | some (e, s1) => match e with
      | .exit j => bif Nat.beq j id then some (.normal, s1) else some (.exit j, s1)
      | e => some (e, s1)
  | none => none
def bRange (P : Program) (T : Tab) (R : Runner) (r : Option Nat) (ns : Nat) (g : Operand) (ps : Array Tmp) (x y : Code) (s : CS) : Option (Exit × CS) := match opd ns s.den g with
    | some (.fn f us vs) => rangeX P T R r ns s f us vs ps x y
    | _ => none
/-- One step of the runner: R runs what is within. -/
def bodyC (P : Program) (T : Tab) (Z : ZTab) (Q : QTab) (M : MTab) (K : Known) (R : Runner) (r : Option Nat) (ns : Nat) (c : Code) (s : CS) : Option (Exit × CS) :=
  match c with
  | .skip => some (.normal, s)
  | .region _ ops draw => bReg P T Z Q M K R ns ops draw s
  | .seq a b => onNormal (R r ns .no b) (R r ns .no a s)
  | .cond c a b => bCond R r ns c a b s
  | .block id c => bBlock id (R r ns .no c s)
  | .loop c => R r ns (.lp c) c s
  | .rangeFunc g ps x y => bRange P T R r ns g ps x y s
  | .exit id => some (.exit id, s)
  | .goto l => some (.goto l, s)
  | .label _ => some (.normal, s)
  | .ret => some (.ret, s)
  | .scope c => R r ns (.sc c) c s
  | _ => none
def bodyR (P : Program) (T : Tab) (Z : ZTab) (Q : QTab) (M : MTab) (K : Known) (R : Runner) : Runner := fun r ns cx c s => match cx with
  | .no => bodyC P T Z Q M K R r ns c s
  | .sc c0 => match R r ns .no c s with
    | some (e, s1) => match e with
      | .goto l => match findLabel c0 l with
        | some rest => R r ns (.sc c0) rest s1
        | none => some (.goto l, s1)
      | e => some (e, s1)
    | none => none
  | .lp c0 => match R r ns .no c s with
    | some (e, s1) => match e with
      | .normal => R r ns (.lp c0) c0 s1
      | e => some (e, s1)
    | none => none
/-! ### The same, as the kernel runs it best: states taken apart, no projections, recursors themselves -/
structure Cfg where
  P : Program
  T : Tab
  Z : ZTab
  Q : QTab
  M : MTab
  K : Known
variable {C : Cfg} {R : Runner}
def getS (sl : Tr SV) (t : Nat) : SV := @Option.rec SV (fun _ => SV) .und (fun x => x) (sl.get t)
theorem getS_eq (sl : Tr SV) (t : Nat) : getS sl t = sOf sl t := by
  unfold getS sOf
  cases sl.get t <;> rfl
def opF (ns : Nat) (sl : Tr SV) (x : Operand) : Option SV :=
  @Operand.rec (fun _ => Option SV) (fun t => @Bool.rec (fun _ => Option SV) none (some (getS sl t)) (Nat.ble (Nat.succ t) ns)) constSV (fun _ => none) (fun f => some (.fn f [] [])) x
theorem opF_eq (ns : Nat) (s : CS) : opF ns s.sl = opd ns s.den := funext fun x => by
  cases x with
  | tmp t =>
    show @Bool.rec (fun _ => Option SV) none (some (getS s.sl t)) (Nat.ble (t + 1) ns) = if t < ns then some (sOf s.sl t) else none
    rw [rec_cond, getS_eq, cond_eq_ite]
    simp only [Nat.ble_eq, Nat.succ_le_iff]
  | const v => rfl
  | global => rfl
  | func => rfl
def putD' (sl : Tr SV) (d : Option Nat) (y : SV) : Tr SV := @Option.rec Nat (fun _ => Tr SV) sl (fun i => putT sl i y) d
theorem putD'_eq (sl : Tr SV) (d : Option Nat) (y : SV) : putD' sl d y = putD sl d y := by cases d <;> rfl
def fBin2 (T : Tab) (Q : QTab) (op : BinOp) (t : TypeId) (x y : Option SV) : Option SV := match x, y with
  | some u, some v => match op with
    | .shl | .shr => none
    | _ => match binSV T op t u v with
      | some r => some r
      | none => bigEq Q op t u v
  | _, _ => none
theorem fBin2_eq {T : Tab} {Q : QTab} {M : MTab} {m : Tr CB} {ev : Operand → Option SV} {op : BinOp} {t : TypeId} {x y : Operand} {ty : TypeId} : fBin2 T Q op t (ev x) (ev y) = xR T Q M m ev (.binOp op t x y ty) := by
  show _ = (match aopR T (mOf m) ev (.binOp op t x y ty) with
    | some r => some r
    | none => match ev x, ev y with
      | some u, some v => match op with
        | .shl | .shr => none
        | _ => bigEq Q op t u v
      | _, _ => none)
  have e : aopR T (mOf m) ev (.binOp op t x y ty) = (match ev x, ev y with
    | some u, some v => match op with
      | .shl | .shr => none
      | _ => binSV T op t u v
    | _, _ => none) := rfl
  rw [e]
  unfold fBin2
  cases ev x with
  | none => cases ev y <;> rfl
  | some u =>
    cases ev y with
    | none => rfl
    | some v => cases op <;> rfl
/-- An operation, decoded: one that leaves memory as it is, one that writes, a call. -/
inductive In2 where
  | pu (f : Tr CB → (Operand → Option SV) → Option SV)
  | wr (f : Tr CB → Nat → (Operand → Option SV) → Option (SV × Tr CB))
  | ca (c : Call)
  | no
def dec2 (C : Cfg) (op : Op) : In2 := match op with
  | .move x => .pu fun _ ev => ev x
  | .assign x => .pu fun _ ev => ev x
  | .binOp op t x y _ => .pu fun _ ev => fBin2 C.T C.Q op t (ev x) (ev y)
  | .load t x => .pu fun m ev => fLd C.T m ev t x
  | .indexAddr t x i => .pu fun _ ev => fIx C.T ev t x i
  | .fieldAddr t x f => .pu fun _ ev => fFa C.T ev t x f
  | .pick c x y => .pu fun _ ev => match ev c, ev x, ev y with
    | some (.d (.val (.bool t))), some u, some v => some (if t then u else v)
    | _, _, _ => none
  | .unOp op _ x => .pu fun _ ev => match op, ev x with
    | .not, some (.d (.val (.bool b))) => some (.d (.val (.bool !b)))
    | .neg, some (.d (.val (.int k n))) => some (.d (.val (.int k (k.wrap (0 - n)))))
    | _, _ => none
  | .nilCheck x => .pu fun _ ev => match ev x with
    | some (.rptr cs) => some (.rptr cs)
    | some (.ptr i r j) => some (.ptr i r j)
    | _ => none
  | .field s x f => .pu fun _ ev => match C.T s with
    | some i => match fieldOf i f with
      | some (off, ft) => match C.T ft, ev x with
        | some fi, some v => partSV fi off v
        | _, _ => none
      | none => none
    | none => none
  | .extract x i => .pu fun _ ev => match ev x with
    | some (.d (.tup cs)) => (cs[i]?).map .d
    | some (.tup cs) => cs[i]?
    | _ => none
  | .lookup t x ix ok => .pu fun m ev => match C.M t, ev x, ev ix with
    | some i, some v, some k => lookC m i v k ok
    | _, _, _ => none
  | .store t x y => .wr fun m _ ev => stoC C.T m ev t x y
  | .call c => .ca c
  | .defer _ => .no
  | op => match isW op with
    | true => .wr fun m n ev => xW C.T C.Z C.M m n ev op
    | false => .pu fun m ev => xR C.T C.Q C.M m ev op
def runI (C : Cfg) (R : Runner) (ev : Operand → Option SV) (s : CS) : In2 → Option Rs
  | .pu f => keepR s (f s.mem ev)
  | .wr f => keepW s (f s.mem s.n ev)
  | .ca c => fCall C.P C.T C.Z C.Q C.M C.K R ev s c
  | .no => none
theorem plain_doOp {ev : Operand → Option SV} {s : CS} {o : Oper} (h : calleeC ev o.op = .plain) : doOp C.P C.T C.Z C.Q C.M C.K R ev s o = (match isW o.op with
    | true => keepW s (xW C.T C.Z C.M s.mem s.n ev o.op)
    | false => keepR s (xR C.T C.Q C.M s.mem ev o.op)) := by
  unfold doOp
  rw [h]
  cases isW o.op with
  | true =>
    simp only [cond_true]
    cases xW C.T C.Z C.M s.mem s.n ev o.op with
    | none => rfl
    | some p => rfl
  | false =>
    simp only [cond_false]
    cases xR C.T C.Q C.M s.mem ev o.op with
    | none => rfl
    | some p => rfl
theorem runI_eq (ev : Operand → Option SV) (s : CS) (o : Oper) : runI C R ev s (dec2 C o.op) = doOp C.P C.T C.Z C.Q C.M C.K R ev s o := by
  have key : ∀ op, o.op = op → runI C R ev s (dec2 C op) = doOp C.P C.T C.Z C.Q C.M C.K R ev s o := by
    intro op ho
    cases op with
    | call c =>
      rw [← doF_eq]
      unfold doF
      rw [ho]
      rfl
    | defer c =>
      unfold doOp
      rw [ho]
      rfl
    | binOp op t x y ty =>
      rw [plain_doOp (by rw [ho]; rfl), ho]
      show keepR s (fBin2 C.T C.Q op t (ev x) (ev y)) = _
      rw [fBin2_eq (M := C.M) (m := s.mem) (ty := ty)]
      rfl
    | _ => rw [plain_doOp (by rw [ho]; rfl), ho]; rfl
  exact key o.op rfl
abbrev Kt := Nat → Tr SV → Tr CB → Option CS
def valF (ih : Kt) (d : Option Nat) (n : Nat) (sl : Tr SV) (m : Tr CB) (v : Option SV) : Option CS := @Option.rec SV (fun _ => Option CS) none (fun y => ih n (putD' sl d y) m) v
def wrF (ih : Kt) (d : Option Nat) (n : Nat) (sl : Tr SV) (v : Option (SV × Tr CB)) : Option CS := @Option.rec (SV × Tr CB) (fun _ => Option CS) none (fun p => @Prod.rec SV (Tr CB) (fun _ => Option CS) (fun y m => ih (Nat.succ n) (putD' sl d y) m) p) v
def resF (ih : Kt) (d : Option Nat) (sl : Tr SV) (v : Option Rs) : Option CS := @Option.rec Rs (fun _ => Option CS) none (fun q => @Rs.rec (fun _ => Option CS) (fun y n m => ih n (putD' sl d y) m) q) v
def insF (C : Cfg) (R : Runner) (ns : Nat) (ih : Kt) (d : Option Nat) (n : Nat) (sl : Tr SV) (m : Tr CB) (i : In2) : Option CS :=
  @In2.rec (fun _ => Option CS) (fun f => valF ih d n sl m (f m (opF ns sl))) (fun f => wrF ih d n sl (f m n (opF ns sl))) (fun c => resF ih d sl (fCall C.P C.T C.Z C.Q C.M C.K R (opF ns sl) ⟨n, sl, m⟩ c)) none i
def gFF (ops : Array Oper) (ns : Nat) (sl : Tr SV) (m : Tr CB) (o : Oper) : Option Bool :=
  @Option.rec (Nat × Bool) (fun _ => Option Bool) (@Bool.rec (fun _ => Option Bool) none (some true) (dstOk ns o.dst)) (fun _ => guardS ops ns ⟨sOf sl, mOf m⟩ o) o.guard
theorem gFF_eq (ops : Array Oper) (ns : Nat) (s : CS) (o : Oper) : gFF ops ns s.sl s.mem o = gF ops ns s o := by
  unfold gFF gF
  cases o.guard with
  | none =>
    show @Bool.rec (fun _ => Option Bool) none (some true) (dstOk ns o.dst) = _
    rw [rec_cond]
  | some g => rfl
def stepF (C : Cfg) (R : Runner) (ns : Nat) (ops : Array Oper) (o : Oper) (ih : Kt) (n : Nat) (sl : Tr SV) (m : Tr CB) : Option CS :=
  @Option.rec Bool (fun _ => Option CS) none (fun b => @Bool.rec (fun _ => Option CS) (ih n (putD' sl o.dst (.tup [])) m) (insF C R ns ih o.dst n sl m (dec2 C o.op)) b) (gFF ops ns sl m o)
def runOps (C : Cfg) (R : Runner) (ns : Nat) (ops : Array Oper) (l : List Oper) : Kt :=
  @List.rec Oper (fun _ => Kt) (fun n sl m => some ⟨n, sl, m⟩) (fun o _ ih => stepF C R ns ops o ih) l
theorem runOps_eq {ns : Nat} {ops : Array Oper} : ∀ (l : List Oper) (n : Nat) (sl : Tr SV) (m : Tr CB), runOps C R ns ops l n sl m = doOps C.P C.T C.Z C.Q C.M C.K R ns ops l ⟨n, sl, m⟩
  | [], n, sl, m => rfl
  | o :: l, n, sl, m => by
    show stepF C R ns ops o (runOps C R ns ops l) n sl m = _
    unfold stepF
    rw [gFF_eq ops ns ⟨n, sl, m⟩ o, doOps]
    cases gF ops ns ⟨n, sl, m⟩ o with
    | none => rfl
    | some b =>
      cases b with
      | false =>
        show runOps C R ns ops l n (putD' sl o.dst (.tup [])) m = _
        rw [runOps_eq l, putD'_eq]
      | true =>
        show insF C R ns (runOps C R ns ops l) o.dst n sl m (dec2 C o.op) = _
        simp only
        rw [doF_eq, ← runI_eq, ← opF_eq]
        cases dec2 C o.op with
        | pu f =>
          show valF (runOps C R ns ops l) o.dst n sl m (f m (opF ns sl)) = _
          simp only [runI, keepR]
          cases f m (opF ns sl) with
          | none => rfl
          | some y =>
            show runOps C R ns ops l n (putD' sl o.dst y) m = _
            rw [runOps_eq l, putD'_eq]
        | wr f =>
          show wrF (runOps C R ns ops l) o.dst n sl (f m n (opF ns sl)) = _
          simp only [runI, keepW]
          cases f m n (opF ns sl) with
          | none => rfl
          | some p =>
            show runOps C R ns ops l (n + 1) (putD' sl o.dst p.1) p.2 = _
            rw [runOps_eq l, putD'_eq]
        | ca c =>
          show resF (runOps C R ns ops l) o.dst sl (fCall C.P C.T C.Z C.Q C.M C.K R (opF ns sl) ⟨n, sl, m⟩ c) = _
          simp only [runI]
          cases fCall C.P C.T C.Z C.Q C.M C.K R (opF ns sl) ⟨n, sl, m⟩ c with
          | none => rfl
          | some q =>
            show runOps C R ns ops l q.n (putD' sl o.dst q.y) q.m = _
            rw [runOps_eq l, putD'_eq]
        | no => rfl
/-! Drawn regions -/
def rdS : Op → Option Nat
  | .load _ (.tmp t) => some t
  | .lookup _ (.tmp t) _ _ => some t
  | _ => none
def idsR (sl : Tr SV) (d : Option Nat) : List Nat := @Option.rec Nat (fun _ => List Nat) [] (fun t => idsOf2 (getS sl t)) d
theorem idsR_eq (sl : Tr SV) (op : Op) : idsR sl (rdS op) = readsOf (sOf sl) op := by
  unfold readsOf rdS
  split
  · exact congrArg idsOf2 (getS_eq sl _)
  · exact congrArg idsOf2 (getS_eq sl _)
  · rfl
def purC (C : Cfg) (m : Tr CB) (ev : Operand → Option SV) (i : In2) : Option SV :=
  @In2.rec (fun _ => Option SV) (fun f => f m ev) (fun _ => none) (fun c => xR C.T C.Q C.M m ev (.call c)) none i
theorem purC_eq {m : Tr CB} {ev : Operand → Option SV} {op : Op} (h : plainS op = true) : purC C m ev (dec2 C op) = pureF C.T C.Q C.M m ev op := by
  rw [pureF_eq]
  cases op with
  | binOp op t x y ty => exact fBin2_eq
  | _ => first
    | rfl
    | cases h
abbrev Dt := Nat → Tr SV → Tr CB → Option (List En × CS)
def consE (e : En) (x : Option (List En × CS)) : Option (List En × CS) := @Option.rec (List En × CS) (fun _ => Option (List En × CS)) none (fun p => @Prod.rec (List En) CS (fun _ => Option (List En × CS)) (fun es s2 => some (e :: es, s2)) p) x
def dVal (ih : Dt) (d : Option Nat) (n : Nat) (sl : Tr SV) (m : Tr CB) (ids : List Nat) (v : Option SV) : Option (List En × CS) :=
  @Option.rec SV (fun _ => Option (List En × CS)) none (fun y => consE ⟨.pure y ids, ⟨n, sl, m⟩, ⟨n, putD' sl d y, m⟩⟩ (ih n (putD' sl d y) m)) v
def dRes (ih : Dt) (d : Option Nat) (n : Nat) (sl : Tr SV) (m : Tr CB) (v : Option Rs) : Option (List En × CS) :=
  @Option.rec Rs (fun _ => Option (List En × CS)) none (fun q => @Rs.rec (fun _ => Option (List En × CS)) (fun y n2 m2 => consE ⟨.exact y, ⟨n, sl, m⟩, ⟨n2, putD' sl d y, m2⟩⟩ (ih n2 (putD' sl d y) m2)) q) v
def dStep (C : Cfg) (R : Runner) (ns : Nat) (ops : Array Oper) (o : Oper) (ih : Dt) (n : Nat) (sl : Tr SV) (m : Tr CB) : Option (List En × CS) :=
  @Option.rec Bool (fun _ => Option (List En × CS)) none (fun b => @Bool.rec (fun _ => Option (List En × CS)) (consE ⟨.off, ⟨n, sl, m⟩, ⟨n, putD' sl o.dst (.tup []), m⟩⟩ (ih n (putD' sl o.dst (.tup [])) m))
    (@Bool.rec (fun _ => Option (List En × CS)) (dRes ih o.dst n sl m (runI C R (evR (slotsOf o.op) ns (sOf sl)) ⟨n, sl, m⟩ (dec2 C o.op)))
      (dVal ih o.dst n sl m (idsR sl (rdS o.op)) (purC C (memC m (idsR sl (rdS o.op))) (evR (slotsOf o.op) ns (sOf sl)) (dec2 C o.op))) (plainS o.op)) b) (gFF ops ns sl m o)
def runDr (C : Cfg) (R : Runner) (ns : Nat) (ops : Array Oper) (l : List Oper) : Dt :=
  @List.rec Oper (fun _ => Dt) (fun n sl m => some ([], ⟨n, sl, m⟩)) (fun o _ ih => dStep C R ns ops o ih) l
theorem consE_eq (e : En) (x : Option (List En × CS)) : consE e x = (match x with
    | some (es, s2) => some (e :: es, s2)
    | none => none) := by
  cases x with
  | none => rfl
  | some p => rfl
theorem runDr_eq {ns : Nat} {ops : Array Oper} : ∀ (l : List Oper) (n : Nat) (sl : Tr SV) (m : Tr CB), runDr C R ns ops l n sl m = drOps C.P C.T C.Z C.Q C.M C.K R ns ops l ⟨n, sl, m⟩
  | [], n, sl, m => rfl
  | o :: l, n, sl, m => by
    show dStep C R ns ops o (runDr C R ns ops l) n sl m = _
    unfold dStep
    rw [gFF_eq ops ns ⟨n, sl, m⟩ o, drOps]
    cases gF ops ns ⟨n, sl, m⟩ o with
    | none => rfl
    | some b =>
      cases b with
      | false =>
        show consE _ (runDr C R ns ops l n (putD' sl o.dst (.tup [])) m) = _
        rw [consE_eq, runDr_eq l, putD'_eq]
      | true =>
        simp only
        cases hp : plainS o.op with
        | true =>
          show dVal (runDr C R ns ops l) o.dst n sl m (idsR sl (rdS o.op)) (purC C (memC m (idsR sl (rdS o.op))) (evR (slotsOf o.op) ns (sOf sl)) (dec2 C o.op)) = _
          rw [idsR_eq, purC_eq hp]
          simp only [cond_true]
          cases pureF C.T C.Q C.M (memC m (readsOf (sOf sl) o.op)) (evR (slotsOf o.op) ns (sOf sl)) o.op with
          | none => rfl
          | some y =>
            show consE _ (runDr C R ns ops l n (putD' sl o.dst y) m) = _
            rw [consE_eq, runDr_eq l, putD'_eq]
        | false =>
          show dRes (runDr C R ns ops l) o.dst n sl m (runI C R (evR (slotsOf o.op) ns (sOf sl)) ⟨n, sl, m⟩ (dec2 C o.op)) = _
          rw [runI_eq]
          simp only [cond_false]
          rw [doF_eq]
          cases doOp C.P C.T C.Z C.Q C.M C.K R (evR (slotsOf o.op) ns (sOf sl)) ⟨n, sl, m⟩ o with
          | none => rfl
          | some q =>
            show consE _ (runDr C R ns ops l q.n (putD' sl o.dst q.y) q.m) = _
            rw [consE_eq, runDr_eq l, putD'_eq]
/-! Code -/
abbrev Rt := Option (Exit × CS)
def doneF (x : Option CS) : Rt := @Option.rec CS (fun _ => Rt) none (fun s => some (.normal, s)) x
def drawF (ops : Array Oper) (x : Option (List En × CS)) : Rt :=
  @Option.rec (List En × CS) (fun _ => Rt) none (fun p => @Prod.rec (List En) CS (fun _ => Rt) (fun es s' => @Bool.rec (fun _ => Rt) none (some (.normal, s')) (stOk ops && okDyn (ancs ops.toList []) es)) p) x
def regF (C : Cfg) (R : Runner) (ns : Nat) (ops : Array Oper) (draw : Bool) (s : CS) : Rt :=
  @CS.rec (fun _ => Rt) (fun n sl m => @Bool.rec (fun _ => Rt) (doneF (runOps C R ns ops ops.toList n sl m)) (drawF ops (runDr C R ns ops ops.toList n sl m)) draw) s
theorem regF_eq {ns : Nat} {ops : Array Oper} {draw : Bool} {s : CS} : regF C R ns ops draw s = bReg C.P C.T C.Z C.Q C.M C.K R ns ops draw s := by
  cases s with
  | mk n sl m =>
    unfold bReg
    cases draw with
    | false =>
      show doneF (runOps C R ns ops ops.toList n sl m) = _
      rw [runOps_eq]
      simp only [cond_false]
      cases doOps C.P C.T C.Z C.Q C.M C.K R ns ops ops.toList ⟨n, sl, m⟩ <;> rfl
    | true =>
      show drawF ops (runDr C R ns ops ops.toList n sl m) = _
      rw [runDr_eq]
      simp only [cond_true]
      cases drOps C.P C.T C.Z C.Q C.M C.K R ns ops ops.toList ⟨n, sl, m⟩ with
      | none => rfl
      | some p =>
        show @Bool.rec (fun _ => Rt) none (some (.normal, p.2)) (stOk ops && okDyn (ancs ops.toList []) p.1) = _
        rw [rec_cond]
def condF (R : Runner) (r : Option Nat) (ns : Nat) (c : Operand) (a b : Code) (s : CS) : Rt := match opF ns s.sl c with
    | some (.d (.val (.bool t))) => @Bool.rec (fun _ => Rt) (R r ns .no b s) (R r ns .no a s) t
    | _ => none
def rangeF (C : Cfg) (R : Runner) (r : Option Nat) (ns : Nat) (g : Operand) (ps : Array Tmp) (x y : Code) (s : CS) : Rt := bRange C.P C.T R r ns g ps x y s
def codeF (C : Cfg) (R : Runner) (r : Option Nat) (ns : Nat) (c : Code) (s : CS) : Rt :=
  @Code.rec (fun _ => Rt) (some (.normal, s)) (fun _ ops draw => regF C R ns ops draw s) (fun a b _ _ => onNormal (R r ns .no b) (R r ns .no a s)) (fun c a b _ _ => condF R r ns c a b s) (fun id c _ => bBlock id (R r ns .no c s))
    (fun c _ => R r ns (.lp c) c s) (fun g ps x y _ _ => rangeF C R r ns g ps x y s) (fun id => some (.exit id, s)) (fun c _ => R r ns (.sc c) c s) (fun _ => some (.normal, s)) (fun l => some (.goto l, s)) (some (.ret, s)) (fun _ => none) c
theorem codeF_eq {r : Option Nat} {ns : Nat} {c : Code} {s : CS} : codeF C R r ns c s = bodyC C.P C.T C.Z C.Q C.M C.K R r ns c s := by
  cases c with
  | region id ops draw => exact regF_eq
  | cond c a b =>
    show condF R r ns c a b s = bCond R r ns c a b s
    unfold condF bCond
    rw [opF_eq]
    split
    · rename_i t _; cases t <;> rfl
    · rfl
  | _ => rfl
def scF (R : Runner) (r : Option Nat) (ns : Nat) (c0 : Code) (x : Rt) : Rt := match x with
    | some (e, s1) => match e with
      | .goto l => match findLabel c0 l with
        | some rest => R r ns (.sc c0) rest s1
        | none => some (.goto l, s1)
      | e => some (e, s1)
    | none => none
def lpF (R : Runner) (r : Option Nat) (ns : Nat) (c0 : Code) (x : Rt) : Rt := match x with
    | some (e, s1) => match e with
      | .normal => R r ns (.lp c0) c0 s1
      | e => some (e, s1)
    | none => none
def bodyRF (C : Cfg) (R : Runner) : Runner := fun r ns cx c s =>
  @Ctx.rec (fun _ => Rt) (codeF C R r ns c s) (fun c0 => scF R r ns c0 (R r ns .no c s)) (fun c0 => lpF R r ns c0 (R r ns .no c s)) cx
theorem bodyRF_eq : bodyRF C R = bodyR C.P C.T C.Z C.Q C.M C.K R := by
  funext r ns cx c s
  cases cx with
  | no => exact codeF_eq
  | sc c0 => rfl
  | lp c0 => rfl
def runC (C : Cfg) (fuel : Nat) : Runner := @Nat.rec (fun _ => Runner) (fun _ _ _ _ _ => none) (fun _ ih => bodyRF C ih) fuel
def runR (P : Program) (T : Tab) (Z : ZTab) (Q : QTab) (M : MTab) (K : Known) (fuel : Nat) : Runner := runC ⟨P, T, Z, Q, M, K⟩ fuel
theorem runR_zero {P : Program} {T : Tab} {Z : ZTab} {Q : QTab} {M : MTab} {K : Known} : runR P T Z Q M K 0 = fun _ _ _ _ _ => none := rfl
theorem runR_succ {P : Program} {T : Tab} {Z : ZTab} {Q : QTab} {M : MTab} {K : Known} {n : Nat} : runR P T Z Q M K (n + 1) = bodyR P T Z Q M K (runR P T Z Q M K n) := by
  show bodyRF ⟨P, T, Z, Q, M, K⟩ (runR P T Z Q M K n) = _
  rw [bodyRF_eq]
end Go.Proofs.Ytjjoiihgpkhndaa.Eng

/-
  The runner, part 3: what it says of operations and calls is so. No program is named here.
-/
noncomputable section
namespace Go.Proofs.Ytjjoiihgpkhndaa.Eng
open Go.RowKit
variable {P : Program} {T : Tab} {Z : ZTab} {Q : QTab} {M : MTab} {K : Known} {R : Runner} {r : Option Nat} {ns : Nat}

/-- It ends so, in that state. -/
def Is (e : Exit) (s' : CS) : Post := fun e2 n2 s2 => e2 = e ∧ n2 = s'.n ∧ s2 = s'.den
def WalkX (P : Program) (r : Option Nat) (ns : Nat) (c : Code) (n : Nat) (s : St) (Q : Post) : Ctx → Prop
  | .no => AWi P r ns c n s Q
  | .sc c0 => AWs P r ns c0 c n s Q
  | .lp c0 => AWl P r ns c0 c n s Q
structure Runs (P : Program) (r : Option Nat) (ns : Nat) (cx : Ctx) (c : Code) (s : CS) (e : Exit) (s' : CS) : Prop where
  walk : WalkX P r ns c s.n s.den (Is e s') cx
  n : s.n ≤ s'.n
  recs : Recs s.mem s'.mem
/-- What the runner says is so. -/
def SoundR (P : Program) (R : Runner) : Prop := ∀ r ns cx c s e s', okN ns = true → R r ns cx c s = some (e, s') → Runs P r ns cx c s e s'
/-- No function is one that counts threads. -/
def NoGor (P : Program) : Prop := ∀ (f : FuncId) fn, P.funcs[f]? = some fn → (fn.name == "runtime.NumGoroutine") = false
theorem okN_lt {n : Nat} (h : okN n = true) : n < 2 ^ deep := lt_deep h
def ResIs (q : Rs) : SV → Nat → Mem → Prop := fun y n' m' => y = q.y ∧ n' = q.n ∧ m' = mOf q.m
structure Calls2 (P : Program) (f : FuncId) (args : List SV) (n : Nat) (m : Tr CB) (q : Rs) : Prop where
  call : CWp P f args n (mOf m) (ResIs q)
  n : n ≤ q.n
  recs : Recs m q.m
theorem callFn_sound (hT : TabOk P T) (hN : NoGor P) (hR : SoundR P R) {f : FuncId} {args : List SV} {n : Nat} {m : Tr CB} {q : Rs} (h : callFn P T R f args n m = some q) : Calls2 P f args n m q := by
  unfold callFn at h
  rw [getA_eq] at h
  split at h
  · cases h
  rename_i fn hf
  split at h
  · cases h
  rename_i c hb
  cases hc : (Nat.ble args.length fn.ntmps && okN fn.ntmps && resOk fn.results.toList fn.ntmps) with
  | false => rw [hc] at h; cases h
  | true =>
    rw [hc] at h
    simp only [cond_true] at h
    simp only [Bool.and_eq_true] at hc
    obtain ⟨⟨c1, c2⟩, c3⟩ := hc
    have hl := Nat.le_of_ble_eq_true c1
    have hlt := okN_lt c2
    have fin : ∀ (e : Exit) (s' : CS) (xs : List SV), R none fn.ntmps .no c ⟨n, startT args 0 .lf, m⟩ = some (e, s') → (e = .normal ∨ e = .ret) → resSlots T s'.den fn.results.toList = some xs → q = ⟨retV xs, s'.n, s'.mem⟩ → Calls2 P f args n m q := by
      intro e s' xs hr he hx hq
      subst hq
      have h1 := hR none fn.ntmps .no c _ e s' c2 hr
      refine ⟨cwp_of hT hf (hN f fn hf) hb hl c3 ?_, h1.n, h1.recs⟩
      have h2 : AWi P none fn.ntmps c _ _ _ := h1.walk
      simp only [CS.den, sOf_start args (by omega)] at h2
      refine h2.mono ?_
      rintro e2 n2 s2 ⟨rfl, rfl, rfl⟩
      exact ⟨he, xs, hx, rfl, rfl, rfl⟩
    split at h
    · rename_i s' hr
      split at h
      · rename_i xs hx
        cases h
        exact fin _ s' xs hr (.inl rfl) hx rfl
      · cases h
    · rename_i s' hr
      split at h
      · rename_i xs hx
        cases h
        exact fin _ s' xs hr (.inr rfl) hx rfl
      · cases h
    · cases h
theorem Recs.upd {m : Tr CB} {id : Nat} {st : LoopState} {pe : Option Code} {k : Nat} {sl : Tr SV} {ps : Array Tmp} {x y : Code} (h : m.get id = some (.loop st pe k sl ps x y)) (hid : id < 2 ^ deep) (st' : LoopState) (pe' : Option Code) : Recs m (putM m id (some (.loop st' pe' k sl ps x y))) := fun i st2 pe2 k2 sl2 ps2 x2 y2 hh => by
  rw [putM, Tr.get_put deep m id hid]
  by_cases e : i = id
  · subst e
    rw [h] at hh
    cases hh
    exact ⟨st', pe', by rw [if_pos rfl]⟩
  · exact ⟨st2, pe2, by rw [if_neg e]; exact hh⟩
theorem get_putM {m : Tr CB} {i : Nat} {x : Option CB} (h : i < 2 ^ deep) (k : Nat) : (putM m i x).get k = if k = i then x else m.get k := Tr.get_put deep m i h k
structure Yields2 (P : Program) (id : Nat) (xs : List SV) (n : Nat) (m : Tr CB) (q : Rs) : Prop where
  call : YCall P (.yield id) xs n (mOf m) (ResIs q)
  n : n ≤ q.n
  recs : Recs m q.m
theorem callYl_sound (hR : SoundR P R) {id : Nat} {xs : List SV} {n : Nat} {m : Tr CB} {q : Rs} (h : callYl R id xs n m = some q) : Yields2 P id xs n m q := by
  unfold callYl at h
  split at h
  · rename_i pe k sl ps x y hg
    cases hc : (Nat.beq xs.length ps.size && ps.toList.all (fun t => Nat.ble (t + 1) k) && okN k && okN id) with
    | false => rw [hc] at h; cases h
    | true =>
      rw [hc] at h
      simp only [cond_true] at h
      simp only [Bool.and_eq_true, Nat.beq_eq] at hc
      obtain ⟨⟨⟨c1, c2⟩, c3⟩, c4⟩ := hc
      have hk := okN_lt c3
      have hid := okN_lt c4
      have hps : ∀ p ∈ ps.toList, p < k := fun p hp => Nat.le_of_ble_eq_true (List.all_eq_true.1 c2 p hp)
      split at h
      · rename_i s1 hr1
        have h1 := hR (some id) k .no x _ .normal s1 c3 hr1
        obtain ⟨st1, pe1', hg1⟩ := h1.recs id .ready pe k sl ps x y hg
        split at h
        · rename_i _ _ _ _ _ _ hg1'
          rw [hg1] at hg1'
          cases hg1'
          split at h
          · rename_i e s2 hr2
            have h2 := hR (some id) k .no y _ e s2 c3 hr2
            have hgb : (putM s1.mem id (some (.loop .busy pe1' k sl ps x y))).get id = some (.loop .busy pe1' k sl ps x y) := by rw [get_putM hid, if_pos rfl]
            obtain ⟨st2, pe2, hg2⟩ := h2.recs id _ _ _ _ _ _ _ hgb
            split at h
            · rename_i j pe2' _ _ _ _ _ hj hg2'
              rw [hg2] at hg2'
              cases hg2'
              cases h
              have r1 := Recs.upd hg1 hid .busy pe1'
              have r2 := Recs.upd hg2 hid (if j.isNone then .ready else .done) j
              refine ⟨?_, Nat.le_trans h1.n h2.n, ((h1.recs.trans r1).trans h2.recs).trans r2⟩
              have e1 : mOf m id = some (.loop .ready pe k (sOf sl) ps x y false) := mOf_get hg
              refine YCall.yield e1 c1 (List.all_eq_true.2 fun p hp => by simpa using hps p hp) ?_
              have w1 : AWi P (some id) k x _ _ _ := h1.walk
              simp only [CS.den, sOf_putAll ps.toList xs sl fun p hp => Nat.lt_trans (hps p hp) hk] at w1
              refine w1.mono ?_
              rintro e' n1 s1' ⟨rfl, rfl, rfl⟩
              refine ⟨rfl, pe1', mOf_get hg1, ?_⟩
              have w2 : AWi P (some id) k y _ _ _ := h2.walk
              simp only [CS.den, mOf_put hid] at w2
              refine w2.mono ?_
              rintro e' n2 s2' ⟨rfl, rfl, rfl⟩
              refine ⟨j, pe2, hj, mOf_get hg2, rfl, rfl, ?_⟩
              simp only [CS.den, mOf_put hid]
              rfl
            · cases h
          · cases h
        · cases h
      · cases h
  · cases h
theorem evList_mono {ev ev' : Operand → Option SV} (h : ∀ x v, ev x = some v → ev' x = some v) : ∀ {l : List Operand} {vs : List SV}, evList ev l = some vs → evList ev' l = some vs
  | [], _, e => e
  | x :: l, vs, e => by
    simp only [evList] at e ⊢
    split at e
    · rename_i v r h1 h2
      cases e
      rw [h x v h1, evList_mono h h2]
    · cases e
theorem calleeC_fn {ev : Operand → Option SV} {s : St} (h : ∀ x v, ev x = some v → opd ns s x = some v) {op : Op} {f : FuncId} {l : List SV} (hc : calleeC ev op = .fn f l) : calleeS ns s op = some (f, l) := by
  unfold calleeC at hc
  split at hc
  · rename_i c
    split at hc
    · cases hc
    · rename_i g hcal
      split at hc
      · rename_i l' hl
        cases hc
        simp only [calleeS, hcal, evList_mono h hl]
      · cases hc
    · rename_i t hcal
      split at hc
      · rename_i g us vs l' h1 hl
        cases hc
        simp only [calleeS, hcal, h _ _ h1, evList_mono h hl]
      · cases hc
      · cases hc
    · cases hc
  · cases hc
  · cases hc
theorem calleeC_yl {ev : Operand → Option SV} {s : St} (h : ∀ x v, ev x = some v → opd ns s x = some v) {op : Op} {id : Nat} {l : List SV} (hc : calleeC ev op = .yl id l) : calleeV ns s op = some (.yield id, l) := by
  unfold calleeC at hc
  split at hc
  · rename_i c
    split at hc
    · cases hc
    · split at hc <;> cases hc
    · rename_i t hcal
      split at hc
      · cases hc
      · rename_i i l' h1 hl
        cases hc
        simp only [calleeV, hcal, h _ _ h1, evList_mono h hl]
      · cases hc
    · cases hc
  · cases hc
  · cases hc
theorem calleeC_plain {ev : Operand → Option SV} {o : Oper} (hc : calleeC ev o.op = .plain) : ∀ c, o.op ≠ .defer c := fun c e => by
  rw [e] at hc
  cases hc
theorem same1_eq {x y : SV} (h : same1 x y = true) : x = y := by
  unfold same1 at h
  split at h <;> simp_all
theorem sameL_eq {f : SV → SV → Bool} (hf : ∀ x y, f x y = true → x = y) : ∀ {l k : List SV}, sameL f l k = true → l = k
  | [], [], _ => rfl
  | [], _ :: _, h => by cases h
  | _ :: _, [], h => by cases h
  | x :: l, y :: k, h => by
    simp only [sameL, Bool.and_eq_true] at h
    rw [hf x y h.1, sameL_eq hf h.2]
theorem same2_eq {x y : SV} (h : same2 x y = true) : x = y := by
  unfold same2 at h
  split at h
  · simp only [Bool.and_eq_true, Nat.beq_eq] at h
    rw [h.1.1, sameL_eq (fun _ _ => same1_eq) h.1.2, sameL_eq (fun _ _ => same1_eq) h.2]
  · exact same1_eq h
theorem sameA_eq {x y : SV} (h : sameA x y = true) : x = y := by
  unfold sameA at h
  split at h
  · rw [sameL_eq (fun _ _ => same2_eq) h]
  · exact same2_eq h
theorem same3_eq {x y : SV} (h : same3 x y = true) : x = y := by
  unfold same3 at h
  split at h
  · rw [sameL_eq (fun _ _ => sameA_eq) h]
  · exact sameA_eq h
theorem sameT_eq : ∀ {x y : Tr SV}, sameT x y = true → x = y
  | .lf, .lf, _ => rfl
  | .nd none l r, .nd none l' r', h => by
    simp only [sameT, Bool.and_eq_true] at h
    rw [sameT_eq h.1, sameT_eq h.2]
  | .nd (some x) l r, .nd (some y) l' r', h => by
    simp only [sameT, Bool.and_eq_true] at h
    rw [same3_eq h.1.1, sameT_eq h.1.2, sameT_eq h.2]
  | .lf, .nd _ _ _, h => by simp [sameT] at h
  | .nd _ _ _, .lf, h => by simp [sameT] at h
  | .nd none _ _, .nd (some _) _ _, h => by simp [sameT] at h
  | .nd (some _) _ _, .nd none _ _, h => by simp [sameT] at h
theorem sameE_eq : ∀ {l k : List (List Int × SV × Nat)}, sameE l k = true → l = k
  | [], [], _ => rfl
  | [], _ :: _, h => by cases h
  | _ :: _, [], h => by cases h
  | (a, x, b) :: l, (a', y, b') :: k, h => by
    simp only [sameE, Bool.and_eq_true, Nat.beq_eq, decide_eq_true_eq] at h
    rw [h.1.1.1, same3_eq h.1.1.2, h.1.2, sameE_eq h.2]
theorem sameB_eq {x y : Option CB} (h : sameB x y = true) : x = y := by
  unfold sameB at h
  split at h
  · simp only [Bool.and_eq_true, Nat.beq_eq, beq_iff_eq] at h
    rw [h.1.1.1.1.1, h.1.1.1.1.2, h.1.1.1.2, sameL_eq (fun _ _ => same2_eq) h.1.1.2, sameT_eq h.1.2, h.2]
  · simp only [Bool.and_eq_true, Nat.beq_eq, beq_iff_eq, decide_eq_true_eq] at h
    rw [h.1.1.1, h.1.1.2, sameE_eq h.1.2, h.2]
  · rfl
  · cases h
theorem subTr_lf : ∀ {x : Tr CB}, subTr x .lf = true → ∀ i, x.get i = none
  | .lf, _, _ => rfl
  | .nd v l r, h, i => by
    simp only [subTr, Bool.and_eq_true, Option.isNone_iff_eq_none] at h
    obtain ⟨⟨h1, h2⟩, h3⟩ := h
    simp only [Tr.get_nd]
    split
    · exact h1
    · split
      · exact subTr_lf h2 _
      · exact subTr_lf h3 _
theorem subTr_get : ∀ {x y : Tr CB}, subTr x y = true → ∀ i c, x.get i = some c → y.get i = some c
  | .lf, _, _, i, c, hc => by simp [Tr.get_lf] at hc
  | .nd v l r, .lf, h, i, c, hc => by rw [subTr_lf h i] at hc; cases hc
  | .nd v l r, .nd v' l' r', h, i, c, hc => by
    simp only [subTr, Bool.and_eq_true] at h
    obtain ⟨⟨h1, h2⟩, h3⟩ := h
    simp only [Tr.get_nd] at hc ⊢
    split at hc
    · rename_i e
      rw [if_pos e]
      subst hc
      exact (sameB_eq h1).symm
    · rename_i e
      rw [if_neg e]
      split at hc
      · rename_i e; rw [if_pos e]; exact subTr_get h2 _ _ hc
      · rename_i e; rw [if_neg e]; exact subTr_get h3 _ _ hc
theorem eqTr_get {x y : Tr CB} (h : eqTr x y = true) (i : Nat) : x.get i = y.get i := by
  unfold eqTr at h
  rw [Bool.and_eq_true] at h
  cases hx : x.get i with
  | some c => exact (subTr_get h.1 i c hx).symm
  | none =>
    cases hy : y.get i with
    | none => rfl
    | some c => rw [subTr_get h.2 i c hy] at hx; cases hx
/-- What is known is so. -/
structure KnownOk (P : Program) (K : Known) : Prop where
  ents : ∀ e ∈ K.ents, Calls2 P e.f e.args e.n e.m e.q
  closed : ∀ c ∈ K.closed, ACall P c.1 [] (.val c.2)
  sums : ∀ f g, K.sums f = some g → ∀ args n m q, g args n m = some q → Calls2 P f args n m q
theorem cwp_closed {f : FuncId} {v : Value} (h : ACall P f [] (.val v)) (n : Nat) (m : Mem) : CWp P f [] n m fun y n' m' => y = .d (.val v) ∧ n' = n ∧ m' = m :=
  ⟨h.callable, fun W0 R0 E w vs M hsz hrep => by
    refine (h.calls E.ro w vs M.rlt (by simpa using hsz) (by simp)).mono ?_
    rintro e w' ⟨u, rfl, hb, hr⟩
    let E2 : Env := { E with ro := fun b => E.ro b ∨ (w.heap.size ≤ b ∧ b < w'.heap.size) }
    have hE : E.le E2 := ⟨fun _ h => .inl h, fun _ h => h, fun _ _ => rfl⟩
    have hUlt : ∀ b, W0.U b → b < w.heap.size := fun b hb => Nat.lt_of_lt_of_le (W0.lt b hb) M.below.size
    have hro : ∀ b, E.ro b → w'.heap[b]? = w.heap[b]? := fun b hb' => hb.block b (M.rlt b hb')
    refine ⟨u, E2, n, m, .d (.val v), rfl, ⟨M.below.trans (kept_of hb hUlt), fun b hb => .inl (M.ro0 b hb), fun b hb' => ?_, fun b hb' => ?_, M.dom, M.live, fun i b hi => (M.mem i b hi).keep hE hro (hb.block _ (M.mem i b hi).lt), M.base, fun i b hi => ?_, M.inj⟩, hE, hro, .d _ _ hr, rfl, rfl, rfl⟩
    · rcases hb' with h1 | h1
      · exact M.ro1 b h1
      · exact .inr fun h2 => by have := hUlt b h2; omega
    · rcases hb' with h1 | h1
      · exact Nat.lt_of_lt_of_le (M.rlt b h1) hb.size
      · exact h1.2
    · refine (M.frz i b hi).trans ⟨fun h => .inl h, fun h1 => ?_⟩
      rcases h1 with h1 | h1
      · exact h1
      · have h3 : (E.home i).blk < w.heap.size := (M.mem i b hi).lt
        have h4 : w.heap.size ≤ (E.home i).blk := h1.1
        omega⟩
theorem findC_mem {f : FuncId} : ∀ {l : List (FuncId × Value)} {v : Value}, findC f l = some v → (f, v) ∈ l
  | [], _, h => by cases h
  | (g, u) :: l, v, h => by
    simp only [findC, beq_nat, cond_eq_ite, decide_eq_true_eq] at h
    split at h
    · rename_i e; subst e; cases h; exact List.mem_cons_self
    · exact List.mem_cons_of_mem _ (findC_mem h)
theorem findE_mem {n : Nat} : ∀ {l : List Ent} {e : Ent}, findE n l = some e → e ∈ l ∧ e.n = n
  | [], _, h => by cases h
  | g :: l, e, h => by
    simp only [findE, beq_nat, cond_eq_ite, decide_eq_true_eq] at h
    split at h
    · rename_i e; cases h; exact ⟨List.mem_cons_self, e⟩
    · exact ⟨List.mem_cons_of_mem _ (findE_mem h).1, (findE_mem h).2⟩
theorem noLoop_get : ∀ {x : Tr CB}, noLoop x = true → ∀ i st pe k sl ps a b, x.get i ≠ some (.loop st pe k sl ps a b)
  | .lf, _, _, _, _, _, _, _, _, _ => by simp [Tr.get_lf]
  | .nd v l r, h, i, st, pe, k, sl, ps, a, b => by
    simp only [noLoop, Bool.and_eq_true] at h
    obtain ⟨⟨h1, h2⟩, h3⟩ := h
    simp only [Tr.get_nd]
    split
    · intro e; rw [e] at h1; simp at h1
    · split
      · exact noLoop_get h2 _ _ _ _ _ _ _ _
      · exact noLoop_get h3 _ _ _ _ _ _ _ _
theorem top_get {α : Type} (t : Tr α) : t.get 0 = t.top := by cases t <;> rfl
theorem left_get {α : Type} (t : Tr α) (i : Nat) (h0 : i ≠ 0) (h : i % 2 = 1) : t.get i = t.left.get (i / 2) := by
  cases t with
  | lf => rfl
  | nd v l r => rw [Tr.get_nd, if_neg h0, if_pos h]; rfl
theorem right_get {α : Type} (t : Tr α) (i : Nat) (h0 : i ≠ 0) (h : ¬ i % 2 = 1) : t.get i = t.right.get (i / 2 - 1) := by
  cases t with
  | lf => rfl
  | nd v l r => rw [Tr.get_nd, if_neg h0, if_neg h]; rfl
theorem frameT_get {α : Type} : ∀ (m m0 mq : Tr α) (i : Nat), (frameT m m0 mq).get i = pk (m.get i) (m0.get i) (mq.get i)
  | .lf, m0, mq, i => by
    simp only [frameT, Tr.get_lf, pk]
    split <;> rfl
  | .nd v l r, m0, mq, i => by
    simp only [frameT]
    rw [Tr.get_nd]
    by_cases h0 : i = 0
    · subst h0
      rw [if_pos rfl, top_get, top_get, top_get]
      rfl
    · rw [if_neg h0]
      by_cases h : i % 2 = 1
      · rw [if_pos h, frameT_get l, left_get _ i h0 h, left_get m0 i h0 h, left_get mq i h0 h]
        rfl
      · rw [if_neg h, frameT_get r, right_get _ i h0 h, right_get m0 i h0 h, right_get mq i h0 h]
        rfl
theorem cwp_more {f : FuncId} {args : List SV} {n : Nat} {m0 m : Tr CB} {q : Rs} (h : CWp P f args n (mOf m0) (ResIs q)) (hm : ∀ i b, mOf m0 i = some b → mOf m i = some b) : CWp P f args n (mOf m) (ResIs ⟨q.y, q.n, frameT m m0 q.m⟩) :=
  ⟨h.callable, fun W0 R0 E w vs M h1 h2 => by
    let W1 : Fix := { w := w, U := fun b => b < w.heap.size ∧ ∀ i c, mOf m0 i = some c → (E.home i).blk ≠ b, lt := fun _ h => h.1, g := fun _ => undef }
    have hU : ∀ b, W0.U b → W1.U b := fun b hb => ⟨Nat.lt_of_lt_of_le (W0.lt b hb) M.below.size, fun i c hi e => M.base i c (hm i c hi) (e ▸ hb)⟩
    have hUn : ∀ i b, mOf m i = some b → mOf m0 i = none → W1.U (E.home i).blk := fun i b hi hn => ⟨(M.mem i b hi).lt, fun j c hj => M.inj j i c b (hm j c hj) hi fun e => by rw [e, hn] at hj; cases hj⟩
    have M1 : MS W1 E.ro (· < n) (mOf m0) E w := ⟨Kept.refl _ _, fun _ h => h, fun _ h => .inl h, M.rlt, M.dom, fun i b hi => M.live i b (hm i b hi), fun i b hi => M.mem i b (hm i b hi), fun i b hi h => h.2 i b hi rfl, fun i b hi => M.frz i b (hm i b hi), fun i j b c hi hj hn => M.inj i j b c (hm i b hi) (hm j c hj) hn⟩
    refine (h.calls W1 E.ro E w vs M1 h1 h2).mono ?_
    rintro e w' ⟨v, E', n', m', y, rfl, M2, hE, hw, hv, rfl, rfl, rfl⟩
    have hro : ∀ b, E'.ro b → E.ro b ∨ ¬ W1.U b := M2.ro1
    have cases_ : ∀ i b, mOf (frameT m m0 q.m) i = some b → mOf q.m i = some b ∨ (mOf m i = some b ∧ mOf m0 i = none) := fun i b hb => by
      simp only [mOf, frameT_get] at hb ⊢
      unfold pk at hb
      split at hb
      · exact .inl hb
      · rename_i h0
        split at hb
        · rename_i c hc
          exact .inr ⟨by rw [hc]; exact hb, by rw [h0]; rfl⟩
        · exact .inl hb
    refine ⟨v, E', q.n, mOf (frameT m m0 q.m), q.y, rfl, ⟨M.below.trans (M2.below.mono hU), fun b hb => hE.ro b (M.ro0 b hb), fun b hb => ?_, M2.rlt, M2.dom, fun i b hi => ?_, fun i b hi => ?_, fun i b hi => ?_, fun i b hi => ?_, fun i j b c hi hj hn => ?_⟩, hE, hw, hv, rfl, rfl, rfl⟩
    · rcases hro b hb with h3 | h3
      · exact M.ro1 b h3
      · exact .inr fun h4 => h3 (hU b h4)
    · rcases cases_ i b hi with h3 | ⟨h3, _⟩
      · exact M2.live i b h3
      · exact hE.dom i (M.live i b h3)
    · rcases cases_ i b hi with h3 | ⟨h3, hn⟩
      · exact M2.mem i b h3
      · rw [hE.home i (M.live i b h3)]
        exact (M.mem i b h3).keep hE hw (M2.below.block _ (hUn i b h3 hn))
    · rcases cases_ i b hi with h3 | ⟨h3, _⟩
      · exact fun h4 => M2.base i b h3 (hU _ h4)
      · rw [hE.home i (M.live i b h3)]
        exact M.base i b h3
    · rcases cases_ i b hi with h3 | ⟨h3, hn⟩
      · exact M2.frz i b h3
      · rw [hE.home i (M.live i b h3)]
        refine (M.frz i b h3).trans ⟨fun h => hE.ro _ h, fun h => ?_⟩
        rcases hro _ h with h4 | h4
        · exact h4
        · exact absurd (hUn i b h3 hn) h4
    · rcases cases_ i b hi with h3 | ⟨h3, hn3⟩
      · rcases cases_ j c hj with h4 | ⟨h4, hn4⟩
        · exact M2.inj i j b c h3 h4 hn
        · rw [hE.home j (M.live j c h4)]
          exact fun e => M2.base i b h3 (e ▸ hUn j c h4 hn4)
      · rcases cases_ j c hj with h4 | ⟨h4, hn4⟩
        · rw [hE.home i (M.live i b h3)]
          exact fun e => M2.base j c h4 (e ▸ hUn i b h3 hn3)
        · rw [hE.home i (M.live i b h3), hE.home j (M.live j c h4)]
          exact M.inj i j b c h3 h4 hn⟩
theorem callK_sound (hT : TabOk P T) (hK : KnownOk P K) (hN : NoGor P) (hR : SoundR P R) {f : FuncId} {args : List SV} {n : Nat} {m : Tr CB} {q : Rs} (h : callK P T K R f args n m = some q) : Calls2 P f args n m q := by
  unfold callK at h
  split at h
  · rename_i v hv
    split at h
    · cases h
      exact ⟨cwp_closed (hK.closed _ (findC_mem hv)) n (mOf m), Nat.le_refl _, Recs.refl _⟩
    · cases h
  · split at h
    · rename_i g hg
      exact hK.sums f g hg args n m q h
    split at h
    · rename_i e he
      obtain ⟨h1, h2⟩ := findE_mem he
      cases hc : (Nat.beq e.f f && sameL same3 args e.args && subTr e.m m && noLoop e.m) with
      | false => rw [hc] at h; exact callFn_sound hT hN hR h
      | true =>
        rw [hc] at h
        cases h
        simp only [Bool.and_eq_true, Nat.beq_eq] at hc
        obtain ⟨⟨⟨c1, c2⟩, c3⟩, c4⟩ := hc
        have hg := subTr_get c3
        have hm : ∀ i b, mOf e.m i = some b → mOf m i = some b := fun i b hb => by
          simp only [mOf, Option.map_eq_some_iff] at hb ⊢
          obtain ⟨c, hc, rfl⟩ := hb
          exact ⟨c, hg i c hc, rfl⟩
        have H := hK.ents e h1
        rw [c1, h2, ← sameL_eq (fun _ _ => same3_eq) c2] at H
        refine ⟨cwp_more H.call hm, H.n, fun id st pe k sl ps x y hh => ⟨st, pe, ?_⟩⟩
        rw [frameT_get]
        cases h0 : e.m.get id with
        | none => simp only [pk, hh]
        | some c =>
          have := hg id c h0
          rw [hh] at this
          cases this
          exact absurd h0 (noLoop_get c4 id st pe k sl ps x y)
    · exact callFn_sound hT hN hR h
/-- Less may be told of memory behind a call. -/
theorem Calls2.less {f : FuncId} {args : List SV} {n : Nat} {m : Tr CB} {q q' : Rs} (h : Calls2 P f args n m q) (hy : q'.y = q.y) (hn : q'.n = q.n) (hm : ∀ i b, mOf q'.m i = some b → mOf q.m i = some b) (hr : Recs m q'.m) : Calls2 P f args n m q' := by
  refine ⟨⟨h.call.callable, fun W0 R0 E w vs M h1 h2 => (h.call.calls W0 R0 E w vs M h1 h2).mono ?_⟩, by rw [hn]; exact h.n, hr⟩
  rintro e w' ⟨v, E', n', m', y, rfl, M2, hE, hk, hv, rfl, rfl, rfl⟩
  exact ⟨v, E', q'.n, mOf q'.m, q'.y, rfl, ⟨M2.below, M2.ro0, M2.ro1, M2.rlt, fun i hi => by rw [hn]; exact M2.dom i hi, fun i b hi => M2.live i b (hm i b hi), fun i b hi => M2.mem i b (hm i b hi), fun i b hi => M2.base i b (hm i b hi), fun i b hi => M2.frz i b (hm i b hi), fun i j b c hi hj hne => M2.inj i j b c (hm i b hi) (hm j c hj) hne⟩, hE, hk, by rw [hy]; exact hv, rfl, rfl, rfl⟩
/-- A step that ends in one state. -/
def StepIs (P : Program) (r : Option Nat) (ns n : Nat) (s : St) (o : Oper) (q : Rs) : Prop := StepI P r ns n s o fun n2 s2 => n2 = q.n ∧ s2 = ⟨setSlot s.slots o.dst q.y, mOf q.m⟩
structure Does (P : Program) (ns : Nat) (ev : Operand → Option SV) (s : CS) (o : Oper) (q : Rs) : Prop where
  step : ∀ (r : Option Nat) (s' : St), s'.mem = mOf s.mem → (∀ x v, ev x = some v → opd ns s' x = some v) → StepIs P r ns s.n s' o q
  n : s.n ≤ q.n
  recs : Recs s.mem q.m
theorem doOp_sound (hT : TabOk P T) (hZ : ZTabOk T Z) (hQ : QTabOk P Q) (hM : MTabOk P M) (hK : KnownOk P K) (hN : NoGor P) (hR : SoundR P R) {ev : Operand → Option SV} {s : CS} {o : Oper} {q : Rs} (h : doOp P T Z Q M K R ev s o = some q) : Does P ns ev s o q := by
  unfold doOp at h
  split at h
  · rename_i hc
    have hdf := calleeC_plain hc
    cases hw : isW o.op with
    | true =>
      rw [hw] at h
      simp only [cond_true] at h
      split at h
      · rename_i x m' hx
        cases h
        have hrec : Recs s.mem m' := xW_recs hx
        refine ⟨fun r s' hm hev W0 R0 B E a w hi hs hd K1 Q' hK1 => ?_, Nat.le_succ _, hrec⟩
        obtain ⟨⟨E', w', h1, h2⟩, _⟩ := xW_run hT hZ hM hs hm (nid := s.n) (by omega) (fun x v hx => hs.opd (hev x v hx)) hx
        refine oper_in hdf ?_
        unfold Oper.wp
        rcases h2 with ⟨v, hr, hv⟩ | ⟨hr, hu⟩
        · rw [hr]
          exact hK1 _ _ E' _ w' ⟨rfl, rfl⟩ ((h1.weak (D' := (· < s.n + 1)) fun i hi => by omega).put hd hv)
        · rw [hr]
          have := (h1.weak (D' := (· < s.n + 1)) fun i hi => by omega).put hd (Rep.und (E := E') (w := w') undef)
          exact hK1 _ _ E' _ w' ⟨rfl, by rw [hu]⟩ this
      · cases h
    | false =>
      rw [hw] at h
      simp only [cond_false] at h
      split at h
      · rename_i x hx
        cases h
        refine ⟨fun r s' hm hev W0 R0 B E a w hi hs hd K1 Q' hK1 => ?_, Nat.le_refl _, Recs.refl _⟩
        refine oper_in hdf (PureStep.wp (P := P) (s := s') (x := x) (fun W0 R0 D E a w hs => xR_run hT hQ hM (fun x v hx => hs.opd (hev x v hx)) (fun i b hi => hs.mem i b (by rw [hm]; exact hi)) hx) hs hd fun a' hs' => ?_)
        exact hK1 _ ⟨setSlot s'.slots o.dst x, mOf s.mem⟩ E _ w ⟨rfl, rfl⟩ (by rw [hm] at hs'; exact hs')
      · cases h
  · rename_i f l hc
    have h1 := callK_sound hT hK hN hR h
    refine ⟨fun r s' hm hev => ?_, h1.n, h1.recs⟩
    have h2 := stepI_call (r := r) (n := s.n) (calleeC_fn hev hc) (by rw [hm]; exact h1.call)
    exact fun W0 R0 B E a w hi hs hd K1 Q' hK1 => h2 W0 R0 B E a w hi hs hd K1 Q' fun n2 s2 E' a' w' ⟨y, m2, ⟨e1, e2, e3⟩, e4⟩ hs2 => hK1 n2 s2 E' a' w' ⟨e2, by rw [e4, e1, e3]⟩ hs2
  · rename_i id l hc
    have h1 := callYl_sound hR h
    refine ⟨fun r s' hm hev => ?_, h1.n, h1.recs⟩
    have h2 := h1.call r ns s' o hm (calleeC_yl hev hc)
    exact fun W0 R0 B E a w hi hs hd K1 Q' hK1 => h2 W0 R0 B E a w hi hs hd K1 Q' fun n2 s2 E' a' w' ⟨y, m2, ⟨e1, e2, e3⟩, e4⟩ hs2 => hK1 n2 s2 E' a' w' ⟨e2, by rw [e4, e1, e3]⟩ hs2
  · cases h
end Go.Proofs.Ytjjoiihgpkhndaa.Eng

/-
  The runner, part 4: what it says of regions and code is so. No program is named here.
-/
noncomputable section
namespace Go.Proofs.Ytjjoiihgpkhndaa.Eng
open Go.RowKit
variable {P : Program} {T : Tab} {Z : ZTab} {Q : QTab} {M : MTab} {K : Known} {R : Runner} {r : Option Nat} {ns : Nat}

theorem sOf_dst {s : CS} {ops : Array Oper} {o : Oper} {b : Bool} (hns : okN ns = true) (hg : guardS ops ns s.den o = some b) (x : SV) : sOf (putD s.sl o.dst x) = setSlot (sOf s.sl) o.dst x :=
  sOf_putD fun i hi => Nat.lt_trans (guardS_dst hg i hi) (okN_lt hns)
theorem doOps_sound (hT : TabOk P T) (hZ : ZTabOk T Z) (hQ : QTabOk P Q) (hM : MTabOk P M) (hK : KnownOk P K) (hN : NoGor P) (hR : SoundR P R) (hns : okN ns = true) {ops : Array Oper} : ∀ (l : List Oper) (s : CS) {s' : CS}, doOps P T Z Q M K R ns ops l s = some s' →
    s.n ≤ s'.n ∧ Recs s.mem s'.mem ∧ ∀ {W0 : Fix} {R0 : Nat → Prop} {B : Nat} {E : Env} {a : Act} {w : World} {Q : Exit → Act → World → Prop}, InAct r W0 R0 B → Sim W0 R0 ns (· < s.n) s.den E a w → (∀ E' a' w', Sim W0 R0 ns (· < s'.n) s'.den E' a' w' → Q .normal a' w') → wpListIn (fen (rOf W0 r)) 0 P ops Q l a w
  | [], s, s', h => by
    cases h
    exact ⟨Nat.le_refl _, Recs.refl _, fun _ hs hQ => hQ _ _ _ hs⟩
  | o :: l, s, s', h => by
    simp only [doOps, doF_eq, gF_eq] at h
    split at h
    · rename_i hg
      split at h
      · rename_i q hq
        have h1 := doOp_sound hT hZ hQ hM hK hN hR (ns := ns) hq
        obtain ⟨i1, i2, i3⟩ := doOps_sound hT hZ hQ hM hK hN hR hns l _ h
        refine ⟨Nat.le_trans h1.n i1, h1.recs.trans i2, fun {W0 R0 B E a w Q} hi hs hQ => wpListIn_step fun K hK => ?_⟩
        rw [guard_ok hs hg, if_pos rfl]
        refine h1.step r s.den rfl (fun x v hx => hx) _ _ _ _ _ _ hi hs (guardS_dst hg) K _ fun n2 s2 E' a' w' hG hs2 => hK _ _ (i3 (E := E') hi ?_ hQ)
        obtain ⟨rfl, rfl⟩ := hG
        simp only [CS.den, sOf_dst hns hg]
        exact hs2
      · cases h
    · rename_i hg
      obtain ⟨i1, i2, i3⟩ := doOps_sound hT hZ hQ hM hK hN hR hns l _ h
      refine ⟨i1, i2, fun {W0 R0 B E a w Q} hi hs hQ => wpListIn_step fun K hK => ?_⟩
      rw [guard_ok hs hg, if_neg (by simp)]
      refine ⟨fun f _ => fen_fn _ f, hK _ _ (i3 (E := E) hi ?_ hQ)⟩
      simp only [CS.den, sOf_dst hns hg]
      exact hs.put (guardS_dst hg) rep_no
    · cases h

/-! ### Drawn regions -/
theorem evR_slots {L : List Nat} {f : Nat → SV} {s : St} (h : ∀ t ∈ L, s.slots t = f t) : ∀ x v, evR L ns f x = some v → opd ns s x = some v := fun x v hx => by
  cases x with
  | tmp t =>
    simp only [evR] at hx
    cases hc : (memN L t && Nat.ble (t + 1) ns) with
    | false => rw [hc] at hx; cases hx
    | true =>
      rw [hc] at hx
      rw [Bool.and_eq_true, memN_iff, Nat.ble_eq] at hc
      cases hx
      simp only [opd, if_pos (show t < ns from hc.2), h t hc.1]
  | const c => exact hx
  | global => cases hx
  | func => exact hx
theorem memC_sub {m : Tr CB} : ∀ {l : List Nat} {i : Nat} {b : Blk}, mOf (memC m l) i = some b → i ∈ l ∧ mOf m i = some b
  | [], i, b, h => by simp [memC, mOf, Tr.get_lf] at h
  | j :: l, i, b, h => by
    simp only [memC] at h
    cases hc : Nat.ble j 10000000 with
    | false => rw [hc] at h; exact ⟨List.mem_cons_of_mem _ (memC_sub h).1, (memC_sub h).2⟩
    | true =>
      rw [hc] at h
      simp only [cond_true, mOf_put (lt_deep hc), setMem] at h
      by_cases e : i = j
      · rw [if_pos e] at h
        subst e
        exact ⟨List.mem_cons_self, h⟩
      · rw [if_neg e] at h
        exact ⟨List.mem_cons_of_mem _ (memC_sub h).1, (memC_sub h).2⟩
/-- An entry tells what becomes of its operation. -/
structure EnOk (P : Program) (T : Tab) (Z : ZTab) (Q : QTab) (M : MTab) (K : Known) (R : Runner) (ns : Nat) (ops : Array Oper) (o : Oper) (e : En) : Prop where
  k : match e.k with
    | .off => guardS ops ns e.s.den o = some false ∧ e.s' = ⟨e.s.n, putD e.s.sl o.dst (.tup []), e.s.mem⟩
    | .pure x ids => guardS ops ns e.s.den o = some true ∧ plainP (evR (slotsOf o.op) ns (sOf e.s.sl)) o.op = true ∧ xR T Q M (memC e.s.mem ids) (evR (slotsOf o.op) ns (sOf e.s.sl)) o.op = some x ∧ e.s' = ⟨e.s.n, putD e.s.sl o.dst x, e.s.mem⟩
    | .exact y => guardS ops ns e.s.den o = some true ∧ ∃ q, doOp P T Z Q M K R (evR (slotsOf o.op) ns (sOf e.s.sl)) e.s o = some q ∧ y = q.y ∧ e.s' = ⟨q.n, putD e.s.sl o.dst q.y, q.m⟩
inductive Chain (P : Program) (T : Tab) (Z : ZTab) (Q : QTab) (M : MTab) (K : Known) (R : Runner) (ns : Nat) (ops : Array Oper) : List Oper → List En → CS → CS → Prop
  | nil (s) : Chain P T Z Q M K R ns ops [] [] s s
  | cons {o l e es sF} : EnOk P T Z Q M K R ns ops o e → Chain P T Z Q M K R ns ops l es e.s' sF → Chain P T Z Q M K R ns ops (o :: l) (e :: es) e.s sF
theorem drOps_chain {ops : Array Oper} : ∀ (l : List Oper) (s : CS) {es : List En} {sF : CS}, drOps P T Z Q M K R ns ops l s = some (es, sF) → Chain P T Z Q M K R ns ops l es s sF
  | [], s, es, sF, h => by cases h; exact .nil s
  | o :: l, s, es, sF, h => by
    simp only [drOps, doF_eq, gF_eq, pureF_eq] at h
    split at h
    · rename_i hg
      split at h
      · rename_i es' s2 hr
        cases h
        exact .cons (e := ⟨.off, s, _⟩) ⟨hg, rfl⟩ (drOps_chain l _ hr)
      · cases h
    · rename_i hg
      cases hp : plainS o.op with
      | true =>
        rw [hp] at h
        simp only [cond_true] at h
        split at h
        · rename_i x hx
          split at h
          · rename_i es' s2 hr
            cases h
            exact .cons (e := ⟨.pure x _, s, _⟩) ⟨hg, plainS_P hp _, hx, rfl⟩ (drOps_chain l _ hr)
          · cases h
        · cases h
      | false =>
        rw [hp] at h
        simp only [cond_false] at h
        split at h
        · rename_i q hq
          split at h
          · rename_i es' s2 hr
            cases h
            exact .cons (e := ⟨.exact q.y, s, _⟩) ⟨hg, q, hq, rfl, rfl⟩ (drOps_chain l _ hr)
          · cases h
        · cases h
    · cases h
/-- The state before operation k. -/
def stAt (es : List En) (sF : CS) (k : Nat) : CS := match es[k]? with
  | some e => e.s
  | none => sF
theorem chain_len {ops : Array Oper} {l : List Oper} {es : List En} {s sF : CS} (h : Chain P T Z Q M K R ns ops l es s sF) : es.length = l.length := by
  induction h with
  | nil => rfl
  | cons _ _ ih => simp [ih]
theorem chain_zero {ops : Array Oper} {l : List Oper} {es : List En} {s sF : CS} (h : Chain P T Z Q M K R ns ops l es s sF) : stAt es sF 0 = s := by
  cases h with
  | nil => rfl
  | cons => rfl
theorem chain_at {ops : Array Oper} {l : List Oper} {es : List En} {s sF : CS} (h : Chain P T Z Q M K R ns ops l es s sF) : ∀ (k : Nat) o, l[k]? = some o → ∃ e, es[k]? = some e ∧ EnOk P T Z Q M K R ns ops o e ∧ stAt es sF k = e.s ∧ stAt es sF (k + 1) = e.s' := by
  induction h with
  | nil => intro k o hk; simp at hk
  | @cons o l e es sF he hc ih =>
    intro k o' hk
    match k with
    | 0 =>
      simp only [List.getElem?_cons_zero, Option.some.injEq] at hk
      subst hk
      exact ⟨e, rfl, he, rfl, chain_zero hc⟩
    | k + 1 =>
      obtain ⟨e', h1, h2, h3, h4⟩ := ih k o' (by simpa using hk)
      exact ⟨e', by simpa using h1, h2, h3, h4⟩
theorem chain_end {ops : Array Oper} {l : List Oper} {es : List En} {s sF : CS} (h : Chain P T Z Q M K R ns ops l es s sF) : stAt es sF l.length = sF := by
  unfold stAt
  rw [List.getElem?_eq_none (by rw [chain_len h]; omega)]
def kdOf (es : List En) (k : Nat) : Kd := match es[k]? with
  | some e => match e.k with
    | .off => .off
    | .pure x ids => .pure x ids
    | .exact y => .exact y e.s'.n (mOf e.s'.mem)
  | none => .off
theorem okAfter_spec {i : Nat} {a : En} : ∀ {bs : List Nat} {es : List En}, okAfter i a bs es = true → es.length ≤ bs.length → ∀ (q : Nat) e, es[q]? = some e → ∃ b, bs[q]? = some b ∧ pairOk b i a e = true
  | [], [], _, _, q, e, h => by simp at h
  | [], _ :: _, _, hl, _, _, _ => by simp at hl
  | _ :: _, [], _, _, q, e, h => by simp at h
  | b :: bs, e :: es, h, hl, q, f, hq => by
    simp only [okAfter, Bool.and_eq_true] at h
    match q with
    | 0 =>
      simp only [List.getElem?_cons_zero, Option.some.injEq] at hq
      subst hq
      exact ⟨b, rfl, h.1⟩
    | q + 1 =>
      have := okAfter_spec h.2 (by simpa using hl) q f (by simpa using hq)
      simpa using this
theorem okEs_spec : ∀ {i0 : Nat} {bs : List Nat} {es : List En}, okEs i0 bs es = true → es.length ≤ bs.length → ∀ (p q : Nat) e f, p < q → es[p]? = some e → es[q]? = some f → ∃ b, bs[q]? = some b ∧ pairOk b (i0 + p) e f = true
  | _, [], [], _, _, p, q, e, f, _, h, _ => by simp at h
  | _, [], _ :: _, _, hl, _, _, _, _, _, _, _ => by simp at hl
  | _, _ :: _, [], _, _, p, q, e, f, _, h, _ => by simp at h
  | i0, b :: bs, e :: es, h, hl, p, q, g, f, hpq, hp, hq => by
    simp only [okEs, Bool.and_eq_true] at h
    obtain ⟨q, rfl⟩ : ∃ q', q = q' + 1 := ⟨q - 1, by omega⟩
    simp only [List.getElem?_cons_succ] at hq ⊢
    match p with
    | 0 =>
      simp only [List.getElem?_cons_zero, Option.some.injEq] at hp
      subst hp
      exact okAfter_spec h.1 (by simpa using hl) q f hq
    | p + 1 =>
      have := okEs_spec h.2 (by simpa using hl) p q g f (by omega) (by simpa using hp) hq
      rw [show i0 + (p + 1) = i0 + 1 + p by omega]
      exact this
theorem anyEx_of : ∀ {es : List En} {k : Nat} {e : En} {y : SV}, es[k]? = some e → e.k = .exact y → anyEx es = true
  | [], k, _, _, h, _ => by simp at h
  | f :: es, 0, e, y, h, hk => by
    simp only [List.getElem?_cons_zero, Option.some.injEq] at h
    subst h
    simp only [anyEx, hk]
  | f :: es, k + 1, e, y, h, hk => by
    simp only [anyEx]
    split
    · rfl
    · exact anyEx_of (by simpa using h) hk
theorem stAfter_spec {i : Nat} {a : Nat × Nat} : ∀ {bs : List Nat} {es : List (Nat × Nat)}, stAfter i a bs es = true → es.length ≤ bs.length → ∀ (q : Nat) e, es[q]? = some e → ∃ b, bs[q]? = some b ∧ (b.testBit i = true ∨ (a.2 &&& (e.1 ||| e.2)) ||| (a.1 &&& e.2) = 0)
  | [], [], _, _, q, e, h => by simp at h
  | [], _ :: _, _, hl, _, _, _ => by simp at hl
  | _ :: _, [], _, _, q, e, h => by simp at h
  | b :: bs, e :: es, h, hl, q, f, hq => by
    simp only [stAfter, Bool.and_eq_true, Bool.or_eq_true] at h
    match q with
    | 0 =>
      simp only [List.getElem?_cons_zero, Option.some.injEq] at hq
      subst hq
      exact ⟨b, rfl, h.1.imp id fun h => by simpa [zeroN] using h⟩
    | q + 1 =>
      have := stAfter_spec h.2 (by simpa using hl) q f (by simpa using hq)
      simpa using this
theorem stAll_spec : ∀ {i0 : Nat} {bs : List Nat} {es : List (Nat × Nat)}, stAll i0 bs es = true → es.length ≤ bs.length → ∀ (p q : Nat) e f, p < q → es[p]? = some e → es[q]? = some f → ∃ b, bs[q]? = some b ∧ (b.testBit (i0 + p) = true ∨ (e.2 &&& (f.1 ||| f.2)) ||| (e.1 &&& f.2) = 0)
  | _, [], [], _, _, p, q, e, f, _, h, _ => by simp at h
  | _, [], _ :: _, _, hl, _, _, _, _, _, _, _ => by simp at hl
  | _, _ :: _, [], _, _, p, q, e, f, _, h, _ => by simp at h
  | i0, b :: bs, e :: es, h, hl, p, q, g, f, hpq, hp, hq => by
    simp only [stAll, Bool.and_eq_true] at h
    obtain ⟨q, rfl⟩ : ∃ q', q = q' + 1 := ⟨q - 1, by omega⟩
    simp only [List.getElem?_cons_succ] at hq ⊢
    match p with
    | 0 =>
      simp only [List.getElem?_cons_zero, Option.some.injEq] at hp
      subst hp
      exact stAfter_spec h.1 (by simpa using hl) q f hq
    | p + 1 =>
      have := stAll_spec h.2 (by simpa using hl) p q g f (by omega) (by simpa using hp) hq
      rw [show i0 + (p + 1) = i0 + 1 + p by omega]
      exact this
theorem ancs_len : ∀ (l : List Oper) (acc : List Nat), (ancs l acc).length = acc.length + l.length
  | [], acc => rfl
  | o :: l, acc => by simp only [ancs, ancs_len l]; simp; omega
theorem kd_ex {es : List En} {k : Nat} (h : (kdOf es k).ex = true) : ∃ e y, es[k]? = some e ∧ e.k = .exact y := by
  unfold kdOf at h
  split at h
  · rename_i e he
    split at h
    · cases h
    · cases h
    · rename_i y hy; exact ⟨e, y, he, hy⟩
  · cases h
theorem kd_pure {es : List En} {k : Nat} {x : SV} {ids : List Nat} (h : kdOf es k = .pure x ids) : ∃ e, es[k]? = some e ∧ e.k = .pure x ids := by
  unfold kdOf at h
  split at h
  · rename_i e he
    split at h
    · cases h
    · rename_i hk; cases h; exact ⟨e, he, hk⟩
    · cases h
  · cases h
theorem draw_of (hT : TabOk P T) (hZ : ZTabOk T Z) (hQ : QTabOk P Q) (hM : MTabOk P M) (hK : KnownOk P K) (hN : NoGor P) (hR : SoundR P R) (hns : okN ns = true) {l : List Oper} {es : List En} {s sF : CS} (h : Chain P T Z Q M K R ns l.toArray l es s sF) (hst : stOk l.toArray = true) (hok : okDyn (ancs l []) es = true) :
    Draw P r ns l (fun k => (stAt es sF k).den) (fun k => (stAt es sF k).n) (kdOf es) := by
  have hlen := chain_len h
  have at_ : ∀ (k : Nat), k < l.length → ∃ o e, l[k]? = some o ∧ es[k]? = some e ∧ EnOk P T Z Q M K R ns l.toArray o e ∧ stAt es sF k = e.s ∧ stAt es sF (k + 1) = e.s' := fun k hk => by
    obtain ⟨e, h1, h2, h3, h4⟩ := chain_at h k _ (List.getElem?_eq_getElem hk)
    exact ⟨_, e, List.getElem?_eq_getElem hk, h1, h2, h3, h4⟩
  unfold stOk at hst
  rw [Bool.and_eq_true] at hst
  have bit : ∀ {i k b : Nat}, (ancs l [])[k]? = some b → b.testBit i = true → Anc l i k := fun {i k b} hb hbt => by
    refine ancs_ok l [] [] rfl rfl (fun k i hk => by simp at hk) k i ?_
    rw [List.getD_eq_getElem?_getD, hb]
    simpa using hbt
  have anc : ∀ i k e f, i < k → es[i]? = some e → es[k]? = some f → (∃ y, e.k = .exact y) ∨ (∃ y, f.k = .exact y) → ∃ b, (ancs l [])[k]? = some b ∧ pairOk b i e f = true := fun i k e f hik hi hk hx => by
    have hany : anyEx es = true := by
      rcases hx with ⟨y, hy⟩ | ⟨y, hy⟩
      · exact anyEx_of hi hy
      · exact anyEx_of hk hy
    unfold okDyn at hok
    rw [hany] at hok
    have := okEs_spec (okEs3_ok hok) (by rw [ancs_len, hlen]; simp) i k e f hik hi hk
    simpa using this
  refine ⟨fun k o hk => ?_, fun k hk => ?_, fun k hk => ?_, fun k o hk hd => ?_, fun k o x ids hk hd => ?_, fun k o y n' m' hk hd => ?_, fun i k oi ok t hik hi hk ht => ?_, fun i k hik hk hi he => ?_, fun i k x ids hik hk hi he => ?_, fun i k x ids hik hk hi he => ?_⟩
  · obtain ⟨e, h1, h2, h3, h4⟩ := chain_at h k o hk
    simp only [h3, h4, kdOf, h1]
    have hk2 := h2.k
    cases hek : e.k with
    | off => rw [hek] at hk2; simp only at hk2 ⊢; rw [hk2.2]; simp only [CS.den, sOf_dst hns hk2.1]; rfl
    | pure x ids => rw [hek] at hk2; simp only at hk2 ⊢; rw [hk2.2.2.2]; simp only [CS.den, sOf_dst hns hk2.1]; rfl
    | exact y => rw [hek] at hk2; simp only at hk2 ⊢; obtain ⟨hg, q, hq, rfl, hs⟩ := hk2; rw [hs]; simp only [CS.den, sOf_dst hns hg]; rfl
  · obtain ⟨o, e, _, h1, h2, h3, h4⟩ := at_ k hk
    simp only [h3, h4, kdOf, h1]
    have hk2 := h2.k
    cases hek : e.k with
    | off => rw [hek] at hk2; simp only at hk2 ⊢; rw [hk2.2]; rfl
    | pure x ids => rw [hek] at hk2; simp only at hk2 ⊢; rw [hk2.2.2.2]; rfl
    | exact y => rfl
  · obtain ⟨o, e, _, h1, h2, h3, h4⟩ := at_ k hk
    simp only [h3, h4, kdOf, h1]
    have hk2 := h2.k
    cases hek : e.k with
    | off => rw [hek] at hk2; simp only at hk2 ⊢; rw [hk2.2]; exact ⟨rfl, Nat.le_refl _⟩
    | pure x ids => rw [hek] at hk2; simp only at hk2 ⊢; rw [hk2.2.2.2]; exact ⟨rfl, Nat.le_refl _⟩
    | exact y =>
      rw [hek] at hk2
      simp only at hk2 ⊢
      obtain ⟨hg, q, hq, rfl, hs⟩ := hk2
      refine ⟨rfl, ?_⟩
      rw [hs]
      exact (doOp_sound hT hZ hQ hM hK hN hR (ns := ns) hq).n
  · obtain ⟨e, h1, h2, h3, h4⟩ := chain_at h k o hk
    simp only [h3]
    simp only [kdOf, h1] at hd
    have hk2 := h2.k
    cases hek : e.k with
    | off => rw [hek] at hk2; exact hk2.1
    | pure x ids => rw [hek] at hd; cases hd
    | exact y => rw [hek] at hd; cases hd
  · obtain ⟨e, h1, h2, h3, h4⟩ := chain_at h k o hk
    simp only [h3]
    simp only [kdOf, h1] at hd
    have hk2 := h2.k
    cases hek : e.k with
    | off => rw [hek] at hd; cases hd
    | exact y => rw [hek] at hd; cases hd
    | pure x' ids' =>
      rw [hek] at hd hk2
      cases hd
      simp only at hk2
      obtain ⟨hg, hp, hx, hs⟩ := hk2
      refine ⟨hg, fun s' hsl hme => PureStep.ro (fun c e' => ?_) fun W0 R0 D E a w hsim => ?_⟩
      · unfold plainP at hp
        split at hp
        · rename_i hc; exact calleeC_plain hc c e'
        · cases hp
      · exact xR_run hT hQ hM (fun y v hv => hsim.opd (evR_slots (s := s') hsl y v hv)) (fun i b hi => by
          obtain ⟨q1, q2⟩ := memC_sub hi
          exact hsim.mem i b ((hme i q1).trans q2)) hx
  · obtain ⟨e, h1, h2, h3, h4⟩ := chain_at h k o hk
    simp only [h3]
    simp only [kdOf, h1] at hd
    have hk2 := h2.k
    cases hek : e.k with
    | off => rw [hek] at hd; cases hd
    | pure x ids => rw [hek] at hd; cases hd
    | exact y' =>
      rw [hek] at hd hk2
      cases hd
      simp only at hk2
      obtain ⟨hg, q, hq, rfl, hs⟩ := hk2
      refine ⟨hg, fun s' hsl hme => ?_⟩
      have h5 := (doOp_sound hT hZ hQ hM hK hN hR (ns := ns) hq).step r s' hme (evR_slots (s := s') hsl)
      rw [hs]
      exact h5
  · have a1 : (l.toArray.toList.map fun o => (maskL (guardSlot l.toArray o ++ slotsOf o.op), maskL o.dst.toList))[i]? = some (maskL (guardSlot l.toArray oi ++ slotsOf oi.op), maskL oi.dst.toList) := by simp [hi]
    have a2 : (l.toArray.toList.map fun o => (maskL (guardSlot l.toArray o ++ slotsOf o.op), maskL o.dst.toList))[k]? = some (maskL (guardSlot l.toArray ok ++ slotsOf ok.op), maskL ok.dst.toList) := by simp [hk]
    obtain ⟨b, hb, h5⟩ := stAll_spec hst.2 (by rw [ancs_len]; simp) i k _ _ hik a1 a2
    rcases h5 with h5 | h6
    · exact bit hb (by simpa using h5)
    · exfalso
      obtain ⟨h7, h8⟩ := or_zero h6
      rcases ht with ⟨ht, h9⟩ | ⟨ht, h9⟩
      · refine and_bit h7 (x := t) (maskL_mem (by simp [ht])) ?_
        rw [Nat.testBit_or, Bool.or_eq_true]
        rcases h9 with h9 | h9 | h9
        · exact .inr (maskL_mem (by simp [h9]))
        · exact .inl (maskL_mem (List.mem_append_left _ h9))
        · exact .inl (maskL_mem (List.mem_append_right _ h9))
      · refine and_bit h8 (x := t) (maskL_mem ?_) (maskL_mem (by simp [ht]))
        rcases h9 with h9 | h9
        · exact List.mem_append_left _ h9
        · exact List.mem_append_right _ h9
  · obtain ⟨e, y, h1, h2⟩ := kd_ex hi
    obtain ⟨f, z, g1, g2⟩ := kd_ex he
    obtain ⟨b, hb, h5⟩ := anc i k e f hik h1 g1 (.inl ⟨y, h2⟩)
    unfold pairOk at h5
    rw [h2, g2] at h5
    exact bit hb h5
  · obtain ⟨e, y, h1, h2⟩ := kd_ex hi
    obtain ⟨f, g1, g2⟩ := kd_pure he
    obtain ⟨b, hb, h5⟩ := anc i k e f hik h1 g1 (.inl ⟨y, h2⟩)
    unfold pairOk at h5
    rw [h2, g2, Bool.or_eq_true] at h5
    refine h5.imp (fun h5 => bit hb h5) fun h5 j hj => ?_
    have h6 := sameB_eq (List.all_eq_true.1 h5 j hj)
    obtain ⟨o, e', _, q1, _, q3, q4⟩ := at_ i (by omega)
    rw [h1] at q1
    cases q1
    simp only [q3, q4, CS.den, mOf, h6]
  · obtain ⟨e, h1, h2⟩ := kd_pure hi
    obtain ⟨f, y, g1, g2⟩ := kd_ex he
    obtain ⟨b, hb, h5⟩ := anc i k e f hik h1 g1 (.inr ⟨y, g2⟩)
    unfold pairOk at h5
    rw [h2, g2, Bool.or_eq_true] at h5
    refine h5.imp (fun h5 => bit hb h5) fun h5 j hj => ?_
    have h6 := sameB_eq (List.all_eq_true.1 h5 j hj)
    obtain ⟨o, e', _, q1, _, q3, q4⟩ := at_ k hk
    rw [g1] at q1
    cases q1
    simp only [q3, q4, CS.den, mOf, h6]
theorem chain_mono (hT : TabOk P T) (hZ : ZTabOk T Z) (hQ : QTabOk P Q) (hM : MTabOk P M) (hK : KnownOk P K) (hN : NoGor P) (hR : SoundR P R) {ops : Array Oper} {l : List Oper} {es : List En} {s sF : CS} (h : Chain P T Z Q M K R ns ops l es s sF) : s.n ≤ sF.n ∧ Recs s.mem sF.mem := by
  induction h with
  | nil => exact ⟨Nat.le_refl _, Recs.refl _⟩
  | @cons o l e es sF he hc ih =>
    have hk := he.k
    have h0 : e.s.n ≤ e.s'.n ∧ Recs e.s.mem e.s'.mem := by
      cases hek : e.k with
      | off => rw [hek] at hk; simp only at hk; rw [hk.2]; exact ⟨Nat.le_refl _, Recs.refl _⟩
      | pure x ids => rw [hek] at hk; simp only at hk; rw [hk.2.2.2]; exact ⟨Nat.le_refl _, Recs.refl _⟩
      | exact y =>
        rw [hek] at hk
        simp only at hk
        obtain ⟨hg, q, hq, rfl, hs⟩ := hk
        have := doOp_sound hT hZ hQ hM hK hN hR (ns := ns) hq
        rw [hs]
        exact ⟨this.n, this.recs⟩
    exact ⟨Nat.le_trans h0.1 ih.1, h0.2.trans ih.2⟩
end Go.Proofs.Ytjjoiihgpkhndaa.Eng

/-
  The runner, part 5: what it says of all code is so, whatever the fuel; closed calls. No program is named here.
-/
noncomputable section
namespace Go.Proofs.Ytjjoiihgpkhndaa.Eng
open Go.RowKit
variable {P : Program} {T : Tab} {Z : ZTab} {Q : QTab} {M : MTab} {K : Known} {R : Runner} {r : Option Nat} {ns : Nat}

theorem Is.here {e : Exit} {s : CS} : Is e s e s.n s.den := ⟨rfl, rfl, rfl⟩
theorem runs_no {c : Code} {s : CS} {e : Exit} (h : AWi P r ns c s.n s.den (Is e s)) : Runs P r ns .no c s e s := ⟨h, Nat.le_refl _, Recs.refl _⟩
theorem Runs.left {c : Code} {k : Nat → St → Prop} {s s1 : CS} {e : Exit} (h1 : Runs P r ns .no c s e s1) (he : e ≠ .normal) : AWi P r ns c s.n s.den (thenP k (Is e s1)) :=
  AWi.mono h1.walk fun e2 _ _ ⟨a, b, c⟩ => by subst a; cases e2 <;> first | exact absurd rfl he | exact ⟨rfl, b, c⟩
theorem Runs.on {c : Code} {k : Nat → St → Prop} {Q : Post} {s s1 : CS} (h1 : Runs P r ns .no c s .normal s1) (h : k s1.n s1.den) : AWi P r ns c s.n s.den (thenP k Q) :=
  AWi.mono h1.walk fun e2 _ _ ⟨a, b, c⟩ => by subst a; subst b; subst c; exact h
theorem hasRec_spec {m : Tr CB} (h : hasRec m r = true) : ∀ id, r = some id → ∃ st pe k sl ps x y z, mOf m id = some (.loop st pe k sl ps x y z) := fun id e => by
  subst e
  unfold hasRec at h
  split at h
  · rename_i e; cases e
  · rename_i i e
    cases e
    split at h
    · rename_i st pe k sl ps x y hg
      exact ⟨_, _, _, _, _, _, _, _, mOf_get hg⟩
    · cases h
theorem rangeX_sound (hT : TabOk P T) (hN : NoGor P) (hR : SoundR P R) {s s' : CS} {f : FuncId} {us vs : List SV} {ps : Array Tmp} {x y : Code} {g : Operand} {e : Exit} (hg : opd ns s.den g = some (.fn f us vs)) (h : rangeX P T R r ns s f us vs ps x y = some (e, s')) : Runs P r ns .no (.rangeFunc g ps x y) s e s' := by
  unfold rangeX at h
  cases hc : (free s.mem s.n && hasRec s.mem r) with
  | false => rw [hc] at h; cases h
  | true =>
    rw [hc] at h
    simp only [cond_true] at h
    rw [Bool.and_eq_true] at hc
    obtain ⟨c1, c2⟩ := hc
    obtain ⟨hlt, hnone⟩ := free_spec c1
    split at h
    · rename_i q hq
      have h1 := callFn_sound hT hN hR hq
      obtain ⟨st', pe', hg'⟩ := h1.recs s.n .ready none ns s.sl ps x y (by rw [get_putM hlt, if_pos rfl])
      split at h
      · rename_i st pe _ _ _ _ _ hg2
        rw [hg'] at hg2
        cases hg2
        have hrec : Recs s.mem (putM q.m s.n (some (.loop .exhausted pe' ns s.sl ps x y))) := ((Recs.new c1).trans h1.recs).trans (Recs.upd hg' hlt _ _)
        have key : st' ≠ .busy → afterX pe' ⟨q.n, s.sl, putM q.m s.n (some (.loop .exhausted pe' ns s.sl ps x y))⟩ = some (e, s') → Runs P r ns .no (.rangeFunc g ps x y) s e s' := fun hst ha => by
          have hs' : s' = ⟨q.n, s.sl, putM q.m s.n (some (.loop .exhausted pe' ns s.sl ps x y))⟩ := by
            unfold afterX at ha
            split at ha <;> first | (cases ha; rfl) | cases ha
          refine ⟨AWi.rangeFunc hg (hasRec_spec c2) ?_, by rw [hs']; exact Nat.le_trans (Nat.le_succ _) h1.n, by rw [hs']; exact hrec⟩
          have h2 := h1.call
          rw [mOf_put hlt] at h2
          refine h2.mono ?_
          rintro y2 n2 m2 ⟨rfl, rfl, rfl⟩
          refine ⟨st', pe', mOf_get hg', hst, ?_⟩
          have e1 : (⟨(s.den).slots, setMem (mOf q.m) s.n (some (.loop .exhausted pe' ns (s.den).slots ps x y false))⟩ : St) = s'.den := by
            rw [hs']
            simp only [CS.den, mOf_put hlt]
            rfl
          have e2 : q.n = s'.n := by rw [hs']
          show afterP _ q.n ⟨(s.den).slots, setMem (mOf q.m) s.n (some (.loop .exhausted pe' ns (s.den).slots ps x y false))⟩ pe'
          rw [e1, e2]
          unfold afterX at ha
          split at ha
          · cases ha; exact Is.here
          · cases ha; exact Is.here
          · cases ha; exact Is.here
          · cases ha; exact Is.here
          · cases ha
        cases st' with
        | busy => cases h
        | ready => exact key (by simp) h
        | done => exact key (by simp) h
        | exhausted => exact key (by simp) h
      · cases h
    · cases h
theorem bodyC_sound (hT : TabOk P T) (hZ : ZTabOk T Z) (hQ : QTabOk P Q) (hM : MTabOk P M) (hK : KnownOk P K) (hN : NoGor P) (hm : P.follows .mixedOrders = true) (hR : SoundR P R) {c : Code} {s s' : CS} {e : Exit} (hns : okN ns = true) (h : bodyC P T Z Q M K R r ns c s = some (e, s')) : Runs P r ns .no c s e s' := by
  unfold bodyC at h
  split at h
  · cases h; exact runs_no (AWi.skip Is.here)
  · rename_i id ops draw
    unfold bReg at h
    cases draw with
    | true =>
      simp only [cond_true] at h
      split at h
      · rename_i es sF hd
        cases hc : (stOk ops && okDyn (ancs ops.toList []) es) with
        | false => rw [hc] at h; cases h
        | true =>
          rw [hc] at h
          cases h
          rw [Bool.and_eq_true] at hc
          have hch := drOps_chain _ _ hd
          have hops : ops = ops.toList.toArray := by simp
          have hch' : Chain P T Z Q M K R ns ops.toList.toArray ops.toList es s s' := by rw [← hops]; exact hch
          have hD := draw_of (r := r) hT hZ hQ hM hK hN hR hns hch' (by rw [← hops]; exact hc.1) hc.2
          obtain ⟨m1, m2⟩ := chain_mono hT hZ hQ hM hK hN hR hch
          refine ⟨?_, m1, m2⟩
          have h1 := AWi.drawsI (r := r) (id := id) hm (by rw [← hops]; have := hc.1; unfold stOk at this; rw [Bool.and_eq_true] at this; exact this.1) hD (Q := Is .normal s') (by
            simp only [chain_end hch]
            exact Is.here)
          simp only [chain_zero hch] at h1
          rw [← hops] at h1
          exact h1
      · cases h
    | false =>
      simp only [cond_false] at h
      split at h
      · rename_i sF hd
        cases h
        obtain ⟨i1, i2, i3⟩ := doOps_sound (r := r) hT hZ hQ hM hK hN hR hns _ _ hd
        refine ⟨fun W0 R0 B E a w hi hs => ?_, i1, i2⟩
        have hops : ops = ops.toList.toArray := by simp
        rw [hops]
        refine wpIn_region_lit ?_
        rw [← hops]
        exact i3 hi hs fun E' a' w' h1 => ⟨_, _, E', W0, Ext.refl _, hi, h1, Is.here⟩
      · cases h
  · rename_i x y
    unfold onNormal at h
    split at h
    · rename_i e1 s1 h1
      have k1 := hR r ns .no x s e1 s1 hns h1
      split at h
      · have k2 := hR r ns .no y s1 e s' hns h
        exact ⟨AWi.seq (k1.on k2.walk), Nat.le_trans k1.n k2.n, k1.recs.trans k2.recs⟩
      · rename_i hne
        cases h
        exact ⟨AWi.seq (k1.left fun e => hne e), k1.n, k1.recs⟩
    · cases h
  · rename_i cc x y
    unfold bCond at h
    split at h
    · rename_i t ht
      cases t with
      | true =>
        rw [if_pos rfl] at h
        have k1 := hR r ns .no x s e s' hns h
        exact ⟨AWi.cond ht (fun _ => k1.walk) (fun h => by cases h), k1.n, k1.recs⟩
      | false =>
        rw [if_neg (by simp)] at h
        have k1 := hR r ns .no y s e s' hns h
        exact ⟨AWi.cond ht (fun h => by cases h) (fun _ => k1.walk), k1.n, k1.recs⟩
    · cases h
  · rename_i id x
    unfold bBlock at h
    split at h
    · rename_i e1 s1 h1
      have k1 := hR r ns .no x s e1 s1 hns h1
      have fin : (∀ e2, e2 = e1 → blockP id (Is e s') e2 s1.n s1.den) → s1 = s' → Runs P r ns .no (.block id x) s e s' := fun hb hs => by
        subst hs
        refine ⟨AWi.block (AWi.mono k1.walk fun e2 _ _ ⟨a, b, c⟩ => ?_), k1.n, k1.recs⟩
        subst b; subst c
        exact hb e2 a
      split at h
      · rename_i j
        cases hj : Nat.beq j id with
        | true =>
          rw [hj] at h
          cases h
          rw [Nat.beq_eq] at hj
          exact fin (fun e2 he => by subst he; simp only [blockP, if_pos hj]; exact Is.here) rfl
        | false =>
          rw [hj] at h
          cases h
          have hne : j ≠ id := fun e => by subst e; simp at hj
          exact fin (fun e2 he => by subst he; simp only [blockP, if_neg hne]; exact Is.here) rfl
      · rename_i hne
        cases h
        exact fin (fun e2 he => by subst he; cases e2 <;> first | exact Is.here | exact absurd rfl (hne _)) rfl
    · cases h
  · rename_i x
    have k1 := hR r ns (.lp x) x s e s' hns h
    exact ⟨AWi.loopL k1.walk, k1.n, k1.recs⟩
  · rename_i g ps x y
    unfold bRange at h
    split at h
    · rename_i f us vs hg
      exact rangeX_sound hT hN hR hg h
    · cases h
  · cases h; exact runs_no (AWi.exit Is.here)
  · cases h; exact runs_no (AWi.goto Is.here)
  · cases h; exact runs_no (AWi.label Is.here)
  · cases h; exact runs_no (AWi.ret Is.here)
  · rename_i x
    have k1 := hR r ns (.sc x) x s e s' hns h
    exact ⟨AWi.scope k1.walk, k1.n, k1.recs⟩
  · cases h
theorem bodyR_sound (hT : TabOk P T) (hZ : ZTabOk T Z) (hQ : QTabOk P Q) (hM : MTabOk P M) (hK : KnownOk P K) (hN : NoGor P) (hm : P.follows .mixedOrders = true) (hR : SoundR P R) : SoundR P (bodyR P T Z Q M K R) := by
  intro r ns cx c s e s' hns h
  unfold bodyR at h
  split at h
  · exact bodyC_sound hT hZ hQ hM hK hN hm hR hns h
  · rename_i c0
    split at h
    · rename_i e1 s1 h1
      have k1 := hR r ns .no c s e1 s1 hns h1
      split at h
      · rename_i l
        split at h
        · rename_i rest hf
          have k2 := hR r ns (.sc c0) rest s1 e s' hns h
          refine ⟨AWs.of (AWi.mono k1.walk fun e2 _ _ ⟨a, b, c⟩ => ?_), Nat.le_trans k1.n k2.n, k1.recs.trans k2.recs⟩
          subst a; subst b; subst c
          simp only [scopeP, hf]
          exact k2.walk
        · rename_i hf
          cases h
          refine ⟨AWs.of (AWi.mono k1.walk fun e2 _ _ ⟨a, b, c⟩ => ?_), k1.n, k1.recs⟩
          subst a; subst b; subst c
          simp only [scopeP, hf]
          exact Is.here
      · rename_i hne
        cases h
        refine ⟨AWs.of (AWi.mono k1.walk fun e2 _ _ ⟨a, b, c⟩ => ?_), k1.n, k1.recs⟩
        subst a; subst b; subst c
        cases e2 <;> first | exact Is.here | exact absurd rfl (hne _)
    · cases h
  · rename_i c0
    split at h
    · rename_i e1 s1 h1
      have k1 := hR r ns .no c s e1 s1 hns h1
      split at h
      · have k2 := hR r ns (.lp c0) c0 s1 e s' hns h
        exact ⟨AWl.of (k1.on k2.walk), Nat.le_trans k1.n k2.n, k1.recs.trans k2.recs⟩
      · rename_i hne
        cases h
        exact ⟨AWl.of (k1.left fun e => hne e), k1.n, k1.recs⟩
    · cases h
theorem runR_sound (hT : TabOk P T) (hZ : ZTabOk T Z) (hQ : QTabOk P Q) (hM : MTabOk P M) (hK : KnownOk P K) (hN : NoGor P) (hm : P.follows .mixedOrders = true) : ∀ n, SoundR P (runR P T Z Q M K n)
  | 0 => fun _ _ _ _ _ _ _ _ h => by rw [runR_zero] at h; cases h
  | n + 1 => by rw [runR_succ]; exact bodyR_sound hT hZ hQ hM hK hN hm (runR_sound hT hZ hQ hM hK hN hm n)
/-- A call without arguments, in whatever world. -/
theorem closed_call (hT : TabOk P T) (hZ : ZTabOk T Z) (hQ : QTabOk P Q) (hM : MTabOk P M) (hK : KnownOk P K) (hN : NoGor P) (hm : P.follows .mixedOrders = true) {f : FuncId} {n : Nat} {b : Bool} (h : (callFn P T (runR P T Z Q M K n) f [] 0 .lf).map (·.y) = some (.d (.val (.bool b)))) : ACall P f [] (.val (.bool b)) := by
  rw [Option.map_eq_some_iff] at h
  obtain ⟨q, hq, hy⟩ := h
  have h1 := (callFn_sound hT hN (runR_sound hT hZ hQ hM hK hN hm n) hq).call
  refine ⟨h1.callable, fun ro w vs hro hsz hrep => ?_⟩
  let W1 : Fix := fixOf w
  let E : Env := ⟨ro, fun _ => False, fun _ => ⟨0, 0, 0⟩⟩
  have M0 : MS W1 ro (· < 0) (mOf .lf) E w := ⟨Kept.refl _ _, fun _ h => h, fun _ h => .inl h, hro, fun _ h => h.elim, (fun i b hi => by cases hi), (fun i b hi => by cases hi), (fun i b hi => by cases hi), (fun i b hi => by cases hi), fun i j b c hi => by cases hi⟩
  refine (h1.calls W1 ro E w vs M0 (by simpa using hsz) (by simp)).mono ?_
  rintro e w' ⟨v, E', n', m', y, rfl, M2, hE, hk, hv, rfl, rfl, rfl⟩
  refine ⟨v, rfl, M2.below.below, ?_⟩
  rw [hy] at hv
  cases hv with
  | d _ _ hv => cases hv with | val _ h => exact .val _ h
end Go.Proofs.Ytjjoiihgpkhndaa.Eng

/-
  The runner, part 6: a call is checked against how it is told to end. No program is named here.
-/
noncomputable section
namespace Go.Proofs.Ytjjoiihgpkhndaa.Eng
open Go.RowKit
variable {P : Program} {T : Tab} {Z : ZTab} {Q : QTab} {M : MTab} {K : Known}

/-- The call ends as told, at least. -/
def chk (P : Program) (T : Tab) (Z : ZTab) (Q : QTab) (M : MTab) (K : Known) (fuel : Nat) (e : Ent) : Bool := match callFn P T (runR P T Z Q M K fuel) e.f e.args e.n e.m with
  | some q => same3 q.y e.q.y && Nat.beq q.n e.q.n && subTr e.q.m q.m && noLoop e.m
  | none => false
theorem chk_ok (hT : TabOk P T) (hZ : ZTabOk T Z) (hQ : QTabOk P Q) (hM : MTabOk P M) (hK : KnownOk P K) (hN : NoGor P) (hm : P.follows .mixedOrders = true) {fuel : Nat} {e : Ent} (h : chk P T Z Q M K fuel e = true) : Calls2 P e.f e.args e.n e.m e.q := by
  unfold chk at h
  split at h
  · rename_i q hq
    simp only [Bool.and_eq_true, Nat.beq_eq] at h
    obtain ⟨⟨⟨h1, h2⟩, h3⟩, h4⟩ := h
    have H := callFn_sound hT hN (runR_sound hT hZ hQ hM hK hN hm fuel) hq
    refine H.less (same3_eq h1).symm h2.symm (fun i b hb => ?_) fun id st pe k sl ps x y hh => absurd hh (noLoop_get h4 id st pe k sl ps x y)
    simp only [mOf, Option.map_eq_some_iff] at hb ⊢
    obtain ⟨c, hc, rfl⟩ := hb
    exact ⟨c, subTr_get h3 i c hc, rfl⟩
  · cases h
def noS : Sums := fun _ => none
/-- What the functions of S answer is so. -/
def SumsOk (P : Program) (S : Sums) : Prop := ∀ f g, S f = some g → ∀ args n m q, g args n m = some q → Calls2 P f args n m q
theorem noS_ok : SumsOk P noS := fun f g h => by cases h
theorem known_sums {S : Sums} (h : SumsOk P S) : KnownOk P ⟨[], [], S⟩ := ⟨by simp, by simp, h⟩
theorem known_ent {e : Ent} (h : Calls2 P e.f e.args e.n e.m e.q) (hK : KnownOk P K) : KnownOk P ⟨e :: K.ents, K.closed, K.sums⟩ := ⟨fun x hx => by
  rcases List.mem_cons.1 hx with rfl | hx
  · exact h
  · exact hK.ents x hx, hK.closed, hK.sums⟩
theorem known_closed {f : FuncId} {v : Value} (h : ACall P f [] (.val v)) (hK : KnownOk P K) : KnownOk P ⟨K.ents, (f, v) :: K.closed, K.sums⟩ := ⟨hK.ents, fun x hx => by
  rcases List.mem_cons.1 hx with rfl | hx
  · exact h
  · exact hK.closed x hx, hK.sums⟩
theorem noGor_of (h : P.funcs.toList.all (fun fn => !(fn.name == "runtime.NumGoroutine")) = true) : NoGor P := fun f fn hf => by
  have hm : fn ∈ P.funcs.toList := by rw [Array.mem_toList_iff]; exact Array.mem_of_getElem? hf
  simpa using List.all_eq_true.1 h fn hm
end Go.Proofs.Ytjjoiihgpkhndaa.Eng

/-
  The runner, operations 9: entries of maps that are written by what they were; clear over nothing. No program is named here.
-/
noncomputable section
namespace Go.Proofs.Ytjjoiihgpkhndaa.Eng
open Go.RowKit
variable {P : Program} {T : Tab} {M : MTab} {W0 : Fix} {R0 : Nat → Prop} {ns : Nat} {D : Nat → Prop} {s : St} {E : Env} {a : Act} {w : World} {m : Tr CB}

/-- An entry, laid new if it is not there. -/
def entC (m : Tr CB) (i : MapI) (x k : SV) : Option (SV × Tr CB) := match x with
  | .mp id => match m.get id with
    | some (.mp agg kk es clock) => if agg = i.agg ∧ kk = i.kk ∧ es.all (fun q => q.1.length == i.kk.length) = true ∧ Nat.ble id 10000000 = true then match keyOf i k with
        | some l => match findK l (es.map (·.1)) 0 with
          | some j => match es[j]? with
            | some q => some (.tup [q.2.1, .d (.val (.int .i64 q.2.2))], putM m id (some (.mp agg kk es clock)))
            | none => none
          | none => some (.tup [i.zero, .d (.val (.int .i64 clock))], putM m id (some (.mp agg kk (es ++ [(l, i.zero, clock)]) (clock + 1))))
        | none => none
      else none
    | _ => none
  | _ => none
/-- The entry that was laid then gets this value. -/
def estC (m : Tr CB) (x : SV) (b : Int) (v : SV) : Option (Tr CB) := match x with
  | .mp id => match m.get id with
    | some (.mp agg kk es clock) => if Nat.ble id 10000000 = true then match es.findIdx? (fun q => (q.2.2 : Int) == b) with
        | some j => some (putM m id (some (.mp agg kk (setAt es j v) clock)))
        | none => none
      else none
    | _ => none
  | _ => none
theorem entC_run (hM : MTabOk P M) (h : Sim W0 R0 ns D s E a w) (hs : s.mem = mOf m) {nid : Nat} {o : Oper} {t : TypeId} {x y : Operand} (ho : o.op = .mapEntry t x y) {i : MapI} (hi : M t = some i) {xv kv r : SV} {m' : Tr CB} (hu : entC m i xv kv = some (r, m')) (hx : Rep E w xv (a.eval x)) (hy : Rep E w kv (a.eval y)) :
    OpW P W0 R0 ns D nid s.slots a w o r m' := by
  have H := hM t i hi
  have hm : ∀ i b, mOf m i = some b → Holds E w (E.home i) b := fun i b hi => h.mem i b (by rw [hs]; exact hi)
  unfold entC at hu
  split at hu
  · rename_i id
    split at hu
    · rename_i agg kk es clock hg
      split at hu
      · rename_i hc
        obtain ⟨rfl, rfl, hlen, hb⟩ := hc
        have hid := lt_deep hb
        split at hu
        · rename_i l hl
          obtain ⟨ents, h1, h2, h3, h4⟩ := mp_holds hm hg
          obtain ⟨e1, e2⟩ := keyOf_spec H.one hl hy
          obtain ⟨u, hu'⟩ : ∃ u, a.eval x = u := ⟨_, rfl⟩
          rw [hu'] at hx
          cases hx with
          | mp _ hd =>
          have hmi : s.mem id = some (CB.den (.mp i.agg i.kk es clock)) := by rw [hs]; exact mOf_get hg
          have hro : ¬ E.ro (E.home id).blk := fun k => by have := (h.frz id _ hmi).2 k; cases this
          have hk : ∀ (es' : Array MapEntry) (c' : Nat) b, E.ro b → (w.putObj (E.home id).blk (.map es' c')).heap[b]? = w.heap[b]? := fun es' c' b hb => World.putObj_heap_other fun e => hro (e ▸ hb)
          have hf := H.find w l ents.toList (es.map (·.1)) e2 (fun q hq => by
            obtain ⟨p, hp, rfl⟩ := List.mem_map.1 hq
            simpa using List.all_eq_true.1 hlen p hp) h3
          have hset : ∀ (es' : Array MapEntry) (c' : Nat), (setObj (E.home id).blk (.map es' c')).run P w = .ok () (w.putObj (E.home id).blk (.map es' c')) := fun es' c' => MapKept.run_setObj_map _ h1
          split at hu
          · rename_i j hj
            split at hu
            · rename_i q hq
              cases hu
              obtain ⟨b, hb1, hb2⟩ := findK_lt _ hj
              rw [List.getElem?_map, hq] at hb1
              cases hb1
              have hjl : j < ents.size := by have := (List.getElem?_eq_some_iff.1 hq).1; omega
              have he := h4 j q _ hq (Array.getElem?_eq_getElem hjl)
              rw [hj] at hf
              simp only [Option.bind_some, Array.getElem?_toList, Array.getElem?_eq_getElem hjl, Option.map_some] at hf
              have hkey : ents[j].key = keyVal i.agg i.kk l := by rw [he.1, hb2]
              have hsame := same_key i.agg i.kk l H.one e2
              have hrun : (execOp a.eval o).run P w = .ok (.value (.tuple #[ents[j].val, goInt ents[j].born])) (w.putObj (E.home id).blk (.map (ents.modify j fun e => { e with key := keyVal i.agg i.kk l }) clock)) := by
                simp [execOp, ho, hu', e1, Instr.mapEntry, run_underlying H.und, MapKept.run_getObj_map h1, H.check _ w l e2, hf, Instr.keyThatStays, hjl, hkey, hsame, hset]
              refine ⟨E, _, (writeMp h hs hg hid h1 (es' := es) (ents' := ents.modify j fun e => { e with key := keyVal i.agg i.kk l }) (by simp [h2]) fun k p e hp hpe => ?_).weak fun i hi => .inr hi, .inl ⟨_, hrun, .tup _ _ rfl fun k c v hc hv => ?_⟩⟩
              · rw [Array.getElem?_modify] at hpe
                by_cases hkj : j = k
                · subst hkj
                  rw [if_pos rfl] at hpe
                  rw [hq] at hp
                  rw [Array.getElem?_eq_getElem hjl] at hpe
                  cases hp; cases hpe
                  exact ⟨by rw [hb2], he.2.1, he.2.2⟩
                · rw [if_neg hkj] at hpe
                  exact h4 k p e hp hpe
              · match k with
                | 0 => simp at hc hv; subst hc; subst hv; exact he.2.2.keep (Env.le.refl E) (hk _ _)
                | 1 => simp at hc hv; subst hc; subst hv; rw [he.2.1]; exact rep_val rfl
                | k + 2 => simp at hc
            · cases hu
          · rename_i hj
            cases hu
            rw [hj] at hf
            simp only [Option.bind_none] at hf
            obtain ⟨z, hz1, hz2⟩ := H.zero
            have hrun : (execOp a.eval o).run P w = .ok (.value (.tuple #[z, goInt clock])) (w.putObj (E.home id).blk (.map (ents.push { key := keyVal i.agg i.kk l, val := z, born := clock }) (clock + 1))) := by
              simp [execOp, ho, hu', e1, Instr.mapEntry, run_underlying H.und, MapKept.run_getObj_map h1, H.check _ w l e2, hf, hset, hz1]
            refine ⟨E, _, (writeMp h hs hg hid h1 (es' := es ++ [(l, i.zero, clock)]) (ents' := ents.push { key := keyVal i.agg i.kk l, val := z, born := clock }) (by simp [h2]) fun k p e hp hpe => ?_).weak fun i hi => .inr hi, .inl ⟨_, hrun, .tup _ _ rfl fun k c v hc hv => ?_⟩⟩
            · by_cases hk : k < es.length
              · rw [List.getElem?_append_left hk] at hp
                rw [Array.getElem?_push, if_neg (by omega)] at hpe
                exact h4 k p e hp hpe
              · rw [List.getElem?_append_right (by omega)] at hp
                have hk0 : k = es.length := by
                  have := (List.getElem?_eq_some_iff.1 hp).1
                  simp at this
                  omega
                subst hk0
                simp at hp
                rw [Array.getElem?_push, if_pos h2.symm] at hpe
                cases hp; cases hpe
                exact ⟨rfl, rfl, hz2 E w⟩
            · match k with
              | 0 => simp at hc hv; subst hc; subst hv; exact hz2 _ _
              | 1 => simp at hc hv; subst hc; subst hv; exact rep_val rfl
              | k + 2 => simp at hc
        · cases hu
      · cases hu
    · cases hu
  · cases hu
theorem estC_run (h : Sim W0 R0 ns D s E a w) (hs : s.mem = mOf m) {nid : Nat} {o : Oper} {t : TypeId} {x y z : Operand} (ho : o.op = .entryStore t x y z) {xv vv : SV} {b : Int} {m' : Tr CB} (hu : estC m xv b vv = some m') (hx : Rep E w xv (a.eval x)) (hy : Rep E w (.d (.val (.int .i64 b))) (a.eval y)) (hz : Rep E w vv (a.eval z)) :
    OpW P W0 R0 ns D nid s.slots a w o .und m' := by
  have hm : ∀ i b, mOf m i = some b → Holds E w (E.home i) b := fun i b hi => h.mem i b (by rw [hs]; exact hi)
  unfold estC at hu
  split at hu
  · rename_i id
    split at hu
    · rename_i agg kk es clock hg
      split at hu
      · rename_i hb
        have hid := lt_deep hb
        split at hu
        · rename_i j hj
          cases hu
          obtain ⟨ents, h1, h2, h3, h4⟩ := mp_holds hm hg
          obtain ⟨u, hu'⟩ : ∃ u, a.eval x = u := ⟨_, rfl⟩
          rw [hu'] at hx
          cases hx with
          | mp _ hd =>
          have hyv : a.eval y = .int .i64 b := by
            generalize a.eval y = v at hy
            cases hy with | d _ _ hv => cases hv; rfl
          have hborn : ents.toList.map (·.born) = es.map (·.2.2) := by
            apply List.ext_getElem?
            intro k
            simp only [List.getElem?_map, Array.getElem?_toList]
            by_cases hk : k < es.length
            · rw [List.getElem?_eq_getElem hk, Array.getElem?_eq_getElem (show k < ents.size by omega)]
              simp only [Option.map_some]
              rw [(h4 k _ _ (List.getElem?_eq_getElem hk) (Array.getElem?_eq_getElem (show k < ents.size by omega))).2.1]
            · rw [List.getElem?_eq_none (by omega), Array.getElem?_eq_none (by omega)]
              rfl
          have hfind : ents.findIdx? (fun e => (e.born : Int) == b) = some j := by
            have e1 : (es.map (fun q : List Int × SV × Nat => q.2.2)).findIdx? (fun n : Nat => (n : Int) == b) = some j := by rw [List.findIdx?_map]; exact hj
            rw [← hborn, List.findIdx?_map] at e1
            rw [← Array.toArray_toList (xs := ents), List.findIdx?_toArray]
            exact e1
          have hset : ∀ (es' : Array MapEntry) (c' : Nat), (setObj (E.home id).blk (.map es' c')).run P w = .ok () (w.putObj (E.home id).blk (.map es' c')) := fun es' c' => MapKept.run_setObj_map _ h1
          have hrun : (execOp a.eval o).run P w = .ok .skip (w.putObj (E.home id).blk (.map (ents.modify j fun e => { e with val := a.eval z }) clock)) := by
            simp [execOp, ho, hu', hyv, Instr.entryStore, asInt, asIntOf, MapKept.run_getObj_map h1, hfind, hset]
          refine ⟨E, _, (writeMp h hs hg hid h1 (es' := setAt es j vv) (ents' := ents.modify j fun e => { e with val := a.eval z }) (by simp [setAt_len, h2]) fun k p e hp hpe => ?_).weak fun i hi => .inr hi, .inr ⟨hrun, rfl⟩⟩
          rw [setAt_get] at hp
          rw [Array.getElem?_modify] at hpe
          by_cases hkj : k = j
          · subst hkj
            rw [if_pos rfl] at hp
            rw [if_pos rfl] at hpe
            rw [Option.map_eq_some_iff] at hp hpe
            obtain ⟨q, hq, rfl⟩ := hp
            obtain ⟨e0, he0, rfl⟩ := hpe
            obtain ⟨a1, a2, _⟩ := h4 k q e0 hq he0
            exact ⟨a1, a2, hz⟩
          · rw [if_neg hkj] at hp
            rw [if_neg (Ne.symm hkj)] at hpe
            exact h4 k p e hp hpe
        · cases hu
      · cases hu
    · cases hu
  · cases hu
/-! Append of nothing: what is appended to stays as it is. -/
def isSl : SV → Bool
  | .nilS => true
  | .sl _ _ _ _ => true
  | _ => false
def isNo : SV → Bool
  | .nilS => true
  | .sl _ _ 0 _ => true
  | _ => false
def appN (T : Tab) (m : Tr CB) (ev : Operand → Option SV) (x y : Operand) (t t' : TypeId) : Option (SV × Tr CB) := match T t, ev x, ev y with
  | some i, some sv, some yv => match i.kind with
    | .slice e => match T e with
      | some _ => if t' = t ∧ isSl sv = true ∧ isNo yv = true then some (sv, m) else none
      | none => none
    | _ => none
  | _, _, _ => none
theorem run_append_no {t e ty : TypeId} {inf : TypeInfo} (hu : P.underlying t = some (.slice e)) (hi : P.info? e = some inf) {b b' : Option Addr} {n k k' : Nat} (hn : n ≤ k) : (Builtin.append_ #[t, t] ty #[.slice b n k, .slice b' 0 k']).run P w = .ok (.slice b n k) w := by
  cases b <;> cases b' <;> simp [Builtin.append_, run_underlying hu, sizeOf, typeInfo, hi, Builtin.lenOf, Builtin.firstCells, loadCells, loadCellsFrom, storeCells, hn]
theorem isSl_spec {x : SV} {v : Value} (h : isSl x = true) (hr : Rep E w x v) : ∃ b n k, v = .slice b n k ∧ n ≤ k := by
  cases hr with
  | nilS => exact ⟨none, 0, 0, rfl, Nat.le_refl _⟩
  | sl id off n c o k _ _ _ hn => exact ⟨_, n, k, rfl, hn⟩
  | _ => cases h
theorem isNo_spec {x : SV} {v : Value} (h : isNo x = true) (hr : Rep E w x v) : ∃ b k, v = .slice b 0 k := by
  cases hr with
  | nilS => exact ⟨none, 0, rfl⟩
  | sl id off n c o k _ _ _ hn =>
    cases n with
    | zero => exact ⟨_, k, rfl⟩
    | succ n => cases h
  | _ => cases h
theorem appN_run (hT : TabOk P T) (h : Sim W0 R0 ns D s E a w) (hs : s.mem = mOf m) {nid : Nat} {ev : Operand → Option SV} (hev : ∀ x v, ev x = some v → Rep E w v (a.eval x)) {o : Oper} {x y : Operand} {t t' : TypeId} (ho : o.op = .call { callee := .builtin .append, args := #[x, y], argTypes := #[t, t'] }) {r : SV} {m' : Tr CB} (hu : appN T m ev x y t t' = some (r, m')) :
    OpW P W0 R0 ns D nid s.slots a w o r m' := by
  unfold appN at hu
  split at hu
  · rename_i i sv yv hi h1 h2
    split at hu
    · rename_i e hk
      split at hu
      · rename_i ie hie
        split at hu
        · rename_i hc
          obtain ⟨rfl, c1, c2⟩ := hc
          cases hu
          have hu := slice_und (hT _ i hi) hk
          obtain ⟨inf, z0, i1, _⟩ := zeros_reps (E := E) (w := w) hT hie
          have r1 := hev _ _ h1
          obtain ⟨b, n, k, e1, hn⟩ := isSl_spec c1 r1
          obtain ⟨b', k', e2⟩ := isNo_spec c2 (hev _ _ h2)
          rw [e1] at r1
          have he : (execOp a.eval o).run P w = .ok (.value (.slice b n k)) w := by
            simp only [execOp, ho, resolve, invoke, builtin, Sem.run_bind, Sem.run_pure, Result.andThen_ok, List.map_toArray, List.map_cons, List.map_nil, e1, e2, run_append_no hu i1 hn]
          refine ⟨E, w, ?_, .inl ⟨_, he, r1⟩⟩
          rw [← hs]
          exact h.weak fun i hi => .inr hi
        · cases hu
      · cases hu
    · cases hu
  · cases hu
theorem appN_recs {ev : Operand → Option SV} {x y : Operand} {t t' : TypeId} {r : SV} {m' : Tr CB} (hu : appN T m ev x y t t' = some (r, m')) : Recs m m' := by
  unfold appN at hu
  split at hu
  · split at hu
    · split at hu
      · split at hu
        · cases hu; exact Recs.refl _
        · cases hu
      · cases hu
    · cases hu
  · cases hu
/-- Operations that write, some more. -/
def xW2 (T : Tab) (M : MTab) (m : Tr CB) (ev : Operand → Option SV) : Op → Option (SV × Tr CB)
  | .insert t x y z => match M t, ev x, ev y, ev z with
    | some i, some xv, some kv, some vv => (updC m i xv kv vv).map fun m' => (.und, m')
    | _, _, _, _ => none
  | .mapEntry t x y => match M t, ev x, ev y with
    | some i, some xv, some kv => entC m i xv kv
    | _, _, _ => none
  | .entryStore _ x y z => match ev x, ev y, ev z with
    | some xv, some (.d (.val (.int .i64 b))), some vv => (estC m xv b vv).map fun m' => (.und, m')
    | _, _, _ => none
  | .call c => match c.callee, c.args.toList, c.argTypes.toList with
    | .builtin .clear, [x], [t] => match T t, ev x with
      | some i, some (.sl _ _ 0 _) => match i.kind with
        | .slice _ => some (.tup [], m)
        | _ => none
      | _, _ => none
    | .builtin .append, [x, y], [t, t'] => appN T m ev x y t t'
    | _, _, _ => none
  | _ => none
theorem xW2_run (hT : TabOk P T) (hM : MTabOk P M) (h : Sim W0 R0 ns D s E a w) (hs : s.mem = mOf m) {nid : Nat} {ev : Operand → Option SV} (hev : ∀ x v, ev x = some v → Rep E w v (a.eval x)) {o : Oper} {x : SV} {m' : Tr CB} (hx : xW2 T M m ev o.op = some (x, m')) : OpW P W0 R0 ns D nid s.slots a w o x m' := by
  unfold xW2 at hx
  split at hx
  · rename_i t y z u ho
    split at hx
    · rename_i i xv kv vv hi h1 h2 h3
      rw [Option.map_eq_some_iff] at hx
      obtain ⟨m1, hu, he⟩ := hx
      cases he
      exact updC_run hM h hs (.inr ho) hi hu (hev _ _ h1) (hev _ _ h2) (hev _ _ h3)
    · cases hx
  · rename_i t y z ho
    split at hx
    · rename_i i xv kv hi h1 h2
      exact entC_run hM h hs ho hi hx (hev _ _ h1) (hev _ _ h2)
    · cases hx
  · rename_i t y z u ho
    split at hx
    · rename_i xv b vv h1 h2 h3
      rw [Option.map_eq_some_iff] at hx
      obtain ⟨m1, hu, he⟩ := hx
      cases he
      exact estC_run h hs ho hu (hev _ _ h1) (hev _ _ h2) (hev _ _ h3)
    · cases hx
  · rename_i c ho
    split at hx
    · rename_i y t hc ha ht
      rw [call_eq hc ha ht] at ho
      split at hx
      · rename_i i id off cp hi hy
        split at hx
        · rename_i e hk
          cases hx
          have hu := slice_und (hT t i hi) hk
          have hr := hev _ _ hy
          obtain ⟨u, hu'⟩ : ∃ u, a.eval y = u := ⟨_, rfl⟩
          rw [hu'] at hr
          cases hr with
          | sl _ _ _ _ q0 cd hd hcd _ hnd =>
          have hrun : (Builtin.clear_ #[t] o.type #[.slice (some ⟨(E.home id).blk, q0, none⟩) 0 cd]).run P w = .ok (.tuple #[]) w := by
            simp [Builtin.clear_, run_underlying hu]
          have he : (execOp a.eval o).run P w = .ok (.value (.tuple #[])) w := by
            simp only [execOp, ho, resolve, invoke, builtin, Sem.run_bind, Sem.run_pure, Result.andThen_ok, List.map_toArray, List.map_cons, List.map_nil, hu', hrun]
          refine ⟨E, w, ?_, .inl ⟨_, he, .tup [] #[] rfl (by simp)⟩⟩
          rw [← hs]
          exact h.weak fun i hi => .inr hi
        · cases hx
      · cases hx
    · rename_i y z t t' hc ha ht
      rw [call_eq hc ha ht] at ho
      exact appN_run hT h hs hev ho hx
    · cases hx
  · cases hx
theorem upd_recs {m m' : Tr CB} {i : MapI} {xv kv vv : SV} (hu : updC m i xv kv vv = some m') : Recs m m' := by
  unfold updC at hu
  split at hu
  · split at hu
    · rename_i hg
      split at hu
      · rename_i hc
        split at hu
        · split at hu
          · cases hu
            exact Recs.put (lt_deep hc.2.2.2) fun st pe k sl ps x y e => by rw [hg] at e; cases e
          · cases hu
            exact Recs.put (lt_deep hc.2.2.2) fun st pe k sl ps x y e => by rw [hg] at e; cases e
        · cases hu
      · cases hu
    · cases hu
  · cases hu
theorem ent_recs {m m' : Tr CB} {i : MapI} {xv kv r : SV} (hu : entC m i xv kv = some (r, m')) : Recs m m' := by
  unfold entC at hu
  split at hu
  · split at hu
    · rename_i hg
      split at hu
      · rename_i hc
        split at hu
        · split at hu
          · split at hu
            · cases hu
              exact Recs.put (lt_deep hc.2.2.2) fun st pe k sl ps x y e => by rw [hg] at e; cases e
            · cases hu
          · cases hu
            exact Recs.put (lt_deep hc.2.2.2) fun st pe k sl ps x y e => by rw [hg] at e; cases e
        · cases hu
      · cases hu
    · cases hu
  · cases hu
theorem est_recs {m m' : Tr CB} {xv vv : SV} {b : Int} (hu : estC m xv b vv = some m') : Recs m m' := by
  unfold estC at hu
  split at hu
  · split at hu
    · rename_i hg
      split at hu
      · rename_i hc
        split at hu
        · cases hu
          exact Recs.put (lt_deep hc) fun st pe k sl ps x y e => by rw [hg] at e; cases e
        · cases hu
      · cases hu
    · cases hu
  · cases hu
theorem xW2_recs {ev : Operand → Option SV} {o : Oper} {x : SV} {m' : Tr CB} (hx : xW2 T M m ev o.op = some (x, m')) : Recs m m' := by
  unfold xW2 at hx
  split at hx
  · split at hx
    · rw [Option.map_eq_some_iff] at hx
      obtain ⟨m1, hu, he⟩ := hx
      cases he
      exact upd_recs hu
    · cases hx
  · split at hx
    · exact ent_recs hx
    · cases hx
  · split at hx
    · rw [Option.map_eq_some_iff] at hx
      obtain ⟨m1, hu, he⟩ := hx
      cases he
      exact est_recs hu
    · cases hx
  · split at hx
    · split at hx
      · split at hx
        · cases hx; exact Recs.refl _
        · cases hx
      · cases hx
    · exact appN_recs hx
    · cases hx
  · cases hx
end Go.Proofs.Ytjjoiihgpkhndaa.Eng

/-
  Engine 2: ranges over maps, whatever the order. No program is named here.
-/
namespace Go.Proofs.Ytjjoiihgpkhndaa.Eng
open Go.RowKit
open Go.ChangeMaps (setBlock)
variable {P : Program} {T : Tab} {r : Option Nat} {ns n : Nat} {s : St}

/-- A key of a map as the engine has it. -/
def keyS : Value → SV
  | .agg cs => .agg (cs.toList.map fun c => .d (.val c))
  | v => .d (.val v)
def keyOk : Value → Bool
  | .agg cs => cs.toList.all (·.oneCell')
  | v => v.oneCell'
theorem keyS_rep {E : Env} {w : World} {v : Value} (h : keyOk v = true) : Rep E w (keyS v) v := by
  cases v with
  | agg cs =>
    refine .agg _ cs (by simp) (fun c hc => ?_) fun i c u hc hu => ?_
    · obtain ⟨x, _, rfl⟩ := List.mem_map.1 hc
      rfl
    · have hu' : cs.toList[i]? = some u := by simpa using hu
      rw [List.getElem?_map, hu'] at hc
      cases hc
      exact .d _ _ (.val _ (List.all_eq_true.1 h u (List.mem_of_getElem? hu')))
  | _ => exact .d _ _ (.val _ h)
theorem stepI_range {o : Oper} {t : TypeId} {x : Operand} {mid clock : Nat} {es : List (Value × SV × Nat)} {f : Bool} {k e : TypeId} (ho : o.op = .range t x) (ht : P.underlying t = some (.map k e)) (hx : opd ns s x = some (.mp mid)) (hm : s.mem mid = some (.map es clock f)) :
    StepI P r ns n s o fun n' s' => n' = n + 1 ∧ s' = { slots := setSlot s.slots o.dst (.ptr n 0 0), mem := setMem s.mem n (some (.iter mid clock clock [] false)) } := by
  intro W0 R0 B E a w hi h hd K Q hK
  refine oper_in (fun c e => by rw [ho] at e; cases e) ?_
  obtain ⟨u, hu⟩ : ∃ u, a.eval x = u := ⟨_, rfl⟩
  have hr := h.opd hx
  rw [hu] at hr
  cases hr with
  | mp _ hdm =>
    have H := h.mem mid _ hm
    cases H with
    | map _ _ _ ents h1 h2 h3 =>
      have hex : (execOp a.eval o).run P w = .ok (.value (.pointer (some ⟨w.heap.size, 0, none⟩))) (w.alloc (.mapIter (some (E.home mid).blk) clock #[] clock)) := by
        have hg : (getObj (E.home mid).blk).run P w = .ok (.map ents clock) w := by simp only [getObj, Sem.run, h1]
        simp only [execOp, ho, hu, Instr.range, Sem.run_bind, run_underlying ht, Result.andThen_ok, hg, run_newObj_alloc, Sem.run_pure]
      unfold Oper.wp
      rw [hex]
      have hb : Below w.heap.size w (w.alloc (.mapIter (some (E.home mid).blk) clock #[] clock)) := (Below.refl _ _).alloc (Nat.le_refl _) _
      have hD : ¬ (· < n) n := Nat.lt_irrefl n
      have hid : ¬ E.dom n := fun hk => Nat.lt_irrefl n (h.dom n hk)
      have hro : ∀ b, E.ro b → (w.alloc (.mapIter (some (E.home mid).blk) clock #[] clock)).heap[b]? = w.heap[b]? := fun b hb' => hb.block b (h.rlt b hb')
      have hE := E.le_add n ⟨w.heap.size, 1, 0⟩ hid
      have key := h.new hD (.iter mid clock clock [] false) ⟨w.heap.size, 1, 0⟩ (h.kept hb) hro (fun k c hk => hb.block _ (h.mem k c hk).lt) (.iter mid clock clock [] false #[] (by rw [hE.home mid hdm]; exact heap_alloc_new w _) (hE.dom mid hdm) (Nat.le_refl _) ⟨by simp, rfl⟩) (h.fresh (Nat.le_refl _)) rfl (fun hk => Nat.lt_irrefl _ (h.rlt _ hk)) (fun k c hk e => Nat.lt_irrefl _ (e ▸ (h.mem k c hk).lt))
      have hp : Rep (E.add n ⟨w.heap.size, 1, 0⟩) (w.alloc (.mapIter (some (E.home mid).blk) clock #[] clock)) (.ptr n 0 0) (.pointer (some ⟨w.heap.size, 0, none⟩)) := by
        have := Rep.ptr (E := E.add n ⟨w.heap.size, 1, 0⟩) (w := w.alloc (.mapIter (some (E.home mid).blk) clock #[] clock)) n 0 0 (.inl rfl)
        simpa [Env.add] using this
      exact hK (n + 1) _ _ _ _ ⟨rfl, rfl⟩ ((key.weak (D' := (· < n + 1)) fun i hi => by omega).put hd hp)
theorem stepI_next {o : Oper} {x : Operand} {id mid since last clock : Nat} {seen : List Nat} {es : List (Value × SV × Nat)} {f : Bool} (ho : o.op = .next x false) (hx : opd ns s x = some (.ptr id 0 0)) (hi : s.mem id = some (.iter mid since last seen false)) (hm : s.mem mid = some (.map es clock f))
    (hlt : ∀ q ∈ es, q.2.2 < since) (hc : since ≤ clock) (hk : ∀ q ∈ es, keyOk q.1 = true) :
    StepI P r ns n s o fun n' s' => n' = n ∧ (((∀ q ∈ es, q.2.2 ∈ seen) ∧ s' = { s with slots := setSlot s.slots o.dst (.tup [.d (.val (.bool false))]) }) ∨
      ∃ q ∈ es, q.2.2 ∉ seen ∧ s' = { slots := setSlot s.slots o.dst (.tup [.d (.val (.bool true)), keyS q.1, q.2.1]), mem := setMem s.mem id (some (.iter mid since clock (q.2.2 :: seen) false)) }) := by
  intro W0 R0 B E a w hin h hd K Q hK
  refine oper_in (fun c e => by rw [ho] at e; cases e) ?_
  obtain ⟨u, hu⟩ : ∃ u, a.eval x = u := ⟨_, rfl⟩
  have hr := h.opd hx
  rw [hu] at hr
  have hp : E.dom id ∧ u = .pointer (some ⟨(E.home id).blk, 0, none⟩) := by
    cases hr with | ptr _ _ _ hd => exact ⟨hd, by simp⟩
  have Hi := h.mem id _ hi
  have Hm := h.mem mid _ hm
  cases Hi with
  | iter _ _ _ _ _ arr g1 g2 g3 g4' =>
    have g4 := g4'.1
    cases Hm with
    | map _ _ _ ents h1 h2 h3 =>
      have hents : ∀ x ∈ ents.toList, ∃ i q, es[i]? = some q ∧ ents[i]? = some x := fun x hx => by
        obtain ⟨i, hi⟩ := List.getElem?_of_mem hx
        have hi2 : ents[i]? = some x := by simpa using hi
        have hlt : i < ents.size := (Array.getElem?_eq_some_iff.1 hi2).1
        exact ⟨i, _, List.getElem?_eq_getElem (by omega), hi2⟩
      have hold : ∀ x ∈ ents.toList, x.born < since := fun x hx => by
        obtain ⟨i, q, h4, h5⟩ := hents x hx
        rw [(h3 i q x h4 h5).2.1]
        exact hlt q (List.mem_of_getElem? h4)
      have hrun := run_next_at (P := P) w o.type (E.home id).blk (E.home mid).blk since last arr ents clock g1 h1 hold g3
      have hexe : ∀ {v : Value} {w' : World}, (Instr.next (.pointer (some ⟨(E.home id).blk, 0, none⟩)) false o.type).run P w = .ok v w' → (execOp a.eval o).run P w = .ok (.value v) w' := fun {v w'} hr => by
        simp [execOp, ho, hu, hp.2, hr]
      unfold Oper.wp
      have hleft : ∀ x, x ∈ (_root_.Go.leftOf ents arr).toList ↔ x ∈ ents.toList ∧ x.born ∉ seen := fun x => by
        unfold _root_.Go.leftOf
        rw [← g4 x.born]
        simp
      rcases hrun with ⟨z0, z1⟩ | ⟨x, x1, w1, x2, x3⟩
      · rw [hexe z1]
        refine hK n _ E _ w ⟨rfl, .inl ⟨fun q hq => ?_, rfl⟩⟩ (h.put hd (.tup _ _ rfl fun i c v hc hv => ?_))
        · obtain ⟨i, hi⟩ := List.getElem?_of_mem hq
          have hi3 : i < es.length := (List.getElem?_eq_some_iff.1 hi).1
          have hi2 : ents[i]? = some (ents[i]'(by omega)) := Array.getElem?_eq_getElem (by omega)
          have hb := (h3 i q _ hi hi2).2.1
          by_cases hs : q.2.2 ∈ seen
          · exact hs
          · have : ents[i]'(by omega) ∈ (_root_.Go.leftOf ents arr).toList := (hleft _).2 ⟨by simp, by rw [hb]; exact hs⟩
            rw [Array.size_eq_zero_iff.1 z0] at this
            simp at this
        · match i with
          | 0 => simp at hc hv; subst hc; subst hv; exact rep_val rfl
          | i + 1 => simp at hc
      · obtain ⟨y1, y2⟩ := (hleft x).1 x1
        obtain ⟨i, q, h4, h5⟩ := hents x y1
        obtain ⟨k1, k2, k3⟩ := h3 i q x h4 h5
        have hqm := List.mem_of_getElem? h4
        rw [hexe x3]
        have hrow : w1.heap = w.heap ∧ w1.os = w.os ∧ w1.tape = w.tape ∧ w1.output = w.output := by rcases x2 with rfl | rfl <;> exact ⟨rfl, rfl, rfl, rfl⟩
        have hlt2 : (E.home id).blk < w.heap.size := (Array.getElem?_eq_some_iff.1 g1).1
        have hg : w.grownBy (setBlock w1 (E.home id).blk (.mapIter (some (E.home mid).blk) since (arr.push x.born) clock)) (some (E.home id).blk) :=
          ⟨hrow.2.1, hrow.2.2.1, hrow.2.2.2, by simp [setBlock, hrow.1], fun j hj hne => by
            simp only [setBlock, hrow.1]
            rw [Array.getElem?_setIfInBounds_ne (fun e => hne (by rw [e]))]⟩
        have hself : (setBlock w1 (E.home id).blk (.mapIter (some (E.home mid).blk) since (arr.push x.born) clock)).heap[(E.home id).blk]? = some (.mapIter (some (E.home mid).blk) since (arr.push x.born) clock) := by
          simp only [setBlock, hrow.1]
          simp [hlt2]
        have key := h.write (b' := .iter mid since clock (q.2.2 :: seen) false) hi rfl rfl hg (.iter mid since clock (q.2.2 :: seen) false (arr.push x.born) hself g2 hc ⟨fun b => by
          rw [Array.toList_push, List.mem_append, List.mem_singleton, List.mem_cons, ← g4 b, k2, or_comm], by simp [k2]⟩)
        have hrw : ∀ b, E.ro b → (setBlock w1 (E.home id).blk (.mapIter (some (E.home mid).blk) since (arr.push x.born) clock)).heap[b]? = w.heap[b]? := fun b hb => hg.block b (h.rlt b hb) fun e => by
          have := (h.frz id _ hi).2 (Option.some.inj e ▸ hb)
          simp [Blk.frz] at this
        refine hK n _ E _ _ ⟨rfl, .inr ⟨q, hqm, by rw [← k2]; exact y2, rfl⟩⟩ (key.put hd (.tup _ _ rfl fun i c v hc hv => ?_))
        match i with
        | 0 => simp at hc hv; subst hc; subst hv; exact rep_val rfl
        | 1 => simp at hc hv; subst hc; subst hv; rw [k1]; exact keyS_rep (hk q hqm)
        | 2 => simp at hc hv; subst hc; subst hv; exact k3.keep (Env.le.refl E) hrw
        | i + 3 => simp at hc
theorem stepI_entry {o : Oper} {x : Operand} {id mid since last clock : Nat} {seen : List Nat} {es : List (Value × SV × Nat)} {f g : Bool} {q : Value × SV × Nat} (ho : o.op = .entry x) (hx : opd ns s x = some (.ptr id 0 0)) (hi : s.mem id = some (.iter mid since last (q.2.2 :: seen) g)) (hm : s.mem mid = some (.map es clock f))
    (hlast : last = clock) (hq : q ∈ es) (hn : (es.map (·.2.2)).Nodup) (hk : keyOk q.1 = true) :
    StepI P r ns n s o fun n' s' => n' = n ∧ s' = { s with slots := setSlot s.slots o.dst (.tup [keyS q.1, q.2.1]) } := by
  intro W0 R0 B E a w hin h hd K Q hK
  refine oper_in (fun c e => by rw [ho] at e; cases e) ?_
  obtain ⟨u, hu⟩ : ∃ u, a.eval x = u := ⟨_, rfl⟩
  have hr := h.opd hx
  rw [hu] at hr
  have hp : u = .pointer (some ⟨(E.home id).blk, 0, none⟩) := by
    cases hr with | ptr _ _ _ hd => simp
  have Hi := h.mem id _ hi
  have Hm := h.mem mid _ hm
  cases Hi with
  | iter _ _ _ _ _ arr g1 g2 g3 g4 =>
    cases Hm with
    | map _ _ _ ents h1 h2 h3 =>
      have hb : arr.back? = some q.2.2 := g4.2
      subst hlast
      obtain ⟨i, hi2⟩ := List.getElem?_of_mem hq
      have hlt : i < es.length := (List.getElem?_eq_some_iff.1 hi2).1
      have he : ents[i]? = some (ents[i]'(by omega)) := Array.getElem?_eq_getElem (by omega)
      obtain ⟨k1, k2, k3⟩ := h3 i q _ hi2 he
      have hborn : ents.toList.map (·.born) = es.map (·.2.2) := by
        apply List.ext_getElem?
        intro j
        simp only [List.getElem?_map, Array.getElem?_toList]
        by_cases hj : j < es.length
        · rw [List.getElem?_eq_getElem hj, Array.getElem?_eq_getElem (show j < ents.size by omega)]
          simp only [Option.map_some]
          rw [(h3 j _ _ (List.getElem?_eq_getElem hj) (Array.getElem?_eq_getElem (show j < ents.size by omega))).2.1]
        · rw [List.getElem?_eq_none (by omega), Array.getElem?_eq_none (by omega)]
          rfl
      have hf : ents.find? (·.born == q.2.2) = some (ents[i]'(by omega)) := by
        rw [← Array.find?_toList, ← k2]
        exact find_born (ents[i]'(by omega)) ents.toList (by rw [hborn]; exact hn) (by simp)
      have hrun : (execOp a.eval o).run P w = .ok (.value (.tuple #[(ents[i]'(by omega)).key, (ents[i]'(by omega)).val])) w := by
        simp only [execOp, ho, hu, hp, Instr.entry, getObj, Sem.run_bind, Sem.run, g1, h1, Result.andThen, hb, bne_self_eq_false, Bool.false_eq_true, if_false, hf]
        rfl
      unfold Oper.wp
      rw [hrun]
      refine hK n _ E _ w ⟨rfl, rfl⟩ (h.put hd (.tup _ _ rfl fun j c v hc hv => ?_))
      match j with
      | 0 => simp at hc hv; subst hc; subst hv; rw [k1]; exact keyS_rep hk
      | 1 => simp at hc hv; subst hc; subst hv; exact k3
      | j + 2 => simp at hc
theorem ExecI.entry {ops : Array Oper} {o : Oper} {l : List Oper} {Q : Nat → St → Prop} {x : Operand} {id mid since last clock : Nat} {seen : List Nat} {es : List (Value × SV × Nat)} {f g : Bool} (q : Value × SV × Nat) (hg : guardS ops ns s o = some true) (ho : o.op = .entry x) (hx : opd ns s x = some (.ptr id 0 0)) (hi : s.mem id = some (.iter mid since last (q.2.2 :: seen) g)) (hm : s.mem mid = some (.map es clock f))
    (hlast : last = clock) (hq : q ∈ es) (hn : (es.map (·.2.2)).Nodup) (hk : keyOk q.1 = true) (h : ExecI P r T ops ns n l { s with slots := setSlot s.slots o.dst (.tup [keyS q.1, q.2.1]) } Q) : ExecW P r T ops ns n (o :: l) s Q :=
  ExecI.callG hg (by rw [ho]; rfl) (stepI_entry ho hx hi hm hlast hq hn hk) fun n' s' ⟨e1, e2⟩ => by subst e1; subst e2; exact h
theorem ExecI.range {ops : Array Oper} {o : Oper} {l : List Oper} {Q : Nat → St → Prop} {t : TypeId} {x : Operand} {mid clock : Nat} {es : List (Value × SV × Nat)} {f : Bool} {k e : TypeId} (hg : guardS ops ns s o = some true) (ho : o.op = .range t x) (ht : P.underlying t = some (.map k e)) (hx : opd ns s x = some (.mp mid)) (hm : s.mem mid = some (.map es clock f))
    (h : ExecI P r T ops ns (n + 1) l { slots := setSlot s.slots o.dst (.ptr n 0 0), mem := setMem s.mem n (some (.iter mid clock clock [] false)) } Q) : ExecW P r T ops ns n (o :: l) s Q :=
  ExecI.callG hg (by rw [ho]; rfl) (stepI_range ho ht hx hm) fun n' s' ⟨e1, e2⟩ => by subst e1; subst e2; exact h
theorem ExecI.next {ops : Array Oper} {o : Oper} {l : List Oper} {Q : Nat → St → Prop} {x : Operand} {id mid since last clock : Nat} {seen : List Nat} {es : List (Value × SV × Nat)} {f : Bool} (hg : guardS ops ns s o = some true) (ho : o.op = .next x false) (hx : opd ns s x = some (.ptr id 0 0)) (hi : s.mem id = some (.iter mid since last seen false)) (hm : s.mem mid = some (.map es clock f))
    (hlt : ∀ q ∈ es, q.2.2 < since) (hc : since ≤ clock) (hk : ∀ q ∈ es, keyOk q.1 = true)
    (h1 : (∀ q ∈ es, q.2.2 ∈ seen) → ExecI P r T ops ns n l { s with slots := setSlot s.slots o.dst (.tup [.d (.val (.bool false))]) } Q)
    (h2 : ∀ q ∈ es, q.2.2 ∉ seen → ExecI P r T ops ns n l { slots := setSlot s.slots o.dst (.tup [.d (.val (.bool true)), keyS q.1, q.2.1]), mem := setMem s.mem id (some (.iter mid since clock (q.2.2 :: seen) false)) } Q) : ExecW P r T ops ns n (o :: l) s Q :=
  ExecI.callG hg (by rw [ho]; rfl) (stepI_next ho hx hi hm hlt hc hk) fun n' s' ⟨e1, e2⟩ => by
    subst e1
    rcases e2 with ⟨a, rfl⟩ | ⟨q, a, b, rfl⟩
    · exact h1 a
    · exact h2 q a b
end Go.Proofs.Ytjjoiihgpkhndaa.Eng

/-
  The runner, part 9: functions that range over small maps: all orders are run. No program is named here.
-/
noncomputable section
namespace Go.Proofs.Ytjjoiihgpkhndaa.Eng
open Go.RowKit
variable {P : Program} {T : Tab} {Z : ZTab} {Q : QTab} {M : MTab} {K : Known} {R : Runner} {r : Option Nat} {ns : Nat}

/-- t tells less than s. -/
structure LeS (t s : CS) : Prop where
  n : s.n ≤ t.n
  sl : ∀ i x, t.sl.get i = some x → s.sl.get i = some x
  mem : ∀ i c, t.mem.get i = some c → s.mem.get i = some c
theorem LeS.refl (s : CS) : LeS s s := ⟨Nat.le_refl _, fun _ _ h => h, fun _ _ h => h⟩
theorem LeS.trans {a b c : CS} (h : LeS a b) (k : LeS b c) : LeS a c := ⟨Nat.le_trans k.n h.n, fun i x hx => k.sl i x (h.sl i x hx), fun i x hx => k.mem i x (h.mem i x hx)⟩
theorem Sim.leS {W0 : Fix} {R0 : Nat → Prop} {E : Env} {a : Act} {w : World} {t s : CS} (hl : LeS t s) (h : Sim W0 R0 ns (· < s.n) s.den E a w) : Sim W0 R0 ns (· < t.n) t.den E a w := by
  have hm : ∀ i b, t.den.mem i = some b → s.den.mem i = some b := fun i b hb => by
    have hb' : mOf t.mem i = some b := hb
    show mOf s.mem i = some b
    simp only [mOf, Option.map_eq_some_iff] at hb' ⊢
    obtain ⟨c, hc, rfl⟩ := hb'
    exact ⟨c, hl.mem i c hc, rfl⟩
  refine ⟨h.below, h.ro0, h.ro1, h.rlt, h.size, h.dfr, fun i => ?_, fun i hi => Nat.lt_of_lt_of_le (h.dom i hi) hl.n, fun i b hi => h.live i b (hm i b hi), fun i b hi => h.mem i b (hm i b hi), fun i b hi => h.base i b (hm i b hi), fun i b hi => h.frz i b (hm i b hi), fun i j b c hi hj hne => h.inj i j b c (hm i b hi) (hm j c hj) hne, h.le0, h.re0⟩
  show Rep E w (sOf t.sl i) _
  cases hx : t.sl.get i with
  | none => rw [sOf, hx]; exact .und _
  | some x =>
    have h2 := h.slot i
    have e1 : sOf t.sl i = x := by rw [sOf, hx]; rfl
    have e2 : s.den.slots i = x := by show sOf s.sl i = x; rw [sOf, hl.sl i x hx]; rfl
    rw [e1]
    rw [e2] at h2
    exact h2
theorem AWi.lePost {c : Code} {n : Nat} {s : St} {e : Exit} {t u : CS} (h : AWi P r ns c n s (Is e u)) (hl : LeS t u) : AWi P r ns c n s (Is e t) := fun W0 R0 B E a w hi hs => by
  refine wpIn_mono (h W0 R0 B E a w hi hs) ?_
  rintro e2 a' w' ⟨n', s', E', W1, x1, i1, g1, rfl, rfl, rfl⟩
  exact ⟨t.n, t.den, E', W1, x1, i1, g1.leS hl, rfl, rfl, rfl⟩
theorem AWl.lePost {c x : Code} {n : Nat} {s : St} {e : Exit} {t u : CS} (h : AWl P r ns c x n s (Is e u)) (hl : LeS t u) : AWl P r ns c x n s (Is e t) := fun W0 R0 B E a w hi hs => by
  refine (h W0 R0 B E a w hi hs).mono ?_
  rintro e2 a' w' ⟨n', s', E', W1, x1, i1, g1, rfl, rfl, rfl⟩
  exact ⟨t.n, t.den, E', W1, x1, i1, g1.leS hl, rfl, rfl, rfl⟩
/-! What two states have in common -/
def meetT : Tr SV → Tr SV → Tr SV
  | .nd v l r, .nd v' l' r' => .nd (match v, v' with
    | some x, some y => bif same3 x y then some x else none
    | _, _ => none) (meetT l l') (meetT r r')
  | _, _ => .lf
def meetM : Tr CB → Tr CB → Tr CB
  | .nd v l r, .nd v' l' r' => .nd (bif sameB v v' then v else none) (meetM l l') (meetM r r')
  | _, _ => .lf
def meetS (s t : CS) : CS := ⟨Nat.max s.n t.n, meetT s.sl t.sl, meetM s.mem t.mem⟩
theorem meetT_get : ∀ (a b : Tr SV) (i : Nat) (x : SV), (meetT a b).get i = some x → a.get i = some x ∧ b.get i = some x
  | .lf, _, i, x, h => by simp [meetT, Tr.get_lf] at h
  | .nd _ _ _, .lf, i, x, h => by simp [meetT, Tr.get_lf] at h
  | .nd v l r, .nd v' l' r', i, x, h => by
    simp only [meetT, Tr.get_nd] at h ⊢
    split at h
    · rename_i e
      simp only [if_pos e]
      split at h
      · rename_i y z
        cases hc : same3 y z with
        | false => rw [hc] at h; cases h
        | true =>
          rw [hc] at h
          cases h
          rw [same3_eq hc]
          exact ⟨rfl, rfl⟩
      · cases h
    · rename_i e
      simp only [if_neg e]
      split at h
      · rename_i e; simp only [if_pos e]; exact meetT_get _ _ _ _ h
      · rename_i e; simp only [if_neg e]; exact meetT_get _ _ _ _ h
theorem meetM_get : ∀ (a b : Tr CB) (i : Nat) (x : CB), (meetM a b).get i = some x → a.get i = some x ∧ b.get i = some x
  | .lf, _, i, x, h => by simp [meetM, Tr.get_lf] at h
  | .nd _ _ _, .lf, i, x, h => by simp [meetM, Tr.get_lf] at h
  | .nd v l r, .nd v' l' r', i, x, h => by
    simp only [meetM, Tr.get_nd] at h ⊢
    split at h
    · rename_i e
      simp only [if_pos e]
      cases hc : sameB v v' with
      | false => rw [hc] at h; cases h
      | true =>
        rw [hc] at h
        have := sameB_eq hc
        subst this
        exact ⟨h, h⟩
    · rename_i e
      simp only [if_neg e]
      split at h
      · rename_i e; simp only [if_pos e]; exact meetM_get _ _ _ _ h
      · rename_i e; simp only [if_neg e]; exact meetM_get _ _ _ _ h
theorem meet_l (s t : CS) : LeS (meetS s t) s := ⟨Nat.le_max_left _ _, fun i x h => (meetT_get _ _ i x h).1, fun i x h => (meetM_get _ _ i x h).1⟩
theorem meet_r (s t : CS) : LeS (meetS s t) t := ⟨Nat.le_max_right _ _, fun i x h => (meetT_get _ _ i x h).2, fun i x h => (meetM_get _ _ i x h).2⟩
/-! Iterators of maps -/
structure ItD where
  id : Nat
  mid : Nat
  since : Nat
  last : Nat
  seen : List Nat
  es : List (Value × SV × Nat)
  clock : Nat
/-- The iterator that an operand is, with its map. -/
def itOf (ns : Nat) (s : CS) (x : Operand) : Option ItD := match opd ns s.den x with
  | some (.ptr id 0 0) => match s.mem.get id with
    | some (.b (.iter mid since last seen false)) => match s.mem.get mid with
      | some (.mp agg kk es clock) => match okN id && Nat.ble since clock && es.all (fun q => Nat.ble (q.2.2 + 1) since && keyOk (keyVal agg kk q.1)) && decide (es.map (·.2.2)).Nodup with
        | true => some ⟨id, mid, since, last, seen, es.map fun q => (keyVal agg kk q.1, q.2), clock⟩
        | false => none
      | _ => none
    | _ => none
  | _ => none
structure ItOk (ns : Nat) (s : CS) (x : Operand) (i : ItD) : Prop where
  op : opd ns s.den x = some (.ptr i.id 0 0)
  it : s.mem.get i.id = some (.b (.iter i.mid i.since i.last i.seen false))
  im : s.den.mem i.id = some (.iter i.mid i.since i.last i.seen false)
  mp : s.den.mem i.mid = some (.map i.es i.clock false)
  lt : i.id < 2 ^ deep
  since : i.since ≤ i.clock
  born : ∀ q ∈ i.es, q.2.2 < i.since
  key : ∀ q ∈ i.es, keyOk q.1 = true
  nodup : (i.es.map (·.2.2)).Nodup
theorem itOf_ok {s : CS} {x : Operand} {i : ItD} (h : itOf ns s x = some i) : ItOk ns s x i := by
  unfold itOf at h
  split at h
  · rename_i id h1
    split at h
    · rename_i mid since last seen h2
      split at h
      · rename_i agg kk es clock h3
        split at h
        · rename_i hc
          cases h
          simp only [Bool.and_eq_true, List.all_eq_true, decide_eq_true_eq] at hc
          obtain ⟨⟨⟨c1, c2⟩, c3⟩, c4⟩ := hc
          refine ⟨h1, h2, mOf_get h2, mOf_get h3, okN_lt c1, Nat.le_of_ble_eq_true c2, fun q hq => ?_, fun q hq => ?_, ?_⟩
          · obtain ⟨p, hp, rfl⟩ := List.mem_map.1 hq
            have := Nat.le_of_ble_eq_true (c3 p hp).1
            exact this
          · obtain ⟨p, hp, rfl⟩ := List.mem_map.1 hq
            exact (c3 p hp).2
          · rw [List.map_map]
            exact c4
        · cases h
      · cases h
    · cases h
  · cases h
def unseen (i : ItD) : List (Value × SV × Nat) := i.es.filter fun q => !memN i.seen q.2.2
theorem unseen_nil {i : ItD} (h : unseen i = []) : ∀ q ∈ i.es, q.2.2 ∈ i.seen := fun q hq => by
  have := List.filter_eq_nil_iff.1 h q hq
  simp only [Bool.not_eq_true', Bool.not_eq_false] at this
  exact memN_iff.1 this
theorem unseen_mem {i : ItD} {q : Value × SV × Nat} (hq : q ∈ i.es) (h : q.2.2 ∉ i.seen) : q ∈ unseen i := by
  refine List.mem_filter.2 ⟨hq, ?_⟩
  cases hm : memN i.seen q.2.2 with
  | true => exact absurd (memN_iff.1 hm) h
  | false => rfl
/-- Operations on iterators that end in one way alone. -/
def opX0 (M : MTab) (ns : Nat) (s : CS) (o : Oper) : Option Rs := match o.op with
  | .range t x => match M t, opd ns s.den x with
    | some _, some (.mp mid) => match s.mem.get mid with
      | some (.mp _ _ _ clock) => match free s.mem s.n with
        | true => some ⟨.ptr s.n 0 0, s.n + 1, putM s.mem s.n (some (.b (.iter mid clock clock [] false)))⟩
        | false => none
      | _ => none
    | _, _ => none
  | .entry x => match itOf ns s x with
    | some i => match i.seen with
      | b :: _ => match i.es.find? (fun q => Nat.beq q.2.2 b) with
        | some q => match Nat.beq i.last i.clock with
          | true => some ⟨.tup [keyS q.1, q.2.1], s.n, s.mem⟩
          | false => none
        | none => none
      | [] => none
    | none => none
  | .next x false => match itOf ns s x with
    | some i => match unseen i with
      | [] => some ⟨.tup [.d (.val (.bool false))], s.n, s.mem⟩
      | _ => none
    | none => none
  | _ => none
theorem opX0_ok (hM : MTabOk P M) {s : CS} {o : Oper} {q : Rs} (h : opX0 M ns s o = some q) : s.n ≤ q.n ∧ Recs s.mem q.m ∧ StepI P r ns s.n s.den o fun n' s' => n' = q.n ∧ s' = ⟨setSlot (sOf s.sl) o.dst q.y, mOf q.m⟩ := by
  unfold opX0 at h
  split at h
  · rename_i t x ho
    split at h
    · rename_i i mid hi hx
      split at h
      · rename_i agg kk es clock hg
        split at h
        · rename_i hf
          cases h
          refine ⟨Nat.le_succ _, Recs.new hf, ?_⟩
          have hs : s.den.mem mid = some _ := mOf_get hg
          intro W0 R0 B E a w hin hsim hd K Q hK
          refine stepI_range ho (hM t i hi).und hx hs W0 R0 B E a w hin hsim hd K Q fun n' s' E' a' w' ⟨e1, e2⟩ => hK n' s' E' a' w' ⟨e1, ?_⟩
          rw [e2]
          simp only [mOf_put (free_spec hf).1]
          rfl
        · cases h
      · cases h
    · cases h
  · rename_i x ho
    split at h
    · rename_i i hi
      have I := itOf_ok hi
      split at h
      · rename_i b l hb
        split at h
        · rename_i q hq
          split at h
          · rename_i hc
            cases h
            have hqm := List.mem_of_find?_eq_some hq
            have hqb : q.2.2 = b := by simpa using List.find?_some hq
            refine ⟨Nat.le_refl _, Recs.refl _, ?_⟩
            have him := I.im
            rw [hb, ← hqb] at him
            intro W0 R0 B E a w hin hsim hd K Q hK
            exact stepI_entry ho I.op him I.mp (by simpa using hc) hqm I.nodup (I.key q hqm) W0 R0 B E a w hin hsim hd K Q fun n' s' E' a' w' ⟨e1, e2⟩ => hK n' s' E' a' w' ⟨e1, by rw [e2]; rfl⟩
          · cases h
        · cases h
      · cases h
    · cases h
  · rename_i x ho
    split at h
    · rename_i i hi
      have I := itOf_ok hi
      split at h
      · rename_i hu
        cases h
        refine ⟨Nat.le_refl _, Recs.refl _, ?_⟩
        intro W0 R0 B E a w hin hsim hd K Q hK
        refine stepI_next ho I.op I.im I.mp I.born I.since I.key W0 R0 B E a w hin hsim hd K Q fun n' s' E' a' w' ⟨e1, e2⟩ => hK n' s' E' a' w' ⟨e1, ?_⟩
        rcases e2 with ⟨_, e2⟩ | ⟨q, hq, hn, _⟩
        · rw [e2]; rfl
        · exact absurd (unseen_nil hu q hq) hn
      · cases h
    · cases h
  · cases h
theorem opW_step {n : Nat} {s' : St} {m' : Tr CB} {o : Oper} {x : SV} (hdf : ∀ c, o.op ≠ .defer c) (h : ∀ (W0 : Fix) (R0 : Nat → Prop) (E : Env) (a : Act) (w : World), Sim W0 R0 ns (· < n) s' E a w → OpW P W0 R0 ns (· < n) n s'.slots a w o x m') : StepI P r ns n s' o fun n2 s2 => n2 = n + 1 ∧ s2 = ⟨setSlot s'.slots o.dst x, mOf m'⟩ := by
  intro W0 R0 B E a w hin hs hd K1 Q' hK1
  obtain ⟨E', w', h1, h2⟩ := h W0 R0 E a w hs
  refine oper_in hdf ?_
  unfold Oper.wp
  rcases h2 with ⟨v, hr, hv⟩ | ⟨hr, hu⟩
  · rw [hr]
    exact hK1 _ _ E' _ w' ⟨rfl, rfl⟩ ((h1.weak (D' := (· < n + 1)) fun i hi => by omega).put hd hv)
  · rw [hr]
    have := (h1.weak (D' := (· < n + 1)) fun i hi => by omega).put hd (Rep.und (E := E') (w := w') undef)
    exact hK1 _ _ E' _ w' ⟨rfl, by rw [hu]⟩ this
theorem xW2_step (hT : TabOk P T) (hM : MTabOk P M) {n : Nat} {s' : St} {m m' : Tr CB} {ev : Operand → Option SV} {o : Oper} {x : SV} (hm : s'.mem = mOf m) (hev : ∀ x v, ev x = some v → opd ns s' x = some v) (h : xW2 T M m ev o.op = some (x, m')) : StepI P r ns n s' o fun n2 s2 => n2 = n + 1 ∧ s2 = ⟨setSlot s'.slots o.dst x, mOf m'⟩ :=
  opW_step (fun c e => by rw [e] at h; cases h) fun W0 R0 E a w hs => xW2_run hT hM hs hm (fun y v hy => hs.opd (hev y v hy)) h
def opX (T : Tab) (M : MTab) (ns : Nat) (s : CS) (o : Oper) : Option Rs := match opX0 M ns s o with
  | some q => some q
  | none => match xW2 T M s.mem (opd ns s.den) o.op with
    | some (x, m') => some ⟨x, s.n + 1, m'⟩
    | none => none
theorem opX_ok (hT : TabOk P T) (hM : MTabOk P M) {s : CS} {o : Oper} {q : Rs} (h : opX T M ns s o = some q) : s.n ≤ q.n ∧ Recs s.mem q.m ∧ StepI P r ns s.n s.den o fun n' s' => n' = q.n ∧ s' = ⟨setSlot (sOf s.sl) o.dst q.y, mOf q.m⟩ := by
  unfold opX at h
  split at h
  · rename_i q' hq
    cases h
    exact opX0_ok hM hq
  · split at h
    · rename_i x m' hx
      cases h
      exact ⟨Nat.le_succ _, xW2_recs hx, xW2_step hT hM rfl (fun _ _ h => h) hx⟩
    · cases h
/-- Operations, those on iterators among them. -/
def doX (P : Program) (T : Tab) (Z : ZTab) (Q : QTab) (M : MTab) (K : Known) (R : Runner) (ns : Nat) (ops : Array Oper) : List Oper → CS → Option CS
  | [], s => some s
  | o :: l, s => match guardS ops ns s.den o with
    | some true => match opX T M ns s o with
      | some q => doX P T Z Q M K R ns ops l ⟨q.n, putD s.sl o.dst q.y, q.m⟩
      | none => match doOp P T Z Q M K R (opd ns s.den) s o with
        | some q => doX P T Z Q M K R ns ops l ⟨q.n, putD s.sl o.dst q.y, q.m⟩
        | none => none
    | some false => doX P T Z Q M K R ns ops l ⟨s.n, putD s.sl o.dst (.tup []), s.mem⟩
    | none => none
theorem doX_sound (hT : TabOk P T) (hZ : ZTabOk T Z) (hQ : QTabOk P Q) (hM : MTabOk P M) (hK : KnownOk P K) (hN : NoGor P) (hR : SoundR P R) (hns : okN ns = true) {ops : Array Oper} : ∀ (l : List Oper) (s : CS) {s' : CS}, doX P T Z Q M K R ns ops l s = some s' →
    s.n ≤ s'.n ∧ Recs s.mem s'.mem ∧ ∀ {W0 : Fix} {R0 : Nat → Prop} {B : Nat} {E : Env} {a : Act} {w : World} {Q : Exit → Act → World → Prop}, InAct r W0 R0 B → Sim W0 R0 ns (· < s.n) s.den E a w → (∀ E' a' w', Sim W0 R0 ns (· < s'.n) s'.den E' a' w' → Q .normal a' w') → wpListIn (fen (rOf W0 r)) 0 P ops Q l a w
  | [], s, s', h => by
    cases h
    exact ⟨Nat.le_refl _, Recs.refl _, fun _ hs hQ => hQ _ _ _ hs⟩
  | o :: l, s, s', h => by
    simp only [doX] at h
    split at h
    · rename_i hg
      split at h
      · rename_i q hq
        obtain ⟨h1, h2, h3⟩ := opX_ok (r := r) hT hM hq
        obtain ⟨i1, i2, i3⟩ := doX_sound hT hZ hQ hM hK hN hR hns l _ h
        refine ⟨Nat.le_trans h1 i1, h2.trans i2, fun {W0 R0 B E a w Q} hi hs hQ => wpListIn_step fun K hK => ?_⟩
        rw [guard_ok hs hg, if_pos rfl]
        refine h3 _ _ _ _ _ _ hi hs (guardS_dst hg) K _ fun n2 s2 E' a' w' hG hs2 => hK _ _ (i3 (E := E') hi ?_ hQ)
        obtain ⟨rfl, rfl⟩ := hG
        simp only [CS.den, sOf_dst hns hg]
        exact hs2
      split at h
      · rename_i q hq
        have h1 := doOp_sound hT hZ hQ hM hK hN hR (ns := ns) hq
        obtain ⟨i1, i2, i3⟩ := doX_sound hT hZ hQ hM hK hN hR hns l _ h
        refine ⟨Nat.le_trans h1.n i1, h1.recs.trans i2, fun {W0 R0 B E a w Q} hi hs hQ => wpListIn_step fun K hK => ?_⟩
        rw [guard_ok hs hg, if_pos rfl]
        refine h1.step r s.den rfl (fun x v hx => hx) _ _ _ _ _ _ hi hs (guardS_dst hg) K _ fun n2 s2 E' a' w' hG hs2 => hK _ _ (i3 (E := E') hi ?_ hQ)
        obtain ⟨rfl, rfl⟩ := hG
        simp only [CS.den, sOf_dst hns hg]
        exact hs2
      · cases h
    · rename_i hg
      obtain ⟨i1, i2, i3⟩ := doX_sound hT hZ hQ hM hK hN hR hns l _ h
      refine ⟨i1, i2, fun {W0 R0 B E a w Q} hi hs hQ => wpListIn_step fun K hK => ?_⟩
      rw [guard_ok hs hg, if_neg (by simp)]
      refine ⟨fun f _ => fen_fn _ f, hK _ _ (i3 (E := E) hi ?_ hQ)⟩
      simp only [CS.den, sOf_dst hns hg]
      exact hs.put (guardS_dst hg) rep_no
    · cases h
/-! All that may come next -/
def sameEx : Exit → Exit → Bool
  | .exit a, .exit b => Nat.beq a b
  | .ret, .ret => true
  | _, _ => false
theorem sameEx_eq {a b : Exit} (h : sameEx a b = true) : a = b := by
  unfold sameEx at h
  split at h
  · rw [Nat.beq_eq] at h; rw [h]
  · rfl
  · cases h
def meetAll {α : Type} (f : α → Option (Exit × CS)) : List α → Option (Exit × CS)
  | [] => none
  | q :: l => match l with
    | [] => f q
    | _ :: _ => match f q, meetAll f l with
      | some (e, a), some (e', b) => match sameEx e e' with
        | true => some (e, meetS a b)
        | false => none
      | _, _ => none
theorem meetAll_ok {α : Type} {f : α → Option (Exit × CS)} {e : Exit} : ∀ {l : List α} {t : CS}, meetAll f l = some (e, t) → ∀ q ∈ l, ∃ u, f q = some (e, u) ∧ LeS t u
  | [], t, h, q, hq => by cases hq
  | p :: l, t, h, q, hq => by
    unfold meetAll at h
    split at h
    · rw [List.mem_singleton] at hq
      subst hq
      exact ⟨t, h, LeS.refl t⟩
    · rename_i x l'
      split at h
      · rename_i e1 a e2 b h1 h2
        split at h
        · rename_i hc
          cases h
          have := sameEx_eq hc
          subst this
          rcases List.mem_cons.1 hq with rfl | hq
          · exact ⟨a, h1, meet_l a b⟩
          · obtain ⟨u, h3, h4⟩ := meetAll_ok h2 q hq
            exact ⟨u, h3, (meet_r a b).trans h4⟩
        · cases h
      · cases h
def dropL : Tr CB → Tr CB
  | .lf => .lf
  | .nd v l r => .nd (match v with
      | some (.loop ..) => none
      | v => v) (dropL l) (dropL r)
theorem dropL_get : ∀ (m : Tr CB) (i : Nat) (x : CB), (dropL m).get i = some x → m.get i = some x
  | .lf, i, x, h => h
  | .nd v l r, i, x, h => by
    simp only [dropL, Tr.get_nd] at h ⊢
    split at h
    · rename_i e
      rw [if_pos e]
      split at h
      · cases h
      · exact h
    · rename_i e
      rw [if_neg e]
      split at h
      · rename_i e; rw [if_pos e]; exact dropL_get _ _ _ h
      · rename_i e; rw [if_neg e]; exact dropL_get _ _ _ h
def noL (s : CS) : CS := ⟨s.n, s.sl, dropL s.mem⟩
theorem noL_le (s : CS) : LeS (noL s) s := ⟨Nat.le_refl _, fun _ _ h => h, fun i x h => dropL_get _ i x h⟩
theorem AWl.lePre {c x : Code} {s t : CS} {Q : Post} (h : AWl P r ns c x t.n t.den Q) (hl : LeS t s) : AWl P r ns c x s.n s.den Q := fun W0 R0 B E a w hi hs => h W0 R0 B E a w hi (hs.leS hl)
/-- A round for one of the entries that may come next. -/
def roundX (P : Program) (T : Tab) (Z : ZTab) (Q : QTab) (M : MTab) (K : Known) (X : Runner) (r : Option Nat) (ns : Nat) (ops : Array Oper) (o : Oper) (l : List Oper) (rest c0 : Code) (s : CS) (i : ItD) (q : Value × SV × Nat) : Option (Exit × CS) :=
  match doX P T Z Q M K X ns ops l ⟨s.n, putD s.sl o.dst (.tup [.d (.val (.bool true)), keyS q.1, q.2.1]), putM s.mem i.id (some (.b (.iter i.mid i.since i.clock (q.2.2 :: i.seen) false)))⟩ with
  | some s2 => match X r ns .no rest s2 with
    | some (.normal, s3) => X r ns (.lp c0) c0 (noL s3)
    | x => x
  | none => none
def nextX (P : Program) (T : Tab) (Z : ZTab) (Q : QTab) (M : MTab) (K : Known) (X : Runner) (r : Option Nat) (ns : Nat) (ops : Array Oper) (rest c0 : Code) (s : CS) : Option (Exit × CS) := match ops.toList with
  | [] => none
  | o :: l => match o.op with
    | .next x false => match guardS ops ns s.den o, itOf ns s x with
      | some true, some i => match noLoop s.mem with
        | true => meetAll (roundX P T Z Q M K X r ns ops o l rest c0 s i) (unseen i)
        | false => none
      | _, _ => none
    | _ => none
theorem recs_noLoop {m m' : Tr CB} (h : noLoop m = true) : Recs m m' := fun id st pe k sl ps x y e => absurd e (noLoop_get h id st pe k sl ps x y)
theorem nextX_sound (hT : TabOk P T) (hZ : ZTabOk T Z) (hQ : QTabOk P Q) (hM : MTabOk P M) (hK : KnownOk P K) (hN : NoGor P) (hR : SoundR P R) (hns : okN ns = true) {id : Nat} {ops : Array Oper} {rest c0 : Code} {s t : CS} {e : Exit} (h : nextX P T Z Q M K R r ns ops rest c0 s = some (e, t)) : Runs P r ns (.lp c0) (.seq (.region id ops false) rest) s e t := by
  unfold nextX at h
  split at h
  · cases h
  rename_i o l hol
  split at h
  · rename_i x ho
    split at h
    · rename_i i hg hi
      have I := itOf_ok hi
      split at h
      · rename_i hnl
        have hall := meetAll_ok h
        have hpair : ∀ q ∈ unseen i, ∃ s2 : CS, s.n ≤ s2.n ∧ s.n ≤ t.n ∧ AWi P r ns rest s2.n s2.den (thenP (fun n s => AWl P r ns c0 c0 n s (Is e t)) (Is e t)) ∧ ∀ {W0 : Fix} {R0 : Nat → Prop} {B : Nat} {E : Env} {a : Act} {w : World} {Q : Exit → Act → World → Prop}, InAct r W0 R0 B → Sim W0 R0 ns (· < s.n) ⟨setSlot (sOf s.sl) o.dst (.tup [.d (.val (.bool true)), keyS q.1, q.2.1]), setMem (mOf s.mem) i.id (some (.iter i.mid i.since i.clock (q.2.2 :: i.seen) false))⟩ E a w → (∀ E' a' w', Sim W0 R0 ns (· < s2.n) s2.den E' a' w' → Q .normal a' w') → wpListIn (fen (rOf W0 r)) 0 P ops Q l a w := by
          intro q hq
          obtain ⟨u, hu, hle⟩ := hall q hq
          unfold roundX at hu
          split at hu
          · rename_i s2 h2
            obtain ⟨i1, i2, i3⟩ := doX_sound (r := r) hT hZ hQ hM hK hN hR hns _ _ h2
            have e1 : (CS.den ⟨s.n, putD s.sl o.dst (.tup [.d (.val (.bool true)), keyS q.1, q.2.1]), putM s.mem i.id (some (.b (.iter i.mid i.since i.clock (q.2.2 :: i.seen) false)))⟩) = ⟨setSlot (sOf s.sl) o.dst (.tup [.d (.val (.bool true)), keyS q.1, q.2.1]), setMem (mOf s.mem) i.id (some (.iter i.mid i.since i.clock (q.2.2 :: i.seen) false))⟩ := by
              simp only [CS.den, sOf_dst hns hg, mOf_put I.lt]
              rfl
            rw [e1] at i3
            refine ⟨s2, i1, ?_, ?_, i3⟩
            · split at hu
              · rename_i s3 h3
                have k1 := hR r ns .no rest s2 .normal s3 hns h3
                have k2 := hR r ns (.lp c0) c0 _ e u hns hu
                have := k1.n
                have h4 : s3.n ≤ u.n := k2.n
                have h5 : u.n ≤ t.n := hle.n
                have h6 : s.n ≤ s2.n := i1
                omega
              · have k1 := hR r ns .no rest s2 e u hns hu
                have := k1.n
                have h5 : u.n ≤ t.n := hle.n
                have h6 : s.n ≤ s2.n := i1
                omega
            · split at hu
              · rename_i s3 h3
                have k1 := hR r ns .no rest s2 .normal s3 hns h3
                have k2 := hR r ns (.lp c0) c0 _ e u hns hu
                have k3 : AWl P r ns c0 c0 (noL s3).n (noL s3).den (Is e u) := k2.walk
                exact k1.on ((k3.lePost hle).lePre (noL_le s3))
              · rename_i hne
                have k1 := hR r ns .no rest s2 e u hns hu
                have he : e ≠ .normal := fun he => by subst he; exact hne _ hu
                have k2 : AWi P r ns rest s2.n s2.den (Is e u) := k1.walk
                refine AWi.mono (k2.lePost hle) fun e2 _ _ ⟨a, b, c⟩ => ?_
                subst a
                cases e2 <;> first | exact absurd rfl he | exact ⟨rfl, b, c⟩
          · cases hu
        have hex : ∃ q, q ∈ unseen i := by
          cases hU : unseen i with
          | nil => rw [hU] at h; cases h
          | cons q _ => exact ⟨q, List.mem_cons_self⟩
        obtain ⟨q0, hq0⟩ := hex
        obtain ⟨_, _, hn, _⟩ := hpair q0 hq0
        refine ⟨AWl.of (AWi.seq fun W0 R0 B E a w hin hs => ?_), hn, recs_noLoop hnl⟩
        have hops : ops = ops.toList.toArray := by simp
        rw [hops]
        refine wpIn_region_lit ?_
        rw [← hops, hol]
        refine wpListIn_step fun K hK => ?_
        rw [guard_ok hs hg, if_pos rfl]
        refine stepI_next ho I.op I.im I.mp I.born I.since I.key _ _ _ _ _ _ hin hs (guardS_dst hg) K _ fun n2 st E' a' w' hG hs2 => ?_
        obtain ⟨rfl, hG⟩ := hG
        rcases hG with ⟨hno, _⟩ | ⟨q, hq, hns', rfl⟩
        · exact absurd (hno q0 ((List.mem_filter.1 hq0).1)) (by
            have := (List.mem_filter.1 hq0).2
            intro h1
            rw [memN_iff.2 h1] at this
            cases this)
        · obtain ⟨s2, j1, _, j2, j3⟩ := hpair q (unseen_mem hq hns')
          exact hK _ _ (j3 hin hs2 fun E2 a2 w2 h5 => ⟨_, _, E2, W0, Ext.refl _, hin, h5, j2⟩)
      · cases h
    · cases h
  · cases h
/-! The runner that knows iterators -/
def isIt : Op → Bool
  | .range .. | .next .. | .entry .. | .insert .. | .mapEntry .. | .entryStore .. => true
  | .call c => match c.callee with
    | .builtin .clear | .builtin .append => true
    | _ => false
  | _ => false
def hasIt (ops : Array Oper) : Bool := ops.toList.any fun o => isIt o.op
def bodyX (P : Program) (T : Tab) (Z : ZTab) (Q : QTab) (M : MTab) (K : Known) (X : Runner) : Runner := fun r ns cx c s => match cx, c with
  | .no, .region _ ops false => match hasIt ops with
    | true => match doX P T Z Q M K X ns ops ops.toList s with
      | some s' => some (.normal, s')
      | none => none
    | false => bodyRF ⟨P, T, Z, Q, M, K⟩ X r ns cx c s
  | .lp c0, .seq (.region _ ops false) rest => match nextX P T Z Q M K X r ns ops rest c0 s with
    | some x => some x
    | none => bodyRF ⟨P, T, Z, Q, M, K⟩ X r ns cx c s
  | _, _ => bodyRF ⟨P, T, Z, Q, M, K⟩ X r ns cx c s
theorem bodyX_sound (hT : TabOk P T) (hZ : ZTabOk T Z) (hQ : QTabOk P Q) (hM : MTabOk P M) (hK : KnownOk P K) (hN : NoGor P) (hm : P.follows .mixedOrders = true) (hR : SoundR P R) : SoundR P (bodyX P T Z Q M K R) := by
  intro r ns cx c s e s' hns h
  have base : bodyRF ⟨P, T, Z, Q, M, K⟩ R r ns cx c s = some (e, s') → Runs P r ns cx c s e s' := fun h => by
    rw [bodyRF_eq] at h
    exact bodyR_sound hT hZ hQ hM hK hN hm hR r ns cx c s e s' hns h
  unfold bodyX at h
  split at h
  · rename_i id ops
    split at h
    · split at h
      · rename_i sF hd
        cases h
        obtain ⟨i1, i2, i3⟩ := doX_sound (r := r) hT hZ hQ hM hK hN hR hns _ _ hd
        refine ⟨fun W0 R0 B E a w hi hs => ?_, i1, i2⟩
        have hops : ops = ops.toList.toArray := by simp
        rw [hops]
        refine wpIn_region_lit ?_
        rw [← hops]
        exact i3 hi hs fun E' a' w' h1 => ⟨_, _, E', W0, Ext.refl _, hi, h1, Is.here⟩
      · cases h
    · exact base h
  · rename_i c0 id ops rest
    split at h
    · rename_i x hx
      cases h
      exact nextX_sound hT hZ hQ hM hK hN hR hns hx
    · exact base h
  · exact base h
def runX (P : Program) (T : Tab) (Z : ZTab) (Q : QTab) (M : MTab) (K : Known) (n : Nat) : Runner := @Nat.rec (fun _ => Runner) (fun _ _ _ _ _ => none) (fun _ ih => bodyX P T Z Q M K ih) n
theorem runX_sound (hT : TabOk P T) (hZ : ZTabOk T Z) (hQ : QTabOk P Q) (hM : MTabOk P M) (hK : KnownOk P K) (hN : NoGor P) (hm : P.follows .mixedOrders = true) : ∀ n, SoundR P (runX P T Z Q M K n)
  | 0 => fun _ _ _ _ _ _ _ _ h => by cases h
  | n + 1 => bodyX_sound hT hZ hQ hM hK hN hm (runX_sound hT hZ hQ hM hK hN hm n)
/-- The call ends as told, at least. -/
def chkX (P : Program) (T : Tab) (Z : ZTab) (Q : QTab) (M : MTab) (K : Known) (fuel : Nat) (e : Ent) : Bool := match callFn P T (runX P T Z Q M K fuel) e.f e.args e.n e.m with
  | some q => same3 q.y e.q.y && Nat.beq q.n e.q.n && subTr e.q.m q.m && noLoop e.m
  | none => false
theorem chkX_ok (hT : TabOk P T) (hZ : ZTabOk T Z) (hQ : QTabOk P Q) (hM : MTabOk P M) (hK : KnownOk P K) (hN : NoGor P) (hm : P.follows .mixedOrders = true) {fuel : Nat} {e : Ent} (h : chkX P T Z Q M K fuel e = true) : Calls2 P e.f e.args e.n e.m e.q := by
  unfold chkX at h
  split at h
  · rename_i q hq
    simp only [Bool.and_eq_true, Nat.beq_eq] at h
    obtain ⟨⟨⟨h1, h2⟩, h3⟩, h4⟩ := h
    have H := callFn_sound hT hN (runX_sound hT hZ hQ hM hK hN hm fuel) hq
    refine H.less (same3_eq h1).symm h2.symm (fun i b hb => ?_) fun id st pe k sl ps x y hh => absurd hh (noLoop_get h4 id st pe k sl ps x y)
    simp only [mOf, Option.map_eq_some_iff] at hb ⊢
    obtain ⟨c, hc, rfl⟩ := hb
    exact ⟨c, subTr_get h3 i c hc, rfl⟩
  · cases h
end Go.Proofs.Ytjjoiihgpkhndaa.Eng

/-
  The engine, part Rc: calls that only read memory: what holds of them for any set of names. No program is named here.
-/
namespace Go.Proofs.Ytjjoiihgpkhndaa.Eng
open Go.RowKit
variable {P : Program} {T : Tab}

/-- What is told with few names, where fewer names are kept. -/
theorem Rep.restrict {E E' E'' : Env} {w w' : World} {x : SV} {v : Value} (hr : ∀ b, E'.ro b → E''.ro b) (hd : ∀ i, E.dom i → E''.dom i) (hh : ∀ i, E.dom i → E''.home i = E'.home i) (h : Rep E' w' x v) : ∀ v0, Rep E w x v0 → Rep E'' w' x v := by
  induction h with
  | und v => exact fun _ _ => .und v
  | d x v h => exact fun _ _ => .d x v (h.keep hr fun _ _ => rfl)
  | agg cs vs hs h1 _ ih =>
    intro v0 h0
    cases h0 with
    | agg _ us hs0 _ h2 =>
      refine .agg cs vs hs h1 fun i c v hc hv => ?_
      have hi : i < us.size := by have := (List.getElem?_eq_some_iff.1 hc).1; omega
      exact ih i c v hc hv _ (h2 i c _ hc (Array.getElem?_eq_getElem hi))
  | nilS => exact fun _ _ => .nilS
  | lin id n _ hz hc =>
    intro v0 h0
    cases h0 with | lin _ _ k1 _ _ => rw [← hh id k1] at hz hc ⊢; exact .lin id n (hd _ k1) hz hc
  | own id n z _ hz =>
    intro v0 h0
    cases h0 with | own _ _ _ k1 _ => rw [← hh id k1] at hz ⊢; exact .own id n z (hd _ k1) hz
  | rptr cs b off f hb h1 hc hr' => exact fun _ _ => .rptr cs b off f (hr b hb) h1 hc fun j c hj => (hr' j c hj).keep hr fun _ _ => rfl
  | ptr id i j _ =>
    intro v0 h0
    cases h0 with | ptr _ _ _ k1 => rw [← hh id k1]; exact .ptr id i j (hd _ k1)
  | fn f xs ys us vs h1 h2 _ _ ih1 ih2 =>
    intro v0 h0
    cases h0 with
    | fn _ _ _ us0 vs0 k1 k2 k3 k4 =>
      refine .fn f xs ys us vs h1 h2 (fun i c v hc hv => ?_) fun i c v hc hv => ?_
      · have hi : i < us0.size := by have := (List.getElem?_eq_some_iff.1 hc).1; omega
        exact ih1 i c v hc hv _ (k3 i c _ hc (Array.getElem?_eq_getElem hi))
      · have hi : i < vs0.size := by have := (List.getElem?_eq_some_iff.1 hc).1; omega
        exact ih2 i c v hc hv _ (k4 i c _ hc (Array.getElem?_eq_getElem hi))
  | tup cs vs hs _ ih =>
    intro v0 h0
    cases h0 with
    | tup _ us hs0 h2 =>
      refine .tup cs vs hs fun i c v hc hv => ?_
      have hi : i < us.size := by have := (List.getElem?_eq_some_iff.1 hc).1; omega
      exact ih i c v hc hv _ (h2 i c _ hc (Array.getElem?_eq_getElem hi))
  | yield id _ =>
    intro v0 h0
    cases h0 with | yield _ k1 => rw [← hh id k1]; exact .yield id (hd _ k1)
  | sl id off n c o k _ hk ho hn =>
    intro v0 h0
    cases h0 with | sl _ _ _ _ _ _ k1 => rw [← hh id k1] at hk ⊢; exact .sl id off n c o k (hd _ k1) hk ho hn
  | mp id _ =>
    intro v0 h0
    cases h0 with | mp _ k1 => rw [← hh id k1]; exact .mp id (hd _ k1)
  | full rows A h => exact fun _ _ => .full rows A (h.keep hr fun _ _ => rfl)
theorem Holds.restrict {E E' E'' : Env} {w w' : World} {h0 h : Home} {b : Blk} (hr : ∀ b, E'.ro b → E''.ro b) (hd : ∀ i, E.dom i → E''.dom i) (hh : ∀ i, E.dom i → E''.home i = E'.home i) (k : Holds E' w' h b) (k0 : Holds E w h0 b) : Holds E'' w' h b := by
  cases k with
  | box ty cells frz cur h1 h2 h3 h4 =>
    cases k0 with
    | box _ _ _ cur0 g1 g2 g3 g4 =>
      refine .box ty cells frz cur h1 h2 h3 fun j c v hc hv => ?_
      have hj : j < cur0.size := by have := (List.getElem?_eq_some_iff.1 hc).1; omega
      exact (h4 j c v hc hv).restrict hr hd hh _ (g4 j c _ hc (Array.getElem?_eq_getElem hj))
  | loop st pe ns sl ps x y frz r g h1 h2 h3 h4 h5 h6 h7 h8 =>
    cases k0 with
    | loop _ _ _ _ _ _ _ _ r0 g0 e1 e2 e3 e4 e5 e6 e7 e8 => exact .loop st pe ns sl ps x y frz r g h1 h2 h3 h4 h5 h6 h7 fun t => (h8 t).restrict hr hd hh _ (e8 t)
  | iter mid since last seen frz arr h1 h2 h3 h4 =>
    cases k0 with
    | iter _ _ _ _ _ arr0 g1 g2 => exact .iter mid since last seen frz arr (by rw [hh mid g2]; exact h1) (hd mid g2) h3 h4
  | part z ty cells frz cur h0 h1 h2 h3 h4 =>
    cases k0 with
    | part _ _ _ _ cur0 g0 g1 g2 g3 g4 =>
      refine .part z ty cells frz cur h0 h1 h2 h3 fun j c v hc hv => ?_
      have hj : j < cur0.size := by have := (List.getElem?_eq_some_iff.1 hc).1; omega
      exact (h4 j c v hc hv).restrict hr hd hh _ (g4 j c _ hc (Array.getElem?_eq_getElem hj))
  | map es clock frz ents h1 h2 h3 =>
    cases k0 with
    | map _ _ _ ents0 e1 e2 e3 =>
      refine .map es clock frz ents h1 h2 fun i q e hq he => ?_
      have hi : i < ents0.size := by have := (List.getElem?_eq_some_iff.1 hq).1; omega
      obtain ⟨a, b, c⟩ := h3 i q e hq he
      exact ⟨a, b, c.restrict hr hd hh _ (e3 i q _ hq (Array.getElem?_eq_getElem hi)).2.2⟩
  | row ty esz rows frz cur h1 h2 h3 h4 h5 h6 h7 h8 => exact .row ty esz rows frz cur h1 h2 h3 h4 h5 h6 h7 fun i j r c v hr' hc hv => (h8 i j r c v hr' hc hv).keep hr fun _ _ => rfl
/-- Values that are data, though not written as such. -/
def mapO {α β : Type} (f : α → Option β) : List α → Option (List β)
  | [] => some []
  | x :: l => match f x, mapO f l with
    | some y, some m => some (y :: m)
    | _, _ => none
theorem mapO_get {α β : Type} {f : α → Option β} : ∀ {l : List α} {m : List β}, mapO f l = some m → m.length = l.length ∧ ∀ (i : Nat) (x : α), l[i]? = some x → ∃ y, m[i]? = some y ∧ f x = some y
  | [], m, h => by cases h; simp
  | x :: l, m, h => by
    simp only [mapO] at h
    split at h
    · rename_i y m' h1 h2
      cases h
      obtain ⟨e, ih⟩ := mapO_get h2
      refine ⟨by simp [e], fun i z hz => ?_⟩
      cases i with
      | zero => simp at hz; subst hz; exact ⟨y, rfl, h1⟩
      | succ i => exact ih i z hz
    · cases h
def toD1 : SV → Option Dat
  | .d d => some d
  | _ => none
def toD2 : SV → Option Dat
  | .agg l => match mapO toD1 l with
    | some m => some (.agg m)
    | none => none
  | x => toD1 x
def toD3 : SV → Option Dat
  | .tup l => match mapO toD2 l with
    | some m => some (.tup m)
    | none => none
  | x => toD2 x
theorem toD1_eq {x : SV} {d : Dat} (h : toD1 x = some d) : x = .d d := by
  unfold toD1 at h
  split at h
  · cases h; rfl
  · cases h
theorem toD2_rep {E : Env} {w : World} {x : SV} {d : Dat} {v : Value} (h : toD2 x = some d) : Rep E w x v ↔ Rep E w (.d d) v := by
  unfold toD2 at h
  split at h
  · rename_i l
    split at h
    · rename_i m hm
      cases h
      obtain ⟨hlen, hget⟩ := mapO_get hm
      have hget2 : ∀ (i : Nat) (d : Dat), m[i]? = some d → l[i]? = some (.d d) := fun i d hd => by
        have hi : i < l.length := by rw [← hlen]; exact (List.getElem?_eq_some_iff.1 hd).1
        obtain ⟨y, h1, h2⟩ := hget i _ (List.getElem?_eq_getElem hi)
        rw [hd] at h1
        cases h1
        rw [List.getElem?_eq_getElem hi, toD1_eq h2]
      constructor
      · intro hr
        cases hr with
        | agg _ vs h1 h2 h3 =>
        refine .d _ _ (.agg m vs (by rw [h1, hlen]) (fun c hc => ?_) fun i c v hc hv => ?_)
        · obtain ⟨i, hi⟩ := List.mem_iff_getElem?.1 hc
          exact h2 (.d c) (List.mem_of_getElem? (hget2 i c hi))
        · cases h3 i _ v (hget2 i c hc) hv with | d _ _ h => exact h
      · intro hr
        cases hr with | d _ _ hd =>
        cases hd with
        | agg _ vs h1 h2 h3 =>
        refine .agg l vs (by rw [h1, hlen]) (fun c hc => ?_) fun i c v hc hv => ?_
        · obtain ⟨i, hi⟩ := List.mem_iff_getElem?.1 hc
          obtain ⟨y, q1, q2⟩ := hget i c hi
          rw [toD1_eq q2]
          exact h2 y (List.mem_of_getElem? q1)
        · obtain ⟨y, q1, q2⟩ := hget i c hc
          rw [toD1_eq q2]
          exact .d _ _ (h3 i y v q1 hv)
    · cases h
  · rw [toD1_eq h]
theorem toD3_rep {E : Env} {w : World} {x : SV} {d : Dat} {v : Value} (h : toD3 x = some d) : Rep E w x v ↔ Rep E w (.d d) v := by
  unfold toD3 at h
  split at h
  · rename_i l
    split at h
    · rename_i m hm
      cases h
      obtain ⟨hlen, hget⟩ := mapO_get hm
      have hget2 : ∀ (i : Nat) (d : Dat), m[i]? = some d → ∃ x, l[i]? = some x ∧ toD2 x = some d := fun i d hd => by
        have hi : i < l.length := by rw [← hlen]; exact (List.getElem?_eq_some_iff.1 hd).1
        obtain ⟨y, h1, h2⟩ := hget i _ (List.getElem?_eq_getElem hi)
        rw [hd] at h1
        cases h1
        exact ⟨_, List.getElem?_eq_getElem hi, h2⟩
      constructor
      · intro hr
        cases hr with
        | tup _ vs h1 h3 =>
        refine .d _ _ (.tup m vs (by rw [h1, hlen]) fun i c v hc hv => ?_)
        obtain ⟨x, q1, q2⟩ := hget2 i c hc
        cases (toD2_rep q2).1 (h3 i x v q1 hv) with | d _ _ h => exact h
      · intro hr
        cases hr with | d _ _ hd =>
        cases hd with
        | tup _ vs h1 h3 =>
        refine .tup l vs (by rw [h1, hlen]) fun i c v hc hv => ?_
        obtain ⟨y, q1, q2⟩ := hget i c hc
        exact (toD2_rep q2).2 (.d _ _ (h3 i y v q1 hv))
    · cases h
  · exact toD2_rep h
/-- Called with these values in this memory, it returns data; memory is as it was, whatever names there are. -/
theorem RCall.of {f : FuncId} {svs : List SV} {d : Dat} {m : Mem} {n0 : Nat} (h : ∀ n, n0 ≤ n → CWp P f svs n m fun y _ m' => y = .d d ∧ ∀ j, j < n → m' j = m j) : RCall P f svs d m :=
  ⟨(h n0 (Nat.le_refl _)).callable, fun W0 R0 D N E w vs hD M h1 h2 => by
    refine ((h (max N n0) (Nat.le_max_right _ _)).calls W0 R0 E w vs (ms_dom M fun i hi => Nat.lt_of_lt_of_le (hD i hi) (Nat.le_max_left _ _)) h1 h2).mono ?_
    rintro e w' ⟨v, E', n', m', y, rfl, M', hE, hw, hv, rfl, hm⟩
    have hlt : ∀ i b, m i = some b → m' i = some b := fun i b hi => by
      rw [hm i (Nat.lt_of_lt_of_le (hD i (M.dom i (M.live i b hi))) (Nat.le_max_left _ _))]; exact hi
    let E2 : Env := { E' with dom := E.dom }
    refine ⟨v, E2, rfl, ⟨M'.below, M'.ro0, M'.ro1, M'.rlt, M.dom, M.live, fun i b hi => ?_, fun i b hi => M'.base i b (hlt i b hi), fun i b hi => M'.frz i b (hlt i b hi), fun i j b c hi hj hn => M'.inj i j b c (hlt i b hi) (hlt j c hj) hn⟩, ⟨hE.ro, fun _ h => h, hE.home⟩, hw, ?_⟩
    · exact Holds.restrict (E := E) (E' := E') (E'' := E2) (w := w) (w' := w') (h0 := E.home i) (h := E'.home i) (fun _ h => h) (fun _ h => h) (fun _ _ => rfl) (M'.mem i b (hlt i b hi)) (M.mem i b hi)
    · cases hv with | d _ _ hv => exact .d _ _ hv⟩
theorem RCall.of3 {f : FuncId} {svs : List SV} {d : Dat} {m : Mem} {n0 : Nat} (h : ∀ n, n0 ≤ n → CWp P f svs n m fun y _ m' => toD3 y = some d ∧ ∀ j, j < n → m' j = m j) : RCall P f svs d m :=
  ⟨(h n0 (Nat.le_refl _)).callable, fun W0 R0 D N E w vs hD M h1 h2 => by
    refine ((h (max N n0) (Nat.le_max_right _ _)).calls W0 R0 E w vs (ms_dom M fun i hi => Nat.lt_of_lt_of_le (hD i hi) (Nat.le_max_left _ _)) h1 h2).mono ?_
    rintro e w' ⟨v, E', n', m', y, rfl, M', hE, hw, hv, hy, hm⟩
    have hlt : ∀ i b, m i = some b → m' i = some b := fun i b hi => by
      rw [hm i (Nat.lt_of_lt_of_le (hD i (M.dom i (M.live i b hi))) (Nat.le_max_left _ _))]; exact hi
    let E2 : Env := { E' with dom := E.dom }
    refine ⟨v, E2, rfl, ⟨M'.below, M'.ro0, M'.ro1, M'.rlt, M.dom, M.live, fun i b hi => ?_, fun i b hi => M'.base i b (hlt i b hi), fun i b hi => M'.frz i b (hlt i b hi), fun i j b c hi hj hn => M'.inj i j b c (hlt i b hi) (hlt j c hj) hn⟩, ⟨hE.ro, fun _ h => h, hE.home⟩, hw, ?_⟩
    · exact Holds.restrict (E := E) (E' := E') (E'' := E2) (w := w) (w' := w') (h0 := E.home i) (h := E'.home i) (fun _ h => h) (fun _ h => h) (fun _ _ => rfl) (M'.mem i b (hlt i b hi)) (M.mem i b hi)
    · cases (toD3_rep hy).1 hv with | d _ _ hv => exact .d _ _ hv⟩
/-- What is told of these blocks alone. -/
def only (m : Nat → Option Blk) (ids : List Nat) : Nat → Option Blk := fun i => if i ∈ ids then m i else none
@[simp] theorem only_at {m : Nat → Option Blk} {ids : List Nat} {i : Nat} : only m ids i = if i ∈ ids then m i else none := rfl
section
variable {ops : Array Oper} {ns nid : Nat} {o : Oper} {l : List Oper} {s : St} {log : List Foot} {Q2 : St → List Foot → Prop}
/-- In a region that draws its order, a call that reads these blocks alone. -/
theorem Exec.callR {f : FuncId} {svs : List SV} {d : Dat} (rds : List Nat) (h3 : RCall P f svs d (only s.mem rds)) (hg : guardS ops ns s o = some true) (h1 : calleeS ns s o.op = some (f, svs))
    (h : Exec P T ops ns (nid + 1) l (putS s nid o.dst { res := .d d, rds := rds }) (log ++ [footOf ops nid s o (some { res := .d d, rds := rds })]) Q2) : ExecD P T ops ns nid (o :: l) s log Q2 := by
  show Exec P T ops ns nid (o :: l) s log Q2
  simp only [Exec, hg]
  refine ⟨_, .inr ⟨f, svs, d, only s.mem rds, h1, h3, fun i b hi => ?_, rfl⟩, h⟩
  unfold only at hi
  split at hi
  · rename_i hm
    exact ⟨hm, hi⟩
  · cases hi
end
/-- Blocks told apart by any function of their numbers. -/
def colBy (c : Nat → Nat) (f : Foot) : Foot := ⟨f.rd.map c, f.wr.map c⟩
theorem and_by (c : Nat → Nat) {a b : List Nat} (h : maskL (a.map c) &&& maskL (b.map c) = 0) : maskL a &&& maskL b = 0 := by
  apply Nat.eq_of_testBit_eq
  intro i
  rw [Nat.zero_testBit]
  cases hb : (maskL a &&& maskL b).testBit i with
  | false => rfl
  | true =>
    rw [Nat.testBit_and, Bool.and_eq_true] at hb
    exact (and_bit h (maskL_mem (List.mem_map_of_mem (maskL_of hb.1))) (maskL_mem (List.mem_map_of_mem (maskL_of hb.2)))).elim
theorem okLog_by (c : Nat → Nat) {l : List Oper} {log : List Foot} (h : okLog l (log.map (colBy c)) = true) : okLog l log = true := by
  unfold okLog at h ⊢
  refine List.all_eq_true.2 fun k hk => List.all_eq_true.2 fun i hi => ?_
  have hkl := List.mem_range.1 hk
  have hik := List.mem_range.1 hi
  have h1 := List.all_eq_true.1 (List.all_eq_true.1 h k (by simpa using hkl)) i hi
  rw [Bool.or_eq_true] at h1 ⊢
  refine h1.imp (fun h2 => ?_) fun h2 => h2
  have gk : log[k]? = some log[k] := List.getElem?_eq_getElem hkl
  have gi : log[i]? = some log[i] := List.getElem?_eq_getElem (by omega)
  simp only [List.map_map, List.getD_eq_getElem?_getD, List.getElem?_map, gk, gi, Option.map_some, Option.getD_some, Function.comp, colBy, beq_iff_eq] at h2 ⊢
  obtain ⟨h3, h4⟩ := or_zero h2
  rw [Nat.and_or_distrib_left] at h3 ⊢
  obtain ⟨h5, h6⟩ := or_zero h3
  rw [and_by c h5, and_by c h6, and_by c h4]
  rfl
/-- One block apart from all others. -/
def colA (a x : Nat) : Nat := if x = 2 * a + 1 then 3 else if x % 2 = 0 then x else 1
theorem colA_even {a x : Nat} (h : x % 2 = 0) : colA a x = x := by
  unfold colA
  rw [if_neg (by omega), if_pos h]
theorem colA_self (a : Nat) : colA a (2 * a + 1) = 3 := if_pos rfl
theorem colA_other {a i : Nat} (h : ¬ i = a) : colA a (2 * i + 1) = 1 := by
  unfold colA
  rw [if_neg (by omega), if_neg (by omega)]
end Go.Proofs.Ytjjoiihgpkhndaa.Eng

/-
  The runner, part 10: calls that only read memory, whatever names there are. No program is named here.
-/
noncomputable section
namespace Go.Proofs.Ytjjoiihgpkhndaa.Eng
open Go.RowKit
variable {P : Program} {T : Tab} {Z : ZTab} {Q : QTab} {M : MTab} {K : Known} {R : Runner} {r : Option Nat} {ns : Nat}

/-- Names in it are below n. -/
inductive Few (n : Nat) : SV → Prop where
  | und : Few n .und
  | d (x : Dat) : Few n (.d x)
  | nilS : Few n .nilS
  | ptr (id i j : Nat) : id < n → Few n (.ptr id i j)
  | mp (id : Nat) : id < n → Few n (.mp id)
  | sl (id off k : Nat) (c : Option Nat) : id < n → Few n (.sl id off k c)
  | yield (id : Nat) : id < n → Few n (.yield id)
  | agg (cs : List SV) : (∀ c ∈ cs, Few n c) → Few n (.agg cs)
  | tup (cs : List SV) : (∀ c ∈ cs, Few n c) → Few n (.tup cs)
  | fn (f : FuncId) (us vs : List SV) : (∀ c ∈ us, Few n c) → (∀ c ∈ vs, Few n c) → Few n (.fn f us vs)
def few0 (n : Nat) : SV → Bool
  | .und | .d _ | .nilS => true
  | .ptr id _ _ | .mp id | .sl id _ _ _ | .yield id => Nat.ble (id + 1) n
  | _ => false
def few1 (n : Nat) : SV → Bool
  | .fn _ us vs => us.all (few0 n) && vs.all (few0 n)
  | x => few0 n x
def few2 (n : Nat) : SV → Bool
  | .agg l => l.all (few1 n)
  | x => few1 n x
theorem few0_ok {n : Nat} {x : SV} (h : few0 n x = true) : Few n x := by
  unfold few0 at h
  split at h
  · exact .und
  · exact .d _
  · exact .nilS
  · exact .ptr _ _ _ (Nat.le_of_ble_eq_true h)
  · exact .mp _ (Nat.le_of_ble_eq_true h)
  · exact .sl _ _ _ _ (Nat.le_of_ble_eq_true h)
  · exact .yield _ (Nat.le_of_ble_eq_true h)
  · cases h
theorem few1_ok {n : Nat} {x : SV} (h : few1 n x = true) : Few n x := by
  unfold few1 at h
  split at h
  · rw [Bool.and_eq_true, List.all_eq_true, List.all_eq_true] at h
    exact .fn _ _ _ (fun c hc => few0_ok (h.1 c hc)) fun c hc => few0_ok (h.2 c hc)
  · exact few0_ok h
theorem few2_ok {n : Nat} {x : SV} (h : few2 n x = true) : Few n x := by
  unfold few2 at h
  split at h
  · rw [List.all_eq_true] at h
    exact .agg _ fun c hc => few1_ok (h c hc)
  · exact few1_ok h
theorem Rep.few {n : Nat} {E E0 : Env} {w : World} {x : SV} {v : Value} (hr : E0.ro = E.ro) (hd : ∀ i, E.dom i → i < n → E0.dom i) (hh : E0.home = E.home) (h : Rep E w x v) : Few n x → Rep E0 w x v := by
  induction h with
  | und v => exact fun _ => .und v
  | d x v h => exact fun _ => .d x v (h.keep (fun b hb => by rw [hr]; exact hb) fun _ _ => rfl)
  | agg cs vs hs h1 _ ih => intro hf; cases hf with | agg _ k => exact .agg cs vs hs h1 fun i c v hc hv => ih i c v hc hv (k c (List.mem_of_getElem? hc))
  | nilS => exact fun _ => .nilS
  | lin id n _ hz hc => intro hf; cases hf
  | own id n z _ hz => intro hf; cases hf
  | rptr cs b off f hb h1 hc hr' => intro hf; cases hf
  | ptr id i j k => intro hf; cases hf with | ptr _ _ _ q => rw [← hh]; exact .ptr id i j (hd _ k q)
  | fn f xs ys us vs h1 h2 _ _ ih1 ih2 =>
    intro hf
    cases hf with
    | fn _ _ _ q1 q2 => exact .fn f xs ys us vs h1 h2 (fun i c v hc hv => ih1 i c v hc hv (q1 c (List.mem_of_getElem? hc))) fun i c v hc hv => ih2 i c v hc hv (q2 c (List.mem_of_getElem? hc))
  | tup cs vs hs _ ih => intro hf; cases hf with | tup _ k => exact .tup cs vs hs fun i c v hc hv => ih i c v hc hv (k c (List.mem_of_getElem? hc))
  | yield id k => intro hf; cases hf with | yield _ q => rw [← hh]; exact .yield id (hd _ k q)
  | sl id off n c o k h1 hk ho hn => intro hf; cases hf with | sl _ _ _ _ q => rw [← hh] at hk ⊢; exact .sl id off n c o k (hd _ h1 q) hk ho hn
  | mp id k => intro hf; cases hf with | mp _ q => rw [← hh]; exact .mp id (hd _ k q)
  | full rows A h => intro hf; cases hf
inductive FewB (n : Nat) : Blk → Prop where
  | box (ty : TypeId) (cs : List SV) (f : Bool) : (∀ c ∈ cs, Few n c) → FewB n (.box ty cs f)
  | part (z : Nat) (ty : TypeId) (cs : List SV) (f : Bool) : (∀ c ∈ cs, Few n c) → FewB n (.part z ty cs f)
  | map (es : List (Value × SV × Nat)) (clock : Nat) (f : Bool) : (∀ q ∈ es, Few n q.2.1) → FewB n (.map es clock f)
theorem Holds.few {n : Nat} {E E0 : Env} {w : World} {h : Home} {b : Blk} (hr : E0.ro = E.ro) (hd : ∀ i, E.dom i → i < n → E0.dom i) (hh : E0.home = E.home) (k : Holds E w h b) (hb : FewB n b) : Holds E0 w h b := by
  cases hb with
  | box ty cs f q =>
    cases k with
    | box _ _ _ cur h1 h2 h3 h4 => exact .box ty cs f cur h1 h2 h3 fun j c v hc hv => (h4 j c v hc hv).few hr hd hh (q c (List.mem_of_getElem? hc))
  | part z ty cs f q =>
    cases k with
    | part _ _ _ _ cur h0 h1 h2 h3 h4 => exact .part z ty cs f cur h0 h1 h2 h3 fun j c v hc hv => (h4 j c v hc hv).few hr hd hh (q c (List.mem_of_getElem? hc))
  | map es clock f q =>
    cases k with
    | map _ _ _ ents h1 h2 h3 =>
      refine .map es clock f ents h1 h2 fun i x e hx he => ?_
      obtain ⟨a, b, c⟩ := h3 i x e hx he
      exact ⟨a, b, c.few hr hd hh (q x (List.mem_of_getElem? hx))⟩
def fewB (n : Nat) : CB → Bool
  | .bx _ _ k d t _ => (cellsOf k d t 0).all (few2 n)
  | .mp _ _ es _ => es.all fun q => few2 n q.2.1
  | _ => false
theorem fewB_ok {n : Nat} {c : CB} (h : fewB n c = true) : FewB n c.den := by
  unfold fewB at h
  split at h
  · rename_i w ty k d t f
    rw [List.all_eq_true] at h
    cases w with
    | none => exact .box _ _ _ fun c hc => few2_ok (h c hc)
    | some z => exact .part _ _ _ _ fun c hc => few2_ok (h c hc)
  · rename_i es _
    rw [List.all_eq_true] at h
    refine .map _ _ _ fun q hq => ?_
    obtain ⟨p, hp, rfl⟩ := List.mem_map.1 hq
    exact few2_ok (h p hp)
  · cases h
/-- A call that leaves what it was told of memory as it is and returns data does so whatever names there are. -/
theorem rcall_of {f : FuncId} {svs : List SV} {n : Nat} {m : Mem} {d : Dat} {q : Rs} (h : CWp P f svs n m (ResIs q)) (hy : toD3 q.y = some d) (hmm : ∀ i b, m i = some b → mOf q.m i = some b) (hlt : ∀ i b, m i = some b → i < n) (hfew : ∀ i b, m i = some b → FewB n b) (hargs : ∀ x ∈ svs, Few n x) : RCall P f svs d m :=
  ⟨h.callable, fun W0 R0 D N E w vs hD M h1 h2 => by
    let E0 : Env := { E with dom := fun i => E.dom i ∧ i < n }
    have M0 : MS W0 R0 (· < n) m E0 w := ⟨M.below, M.ro0, M.ro1, M.rlt, fun i hi => hi.2, fun i b hi => ⟨M.live i b hi, hlt i b hi⟩, fun i b hi => Holds.few (E := E) (E0 := E0) rfl (fun i a b => ⟨a, b⟩) rfl (M.mem i b hi) (hfew i b hi), M.base, M.frz, M.inj⟩
    refine ((h.calls W0 R0 E0 w vs M0 h1 fun i x v hx hv => Rep.few (E := E) (E0 := E0) rfl (fun i a b => ⟨a, b⟩) rfl (h2 i x v hx hv) (hargs x (List.mem_of_getElem? hx)))).mono ?_
    rintro e w' ⟨v, E', n', m', y, rfl, M', hE, hw, hv, rfl, rfl, rfl⟩
    have hho : ∀ i b, m i = some b → E'.home i = E.home i := fun i b hi => hE.home i ⟨M.live i b hi, hlt i b hi⟩
    let E2 : Env := { E' with dom := E.dom, home := E.home }
    refine ⟨v, E2, rfl, ⟨M'.below, M'.ro0, M'.ro1, M'.rlt, M.dom, M.live, fun i b hi => ?_, fun i b hi => ?_, fun i b hi => ?_, fun i j b c hi hj hn => ?_⟩, ⟨hE.ro, fun _ h => h, fun _ _ => rfl⟩, hw, ?_⟩
    · have k1 := M'.mem i b (hmm i b hi)
      rw [hho i b hi] at k1
      exact Holds.restrict (E := E0) (E' := E') (E'' := E2) (w := w) (w' := w') (h0 := E.home i) (h := E.home i) (fun _ h => h) (fun _ h => h.1) (fun i hi => (hE.home i hi).symm) k1 (M0.mem i b hi)
    · have := M'.base i b (hmm i b hi)
      rw [hho i b hi] at this
      exact this
    · have := M'.frz i b (hmm i b hi)
      rw [hho i b hi] at this
      exact this
    · have := M'.inj i j b c (hmm i b hi) (hmm j c hj) hn
      rw [hho i b hi, hho j c hj] at this
      exact this
    · cases (toD3_rep hy).1 hv with | d _ _ hv => exact .d _ _ hv⟩
/-- So as a step, whatever names there are, in memory of which at least that is told. -/
theorem rcall_step {f : FuncId} {svs : List SV} {m : Mem} {d : Dat} (h : RCall P f svs d m) {s : St} {o : Oper} (h1 : calleeS ns s o.op = some (f, svs)) (hm : ∀ i b, m i = some b → s.mem i = some b) {x : SV} (hx : toD3 x = some d) : ROStep P r ns s o x := fun N => by
  have h2 : CWp P f svs N s.mem fun y n' m' => y = x ∧ n' = N ∧ m' = s.mem := ⟨h.callable, fun W0 R0 E w vs M k1 k2 => by
    refine ((h.more hm).calls W0 R0 (· < N) N E w vs (fun _ h => h) M k1 k2).mono ?_
    rintro e w' ⟨v, E', rfl, M', hE, hw, hv⟩
    exact ⟨v, E', N, s.mem, x, rfl, M', hE, hw, (toD3_rep hx).2 hv, rfl, rfl, rfl⟩⟩
  intro W0 R0 B E a w hi hs hd K1 Q' hK1
  exact stepI_call (r := r) h1 h2 W0 R0 B E a w hi hs hd K1 Q' fun n2 s2 E' a' w' ⟨y, m2, ⟨e1, e2, e3⟩, e4⟩ hs2 => hK1 n2 s2 E' a' w' ⟨e2, by rw [e4, e1, e3]⟩ hs2
end Go.Proofs.Ytjjoiihgpkhndaa.Eng
