/-
  A part of the texts that the claim builds on: see the last one.
-/
import Derived.Test.YtdkneonokbakjaaFa4
set_option linter.unusedSimpArgs false
set_option linter.unusedVariables false
noncomputable section
namespace Go.Proofs.Ytdkneonokbakjaa.Eng
open Go.RowKit
def memN : List Nat → Nat → Bool
  | [], _ => false
  | x :: l, t => bif Nat.beq x t then true else memN l t
theorem memN_iff : ∀ {l : List Nat} {t : Nat}, memN l t = true ↔ t ∈ l
  | [], t => by simp [memN]
  | x :: l, t => by
    simp only [memN, beq_nat, cond_eq_ite, decide_eq_true_eq, List.mem_cons]
    by_cases h : x = t
    · simp [h]
    · simp [h, memN_iff (l := l), Ne.symm h, eq_comm]
def evR (L : List Nat) (ns : Nat) (sl : Nat → SV) : Operand → Option SV
  | .tmp t => bif memN L t && Nat.ble (t + 1) ns then some (sl t) else none
  | .const v => constSV v
  | .func f => some (.fn f [] [])
  | _ => none
def isW : Op → Bool
  | .box .. | .alloc _ | .buildSlice .. | .makeSlice .. | .store .. | .makeMap .. | .mapUpdate .. => true
  | .call c => match c.callee with
    | .builtin .append | .builtin .copy | .builtin .clear | .builtin .delete => true
    | _ => false
  | _ => false
def idsOf2 : SV → List Nat
  | .own id _ _ | .lin id _ | .ptr id _ _ | .mp id | .sl id _ _ _ => [id]
  | _ => []
def readsOf (sl : Nat → SV) (o : Op) : List Nat := match o with
  | .load _ (.tmp t) => idsOf2 (sl t)
  | .lookup _ (.tmp t) _ _ => idsOf2 (sl t)
  | _ => []
def memC (m : Tr CB) : List Nat → Tr CB
  | [] => .lf
  | i :: l => bif Nat.ble i 10000000 then putM (memC m l) i (m.get i) else memC m l
inductive Cl where
  | plain
  | fn (f : FuncId) (args : List SV)
  | yl (id : Nat) (args : List SV)
  | bad
def calleeC (ev : Operand → Option SV) : Op → Cl
  | .call c => match c.callee with
    | .builtin _ => .plain
    | .value (.func f) => match evList ev c.args.toList with
      | some l => .fn f l
      | none => .bad
    | .value (.tmp t) => match ev (.tmp t), evList ev c.args.toList with
      | some (.fn f us vs), some l => .fn f (us ++ l ++ vs)
      | some (.yield id), some l => .yl id l
      | _, _ => .bad
    | _ => .bad
  | .defer _ => .bad
  | _ => .plain
structure Rs where
  y : SV
  n : Nat
  m : Tr CB
inductive Ctx where
  | no
  | sc (c : Code)
  | lp (c : Code)
abbrev Runner := Option Nat → Nat → Ctx → Code → CS → Option (Exit × CS)
def okN (n : Nat) : Bool := Nat.ble n 10000000
def getL {α : Type} (l : List α) : Nat → Option α :=
  @List.rec α (fun _ => Nat → Option α) (fun _ => none) (fun x _ ih i => @Nat.rec (fun _ => Option α) (some x) (fun j _ => ih j) i) l
theorem getL_eq {α : Type} : ∀ (l : List α) (i : Nat), getL l i = l[i]?
  | [], i => rfl
  | x :: l, 0 => rfl
  | x :: l, i + 1 => by
    rw [List.getElem?_cons_succ]
    exact getL_eq l i
theorem getA_eq {α : Type} (a : Array α) (i : Nat) : getL a.toList i = a[i]? := by rw [getL_eq, Array.getElem?_toList]
def callFn (P : Program) (T : Tab) (R : Runner) (f : FuncId) (args : List SV) (n : Nat) (m : Tr CB) : Option Rs :=
  match getL P.funcs.toList f with
  | none => none
  | some fn => match fn.body with
    | none => none
    | some c => bif Nat.ble args.length fn.ntmps && okN fn.ntmps && resOk fn.results.toList fn.ntmps then
        match R none fn.ntmps .no c ⟨n, startT args 0 .lf, m⟩ with
        | some (.normal, s) => match resSlots T s.den fn.results.toList with
          | some xs => some ⟨retV xs, s.n, s.mem⟩
          | none => none
        | some (.ret, s) => match resSlots T s.den fn.results.toList with
          | some xs => some ⟨retV xs, s.n, s.mem⟩
          | none => none
        | _ => none
      else none
def callYl (R : Runner) (id : Nat) (xs : List SV) (n : Nat) (m : Tr CB) : Option Rs :=
  match m.get id with
  | some (.loop .ready pe k sl ps x y) => bif Nat.beq xs.length ps.size && ps.toList.all (fun t => Nat.ble (t + 1) k) && okN k && okN id then
      match R (some id) k .no x ⟨n, putAllT sl ps.toList xs, m⟩ with
      | some (.normal, s1) => match s1.mem.get id with
        | some (.loop .ready pe1 _ _ _ _ _) => match R (some id) k .no y ⟨s1.n, s1.sl, putM s1.mem id (some (.loop .busy pe1 k sl ps x y))⟩ with
          | some (e, s2) => match jumpOf e, s2.mem.get id with
            | some j, some (.loop .busy _ _ _ _ _ _) => some ⟨.d (.val (.bool j.isNone)), s2.n, putM s2.mem id (some (.loop (if j.isNone then .ready else .done) j k sl ps x y))⟩
            | _, _ => none
          | none => none
        | _ => none
      | _ => none
    else none
  | _ => none
def same1 : SV → SV → Bool
  | .d (.val (.int k a)), .d (.val (.int k' b)) => decide (k = k') && decide (a = b)
  | .d (.val (.bool a)), .d (.val (.bool b)) => a == b
  | .d (.val .nilFunc), .d (.val .nilFunc) => true
  | .d (.val (.pointer none)), .d (.val (.pointer none)) => true
  | .d (.val (.map none)), .d (.val (.map none)) => true
  | .nilS, .nilS => true
  | .ptr a b c, .ptr a' b' c' => Nat.beq a a' && Nat.beq b b' && Nat.beq c c'
  | .mp a, .mp b => Nat.beq a b
  | .sl a b c (some d), .sl a' b' c' (some d') => Nat.beq a a' && Nat.beq b b' && Nat.beq c c' && Nat.beq d d'
  | .sl a b c none, .sl a' b' c' none => Nat.beq a a' && Nat.beq b b' && Nat.beq c c'
  | .yield a, .yield b => Nat.beq a b
  | _, _ => false
def sameL (f : SV → SV → Bool) : List SV → List SV → Bool
  | [], [] => true
  | x :: l, y :: k => f x y && sameL f l k
  | _, _ => false
def same2 : SV → SV → Bool
  | .fn f us vs, .fn f' us' vs' => Nat.beq f f' && sameL same1 us us' && sameL same1 vs vs'
  | x, y => same1 x y
def sameA : SV → SV → Bool
  | .agg l, .agg k => sameL same2 l k
  | x, y => same2 x y
def same3 : SV → SV → Bool
  | .tup l, .tup k => sameL sameA l k
  | x, y => sameA x y
def sameT : Tr SV → Tr SV → Bool
  | .lf, .lf => true
  | .nd none l r, .nd none l' r' => sameT l l' && sameT r r'
  | .nd (some x) l r, .nd (some y) l' r' => same3 x y && sameT l l' && sameT r r'
  | _, _ => false
def sameE : List (List Int × SV × Nat) → List (List Int × SV × Nat) → Bool
  | [], [] => true
  | (k, x, b) :: l, (k', y, b') :: l' => decide (k = k') && same3 x y && Nat.beq b b' && sameE l l'
  | _, _ => false
def sameB : Option CB → Option CB → Bool
  | some (.bx w t n d c f), some (.bx w' t' n' d' c' f') => (w == w') && Nat.beq t t' && Nat.beq n n' && sameL same2 d d' && sameT c c' && (f == f')
  | some (.mp a k es c), some (.mp a' k' es' c') => (a == a') && decide (k = k') && sameE es es' && Nat.beq c c'
  | none, none => true
  | _, _ => false
def subTr : Tr CB → Tr CB → Bool
  | .lf, _ => true
  | .nd v l r, .lf => v.isNone && subTr l .lf && subTr r .lf
  | .nd v l r, .nd v' l' r' => (match v with
      | none => true
      | some _ => sameB v v') && subTr l l' && subTr r r'
def noLoop : Tr CB → Bool
  | .lf => true
  | .nd v l r => (match v with
      | some (.loop ..) => false
      | _ => true) && noLoop l && noLoop r
def Tr.top {α : Type} : Tr α → Option α
  | .lf => none
  | .nd v _ _ => v
def Tr.left {α : Type} : Tr α → Tr α
  | .lf => .lf
  | .nd _ l _ => l
def Tr.right {α : Type} : Tr α → Tr α
  | .lf => .lf
  | .nd _ _ r => r
def pk {α : Type} (v v0 vq : Option α) : Option α := match v0 with
  | some _ => vq
  | none => match v with
    | some b => some b
    | none => vq
def frameT {α : Type} : Tr α → Tr α → Tr α → Tr α
  | .lf, _, mq => mq
  | .nd v l r, m0, mq => .nd (pk v m0.top mq.top) (frameT l m0.left mq.left) (frameT r m0.right mq.right)
structure Ent where
  f : FuncId
  args : List SV
  n : Nat
  m : Tr CB
  q : Rs
abbrev Sums := FuncId → Option (List SV → Nat → Tr CB → Option Rs)
structure Known where
  ents : List Ent
  closed : List (FuncId × Value)
  sums : Sums
def findC (f : FuncId) : List (FuncId × Value) → Option Value
  | [] => none
  | (g, v) :: l => bif Nat.beq g f then some v else findC f l
def findE (n : Nat) : List Ent → Option Ent
  | [] => none
  | e :: l => bif Nat.beq e.n n then some e else findE n l
def callK (P : Program) (T : Tab) (K : Known) (R : Runner) (f : FuncId) (args : List SV) (n : Nat) (m : Tr CB) : Option Rs :=
  match findC f K.closed with
  | some v => match args with
    | [] => some ⟨.d (.val v), n, m⟩
    | _ => none
  | none => match K.sums f with
   | some g => g args n m
   | none => match findE n K.ents with
    | some e => bif Nat.beq e.f f && sameL same3 args e.args && subTr e.m m && noLoop e.m then some ⟨e.q.y, e.q.n, frameT m e.m e.q.m⟩ else callFn P T R f args n m
    | none => callFn P T R f args n m
def doOp (P : Program) (T : Tab) (Z : ZTab) (Q : QTab) (M : MTab) (K : Known) (R : Runner) (ev : Operand → Option SV) (s : CS) (o : Oper) : Option Rs :=
  match calleeC ev o.op with
  | .plain => bif isW o.op then
      match xW T Z M s.mem s.n ev o.op with
      | some (x, m') => some ⟨x, s.n + 1, m'⟩
      | none => none
    else match xR T Q M s.mem ev o.op with
      | some x => some ⟨x, s.n, s.mem⟩
      | none => none
  | .fn f l => callK P T K R f l s.n s.mem
  | .yl id l => callYl R id l s.n s.mem
  | .bad => none
inductive Ins where
  | mv (x : Operand)
  | bin (op : BinOp) (t : TypeId) (x y : Operand) (ty : TypeId)
  | ld (t : TypeId) (x : Operand)
  | st (t : TypeId) (x y : Operand)
  | ix (t : TypeId) (x i : Operand)
  | fa (t : TypeId) (x : Operand) (f : Nat)
  | call (c : Call)
  | oth (op : Op)
def dec : Op → Ins
  | .move x => .mv x
  | .assign x => .mv x
  | .binOp op t x y ty => .bin op t x y ty
  | .load t x => .ld t x
  | .store t x y => .st t x y
  | .indexAddr t x i => .ix t x i
  | .fieldAddr t x f => .fa t x f
  | .call c => .call c
  | op => .oth op
def keepR (s : CS) : Option SV → Option Rs
  | some x => some ⟨x, s.n, s.mem⟩
  | none => none
def keepW (s : CS) : Option (SV × Tr CB) → Option Rs
  | some (x, m') => some ⟨x, s.n + 1, m'⟩
  | none => none
def fBin (T : Tab) (Q : QTab) (m : Tr CB) (ev : Operand → Option SV) (op : BinOp) (t : TypeId) (x y : Operand) (ty : TypeId) : Option SV := match aopR T (mOf m) ev (.binOp op t x y ty) with
    | some r => some r
    | none => match ev x, ev y with
      | some u, some v => match op with
        | .shl | .shr => none
        | _ => bigEq Q op t u v
      | _, _ => none
def fLd (T : Tab) (m : Tr CB) (ev : Operand → Option SV) (t : TypeId) (x : Operand) : Option SV := match T t, ev x with
    | some i, some v => loadC m i v
    | _, _ => none
def fIx (T : Tab) (ev : Operand → Option SV) (t : TypeId) (x ix : Operand) : Option SV := match T t, ev x, intOp (ev ix) with
    | some i, some v, some (_, k) => indexC T i k v
    | _, _, _ => none
def fFa (T : Tab) (ev : Operand → Option SV) (s : TypeId) (x : Operand) (f : Nat) : Option SV := match T s with
    | some i => match fieldOf i f with
      | some (off, ft) => match T ft, ev x with
        | some _, some (.rptr cs) => some (.rptr (cs.drop off))
        | some _, some (.ptr id r j) => some (.ptr id r (j + off))
        | _, _ => none
      | none => none
    | none => none
def fCall (P : Program) (T : Tab) (Z : ZTab) (Q : QTab) (M : MTab) (K : Known) (R : Runner) (ev : Operand → Option SV) (s : CS) (c : Call) : Option Rs :=
  match c.callee with
    | .builtin _ => bif isW (.call c) then keepW s (xW T Z M s.mem s.n ev (.call c)) else keepR s (xR T Q M s.mem ev (.call c))
    | .value (.func f) => match evList ev c.args.toList with
      | some l => callK P T K R f l s.n s.mem
      | none => none
    | .value (.tmp t) => match ev (.tmp t), evList ev c.args.toList with
      | some (.fn f us vs), some l => callK P T K R f (us ++ l ++ vs) s.n s.mem
      | some (.yield id), some l => callYl R id l s.n s.mem
      | _, _ => none
    | _ => none
def doF (P : Program) (T : Tab) (Z : ZTab) (Q : QTab) (M : MTab) (K : Known) (R : Runner) (ev : Operand → Option SV) (s : CS) (o : Oper) : Option Rs :=
  match dec o.op with
  | .mv x => keepR s (ev x)
  | .bin op t x y ty => keepR s (fBin T Q s.mem ev op t x y ty)
  | .ld t x => keepR s (fLd T s.mem ev t x)
  | .st t x y => keepW s (stoC T s.mem ev t x y)
  | .ix t x i => keepR s (fIx T ev t x i)
  | .fa t x f => keepR s (fFa T ev t x f)
  | .call c => fCall P T Z Q M K R ev s c
  | .oth _ => doOp P T Z Q M K R ev s o
theorem doF_eq {P : Program} {T : Tab} {Z : ZTab} {Q : QTab} {M : MTab} {K : Known} {R : Runner} {ev : Operand → Option SV} {s : CS} {o : Oper} : doF P T Z Q M K R ev s o = doOp P T Z Q M K R ev s o := by
  have key : ∀ op, o.op = op → (match dec op with
      | .mv x => keepR s (ev x)
      | .bin op t x y ty => keepR s (fBin T Q s.mem ev op t x y ty)
      | .ld t x => keepR s (fLd T s.mem ev t x)
      | .st t x y => keepW s (stoC T s.mem ev t x y)
      | .ix t x i => keepR s (fIx T ev t x i)
      | .fa t x f => keepR s (fFa T ev t x f)
      | .call c => fCall P T Z Q M K R ev s c
      | .oth _ => doOp P T Z Q M K R ev s o) = doOp P T Z Q M K R ev s o := by
    intro op ho
    unfold doOp
    rw [ho]
    cases op with
    | move x => rfl
    | assign x => rfl
    | binOp op t x y ty => rfl
    | load t x => rfl
    | store t x y =>
      simp only [dec, calleeC, isW, cond_true, xW]
      cases stoC T s.mem ev t x y with
      | none => rfl
      | some p => rfl
    | indexAddr t x i => rfl
    | fieldAddr t x f => rfl
    | call c =>
      simp only [dec, fCall, calleeC]
      cases hc : c.callee with
      | builtin b =>
        simp only
        cases isW (.call c) with
        | true =>
          simp only [cond_true]
          cases xW T Z M s.mem s.n ev (.call c) with
          | none => rfl
          | some p => rfl
        | false => rfl
      | value f =>
        cases f with
        | func f => simp only; cases evList ev c.args.toList <;> rfl
        | tmp t =>
          simp only
          cases ev (.tmp t) with
          | none => rfl
          | some v =>
            cases evList ev c.args.toList with
            | none => cases v <;> rfl
            | some l => cases v <;> rfl
        | const v => rfl
        | global g => rfl
      | invoke r m => rfl
    | _ => rfl
  exact key o.op rfl
def gF (ops : Array Oper) (ns : Nat) (s : CS) (o : Oper) : Option Bool := match o.guard with
  | none => bif dstOk ns o.dst then some true else none
  | some _ => guardS ops ns s.den o
theorem gF_eq {ops : Array Oper} {ns : Nat} {s : CS} {o : Oper} : gF ops ns s o = guardS ops ns s.den o := by
  unfold gF
  split
  · rename_i h
    unfold guardS
    rw [h]
    cases dstOk ns o.dst <;> rfl
  · rfl
def doOps (P : Program) (T : Tab) (Z : ZTab) (Q : QTab) (M : MTab) (K : Known) (R : Runner) (ns : Nat) (ops : Array Oper) : List Oper → CS → Option CS
  | [], s => some s
  | o :: l, s => match gF ops ns s o with
    | some true => match doF P T Z Q M K R (opd ns s.den) s o with
      | some q => doOps P T Z Q M K R ns ops l ⟨q.n, putD s.sl o.dst q.y, q.m⟩
      | none => none
    | some false => doOps P T Z Q M K R ns ops l ⟨s.n, putD s.sl o.dst (.tup []), s.mem⟩
    | none => none
inductive KC where
  | off
  | pure (x : SV) (ids : List Nat)
  | exact (y : SV)
structure En where
  k : KC
  s : CS
  s' : CS
def plainP (ev : Operand → Option SV) (o : Op) : Bool := match calleeC ev o with
  | .plain => !isW o
  | _ => false
def plainS : Op → Bool
  | .call c => match c.callee with
    | .builtin _ => !isW (.call c)
    | _ => false
  | .defer _ => false
  | op => !isW op
theorem plainS_P {op : Op} (h : plainS op = true) (ev : Operand → Option SV) : plainP ev op = true := by
  unfold plainP
  cases op with
  | call c =>
    simp only [plainS] at h
    simp only [calleeC]
    cases hc : c.callee with
    | builtin b => rw [hc] at h; exact h
    | _ => rw [hc] at h; cases h
  | defer c => cases h
  | _ => exact h
def pureF (T : Tab) (Q : QTab) (M : MTab) (m : Tr CB) (ev : Operand → Option SV) (op : Op) : Option SV := match dec op with
  | .mv x => ev x
  | .bin o t x y ty => fBin T Q m ev o t x y ty
  | .ld t x => fLd T m ev t x
  | .ix t x i => fIx T ev t x i
  | .fa t x f => fFa T ev t x f
  | _ => xR T Q M m ev op
theorem pureF_eq {T : Tab} {Q : QTab} {M : MTab} {m : Tr CB} {ev : Operand → Option SV} {op : Op} : pureF T Q M m ev op = xR T Q M m ev op := by
  unfold pureF
  cases op <;> rfl
def drOps (P : Program) (T : Tab) (Z : ZTab) (Q : QTab) (M : MTab) (K : Known) (R : Runner) (ns : Nat) (ops : Array Oper) : List Oper → CS → Option (List En × CS)
  | [], s => some ([], s)
  | o :: l, s => match gF ops ns s o with
    | some false => match drOps P T Z Q M K R ns ops l ⟨s.n, putD s.sl o.dst (.tup []), s.mem⟩ with
      | some (es, s2) => some (⟨.off, s, ⟨s.n, putD s.sl o.dst (.tup []), s.mem⟩⟩ :: es, s2)
      | none => none
    | some true => bif plainS o.op then
        match pureF T Q M (memC s.mem (readsOf (sOf s.sl) o.op)) (evR (slotsOf o.op) ns (sOf s.sl)) o.op with
        | some x => match drOps P T Z Q M K R ns ops l ⟨s.n, putD s.sl o.dst x, s.mem⟩ with
          | some (es, s2) => some (⟨.pure x (readsOf (sOf s.sl) o.op), s, ⟨s.n, putD s.sl o.dst x, s.mem⟩⟩ :: es, s2)
          | none => none
        | none => none
      else match doF P T Z Q M K R (evR (slotsOf o.op) ns (sOf s.sl)) s o with
        | some q => match drOps P T Z Q M K R ns ops l ⟨q.n, putD s.sl o.dst q.y, q.m⟩ with
          | some (es, s2) => some (⟨.exact q.y, s, ⟨q.n, putD s.sl o.dst q.y, q.m⟩⟩ :: es, s2)
          | none => none
        | none => none
    | none => none
def zeroN (n : Nat) : Bool := Nat.beq n 0
def pairOk (b i : Nat) (a e : En) : Bool := match a.k, e.k with
  | .exact _, .exact _ => b.testBit i
  | .exact _, .pure _ ids => b.testBit i || ids.all fun j => sameB (a.s'.mem.get j) (a.s.mem.get j)
  | .pure _ ids, .exact _ => b.testBit i || ids.all fun j => sameB (e.s'.mem.get j) (e.s.mem.get j)
  | _, _ => true
def okAfter (i : Nat) (a : En) : List Nat → List En → Bool
  | b :: bs, e :: es => pairOk b i a e && okAfter i a bs es
  | _, _ => true
def okEs (i : Nat) : List Nat → List En → Bool
  | _ :: bs, e :: es => okAfter i e bs es && okEs (i + 1) bs es
  | _, _ => true
def dull (e : En) : Bool := match e.k with
  | .off => true
  | .pure _ ids => match ids with
    | [] => true
    | _ => false
  | .exact _ => false
theorem dull_after {e : En} (h : dull e = true) : ∀ {i : Nat} {bs : List Nat} {es : List En}, okAfter i e bs es = true
  | i, [], es => by simp [okAfter]
  | i, b :: bs, [] => by simp [okAfter]
  | i, b :: bs, g :: es => by
    simp only [okAfter, Bool.and_eq_true]
    refine ⟨?_, dull_after h⟩
    unfold dull at h
    unfold pairOk
    split at h
    · rename_i hk; rw [hk]
    · rename_i hk
      split at h
      · rw [hk]
        split
        · rename_i e1 _; cases e1
        · rename_i e1 _; cases e1
        · rename_i e1 e2; cases e1; simp
        · rfl
      · cases h
    · cases h
def thin (i : Nat) : List Nat → List En → List (Nat × Nat × En)
  | b :: bs, e :: es => match dull e with
    | true => thin (i + 1) bs es
    | false => (i, b, e) :: thin (i + 1) bs es
  | _, _ => []
def okAfter3 (i : Nat) (a : En) : List (Nat × Nat × En) → Bool
  | [] => true
  | (_, b, e) :: l => pairOk b i a e && okAfter3 i a l
def okEs3 : List (Nat × Nat × En) → Bool
  | [] => true
  | (i, _, a) :: l => okAfter3 i a l && okEs3 l
theorem dull_pair {e : En} (h : dull e = true) (b i : Nat) (a : En) : pairOk b i a e = true := by
  unfold dull at h
  unfold pairOk
  split at h
  · rename_i hk; rw [hk]; split <;> first | rfl | (rename_i e1 e2; cases e2)
  · rename_i hk
    split at h
    · rw [hk]
      split
      · rename_i e1 e2; cases e2
      · rename_i e1 e2; cases e2; simp
      · rename_i e1 e2; cases e2
      · rfl
    · cases h
  · cases h
theorem okAfter3_ok {i : Nat} {a : En} : ∀ {k : Nat} {bs : List Nat} {es : List En}, okAfter3 i a (thin k bs es) = true → okAfter i a bs es = true
  | k, [], es, _ => by simp [okAfter]
  | k, b :: bs, [], _ => by simp [okAfter]
  | k, b :: bs, e :: es, h => by
    simp only [thin] at h
    simp only [okAfter, Bool.and_eq_true]
    split at h
    · rename_i hd
      exact ⟨dull_pair hd b i a, okAfter3_ok h⟩
    · simp only [okAfter3, Bool.and_eq_true] at h
      exact ⟨h.1, okAfter3_ok h.2⟩
theorem okEs3_ok : ∀ {i : Nat} {bs : List Nat} {es : List En}, okEs3 (thin i bs es) = true → okEs i bs es = true
  | i, [], es, _ => by simp [okEs]
  | i, b :: bs, [], _ => by simp [okEs]
  | i, b :: bs, e :: es, h => by
    simp only [thin] at h
    simp only [okEs, Bool.and_eq_true]
    split at h
    · rename_i hd
      exact ⟨dull_after hd, okEs3_ok h⟩
    · simp only [okEs3, Bool.and_eq_true] at h
      exact ⟨okAfter3_ok h.1, okEs3_ok h.2⟩
def anyEx : List En → Bool
  | [] => false
  | e :: es => match e.k with
    | .exact _ => true
    | _ => anyEx es
def okDyn (bs : List Nat) (es : List En) : Bool := bif anyEx es then okEs3 (thin 0 bs es) else true
def stAfter (i : Nat) (a : Nat × Nat) : List Nat → List (Nat × Nat) → Bool
  | b :: bs, e :: es => (b.testBit i || zeroN ((a.2 &&& (e.1 ||| e.2)) ||| (a.1 &&& e.2))) && stAfter i a bs es
  | _, _ => true
def stAll (i : Nat) : List Nat → List (Nat × Nat) → Bool
  | _ :: bs, e :: es => stAfter i e bs es && stAll (i + 1) bs es
  | _, _ => true
def stOk (ops : Array Oper) : Bool := backB ops && stAll 0 (ancs ops.toList []) (ops.toList.map fun o => (maskL (guardSlot ops o ++ slotsOf o.op), maskL o.dst.toList))
def afterX (pe : Option Code) (s : CS) : Option (Exit × CS) := match pe with
  | none => some (.normal, s)
  | some .ret => some (.ret, s)
  | some (.exit id) => some (.exit id, s)
  | some (.goto t) => some (.goto t, s)
  | _ => none
def hasRec (m : Tr CB) : Option Nat → Bool
  | none => true
  | some id => match m.get id with
    | some (.loop ..) => true
    | _ => false
def rangeX (P : Program) (T : Tab) (R : Runner) (r : Option Nat) (ns : Nat) (s : CS) (f : FuncId) (us vs : List SV) (ps : Array Tmp) (x y : Code) : Option (Exit × CS) :=
  bif free s.mem s.n && hasRec s.mem r then
    match callFn P T R f (us ++ [.yield s.n] ++ vs) (s.n + 1) (putM s.mem s.n (some (.loop .ready none ns s.sl ps x y))) with
    | some q => match q.m.get s.n with
      | some (.loop st pe _ _ _ _ _) => match st with
        | .busy => none
        | _ => afterX pe ⟨q.n, s.sl, putM q.m s.n (some (.loop .exhausted pe ns s.sl ps x y))⟩
      | _ => none
    | none => none
  else none
def bReg (P : Program) (T : Tab) (Z : ZTab) (Q : QTab) (M : MTab) (K : Known) (R : Runner) (ns : Nat) (ops : Array Oper) (draw : Bool) (s : CS) : Option (Exit × CS) :=
    bif draw then match drOps P T Z Q M K R ns ops ops.toList s with
      | some (es, s') => bif stOk ops && okDyn (ancs ops.toList []) es then some (.normal, s') else none
      | none => none
    else match doOps P T Z Q M K R ns ops ops.toList s with
      | some s' => some (.normal, s')
      | none => none
def onNormal (k : CS → Option (Exit × CS)) : Option (Exit × CS) → Option (Exit × CS)
  | some (e, s1) => match e with
      | .normal => k s1
      | e => some (e, s1)
  | none => none
def bCond (R : Runner) (r : Option Nat) (ns : Nat) (c : Operand) (a b : Code) (s : CS) : Option (Exit × CS) := match opd ns s.den c with
    | some (.d (.val (.bool t))) => if t then R r ns .no a s else R r ns .no b s
    | _ => none
def bBlock (id : Nat) : Option (Exit × CS) → Option (Exit × CS)
  | some (e, s1) => match e with
      | .exit j => bif Nat.beq j id then some (.normal, s1) else some (.exit j, s1)
      | e => some (e, s1)
  | none => none
def bRange (P : Program) (T : Tab) (R : Runner) (r : Option Nat) (ns : Nat) (g : Operand) (ps : Array Tmp) (x y : Code) (s : CS) : Option (Exit × CS) := match opd ns s.den g with
    | some (.fn f us vs) => rangeX P T R r ns s f us vs ps x y
    | _ => none
def bodyC (P : Program) (T : Tab) (Z : ZTab) (Q : QTab) (M : MTab) (K : Known) (R : Runner) (r : Option Nat) (ns : Nat) (c : Code) (s : CS) : Option (Exit × CS) :=
  match c with
  | .skip => some (.normal, s)
  | .region _ ops draw => bReg P T Z Q M K R ns ops draw s
  | .seq a b => onNormal (R r ns .no b) (R r ns .no a s)
  | .cond c a b => bCond R r ns c a b s
  | .block id c => bBlock id (R r ns .no c s)
  | .loop c => R r ns (.lp c) c s
  | .rangeFunc g ps x y => bRange P T R r ns g ps x y s
  | .exit id => some (.exit id, s)
  | .goto l => some (.goto l, s)
  | .label _ => some (.normal, s)
  | .ret => some (.ret, s)
  | .scope c => R r ns (.sc c) c s
  | _ => none
def bodyR (P : Program) (T : Tab) (Z : ZTab) (Q : QTab) (M : MTab) (K : Known) (R : Runner) : Runner := fun r ns cx c s => match cx with
  | .no => bodyC P T Z Q M K R r ns c s
  | .sc c0 => match R r ns .no c s with
    | some (e, s1) => match e with
      | .goto l => match findLabel c0 l with
        | some rest => R r ns (.sc c0) rest s1
        | none => some (.goto l, s1)
      | e => some (e, s1)
    | none => none
  | .lp c0 => match R r ns .no c s with
    | some (e, s1) => match e with
      | .normal => R r ns (.lp c0) c0 s1
      | e => some (e, s1)
    | none => none
structure Cfg where
  P : Program
  T : Tab
  Z : ZTab
  Q : QTab
  M : MTab
  K : Known
variable {C : Cfg} {R : Runner}
def getS (sl : Tr SV) (t : Nat) : SV := @Option.rec SV (fun _ => SV) .und (fun x => x) (sl.get t)
theorem getS_eq (sl : Tr SV) (t : Nat) : getS sl t = sOf sl t := by
  unfold getS sOf
  cases sl.get t <;> rfl
def opF (ns : Nat) (sl : Tr SV) (x : Operand) : Option SV :=
  @Operand.rec (fun _ => Option SV) (fun t => @Bool.rec (fun _ => Option SV) none (some (getS sl t)) (Nat.ble (Nat.succ t) ns)) constSV (fun _ => none) (fun f => some (.fn f [] [])) x
theorem opF_eq (ns : Nat) (s : CS) : opF ns s.sl = opd ns s.den := funext fun x => by
  cases x with
  | tmp t =>
    show @Bool.rec (fun _ => Option SV) none (some (getS s.sl t)) (Nat.ble (t + 1) ns) = if t < ns then some (sOf s.sl t) else none
    rw [rec_cond, getS_eq, cond_eq_ite]
    simp only [Nat.ble_eq, Nat.succ_le_iff]
  | const v => rfl
  | global => rfl
  | func => rfl
def putD' (sl : Tr SV) (d : Option Nat) (y : SV) : Tr SV := @Option.rec Nat (fun _ => Tr SV) sl (fun i => putT sl i y) d
theorem putD'_eq (sl : Tr SV) (d : Option Nat) (y : SV) : putD' sl d y = putD sl d y := by cases d <;> rfl
def fBin2 (T : Tab) (Q : QTab) (op : BinOp) (t : TypeId) (x y : Option SV) : Option SV := match x, y with
  | some u, some v => match op with
    | .shl | .shr => none
    | _ => match binSV T op t u v with
      | some r => some r
      | none => bigEq Q op t u v
  | _, _ => none
theorem fBin2_eq {T : Tab} {Q : QTab} {M : MTab} {m : Tr CB} {ev : Operand → Option SV} {op : BinOp} {t : TypeId} {x y : Operand} {ty : TypeId} : fBin2 T Q op t (ev x) (ev y) = xR T Q M m ev (.binOp op t x y ty) := by
  show _ = (match aopR T (mOf m) ev (.binOp op t x y ty) with
    | some r => some r
    | none => match ev x, ev y with
      | some u, some v => match op with
        | .shl | .shr => none
        | _ => bigEq Q op t u v
      | _, _ => none)
  have e : aopR T (mOf m) ev (.binOp op t x y ty) = (match ev x, ev y with
    | some u, some v => match op with
      | .shl | .shr => none
      | _ => binSV T op t u v
    | _, _ => none) := rfl
  rw [e]
  unfold fBin2
  cases ev x with
  | none => cases ev y <;> rfl
  | some u =>
    cases ev y with
    | none => rfl
    | some v => cases op <;> rfl
inductive In2 where
  | pu (f : Tr CB → (Operand → Option SV) → Option SV)
  | wr (f : Tr CB → Nat → (Operand → Option SV) → Option (SV × Tr CB))
  | ca (c : Call)
  | no
def dec2 (C : Cfg) (op : Op) : In2 := match op with
  | .move x => .pu fun _ ev => ev x
  | .assign x => .pu fun _ ev => ev x
  | .binOp op t x y _ => .pu fun _ ev => fBin2 C.T C.Q op t (ev x) (ev y)
  | .load t x => .pu fun m ev => fLd C.T m ev t x
  | .indexAddr t x i => .pu fun _ ev => fIx C.T ev t x i
  | .fieldAddr t x f => .pu fun _ ev => fFa C.T ev t x f
  | .pick c x y => .pu fun _ ev => match ev c, ev x, ev y with
    | some (.d (.val (.bool t))), some u, some v => some (if t then u else v)
    | _, _, _ => none
  | .unOp op _ x => .pu fun _ ev => match op, ev x with
    | .not, some (.d (.val (.bool b))) => some (.d (.val (.bool !b)))
    | .neg, some (.d (.val (.int k n))) => some (.d (.val (.int k (k.wrap (0 - n)))))
    | _, _ => none
  | .nilCheck x => .pu fun _ ev => match ev x with
    | some (.rptr cs) => some (.rptr cs)
    | some (.ptr i r j) => some (.ptr i r j)
    | _ => none
  | .field s x f => .pu fun _ ev => match C.T s with
    | some i => match fieldOf i f with
      | some (off, ft) => match C.T ft, ev x with
        | some fi, some v => partSV fi off v
        | _, _ => none
      | none => none
    | none => none
  | .extract x i => .pu fun _ ev => match ev x with
    | some (.d (.tup cs)) => (cs[i]?).map .d
    | some (.tup cs) => cs[i]?
    | _ => none
  | .lookup t x ix ok => .pu fun m ev => match C.M t, ev x, ev ix with
    | some i, some v, some k => lookC m i v k ok
    | _, _, _ => none
  | .store t x y => .wr fun m _ ev => stoC C.T m ev t x y
  | .call c => .ca c
  | .defer _ => .no
  | op => match isW op with
    | true => .wr fun m n ev => xW C.T C.Z C.M m n ev op
    | false => .pu fun m ev => xR C.T C.Q C.M m ev op
def runI (C : Cfg) (R : Runner) (ev : Operand → Option SV) (s : CS) : In2 → Option Rs
  | .pu f => keepR s (f s.mem ev)
  | .wr f => keepW s (f s.mem s.n ev)
  | .ca c => fCall C.P C.T C.Z C.Q C.M C.K R ev s c
  | .no => none
theorem plain_doOp {ev : Operand → Option SV} {s : CS} {o : Oper} (h : calleeC ev o.op = .plain) : doOp C.P C.T C.Z C.Q C.M C.K R ev s o = (match isW o.op with
    | true => keepW s (xW C.T C.Z C.M s.mem s.n ev o.op)
    | false => keepR s (xR C.T C.Q C.M s.mem ev o.op)) := by
  unfold doOp
  rw [h]
  cases isW o.op with
  | true =>
    simp only [cond_true]
    cases xW C.T C.Z C.M s.mem s.n ev o.op with
    | none => rfl
    | some p => rfl
  | false =>
    simp only [cond_false]
    cases xR C.T C.Q C.M s.mem ev o.op with
    | none => rfl
    | some p => rfl
theorem runI_eq (ev : Operand → Option SV) (s : CS) (o : Oper) : runI C R ev s (dec2 C o.op) = doOp C.P C.T C.Z C.Q C.M C.K R ev s o := by
  have key : ∀ op, o.op = op → runI C R ev s (dec2 C op) = doOp C.P C.T C.Z C.Q C.M C.K R ev s o := by
    intro op ho
    cases op with
    | call c =>
      rw [← doF_eq]
      unfold doF
      rw [ho]
      rfl
    | defer c =>
      unfold doOp
      rw [ho]
      rfl
    | binOp op t x y ty =>
      rw [plain_doOp (by rw [ho]; rfl), ho]
      show keepR s (fBin2 C.T C.Q op t (ev x) (ev y)) = _
      rw [fBin2_eq (M := C.M) (m := s.mem) (ty := ty)]
      rfl
    | _ => rw [plain_doOp (by rw [ho]; rfl), ho]; rfl
  exact key o.op rfl
abbrev Kt := Nat → Tr SV → Tr CB → Option CS
def valF (ih : Kt) (d : Option Nat) (n : Nat) (sl : Tr SV) (m : Tr CB) (v : Option SV) : Option CS := @Option.rec SV (fun _ => Option CS) none (fun y => ih n (putD' sl d y) m) v
def wrF (ih : Kt) (d : Option Nat) (n : Nat) (sl : Tr SV) (v : Option (SV × Tr CB)) : Option CS := @Option.rec (SV × Tr CB) (fun _ => Option CS) none (fun p => @Prod.rec SV (Tr CB) (fun _ => Option CS) (fun y m => ih (Nat.succ n) (putD' sl d y) m) p) v
def resF (ih : Kt) (d : Option Nat) (sl : Tr SV) (v : Option Rs) : Option CS := @Option.rec Rs (fun _ => Option CS) none (fun q => @Rs.rec (fun _ => Option CS) (fun y n m => ih n (putD' sl d y) m) q) v
def insF (C : Cfg) (R : Runner) (ns : Nat) (ih : Kt) (d : Option Nat) (n : Nat) (sl : Tr SV) (m : Tr CB) (i : In2) : Option CS :=
  @In2.rec (fun _ => Option CS) (fun f => valF ih d n sl m (f m (opF ns sl))) (fun f => wrF ih d n sl (f m n (opF ns sl))) (fun c => resF ih d sl (fCall C.P C.T C.Z C.Q C.M C.K R (opF ns sl) ⟨n, sl, m⟩ c)) none i
def gFF (ops : Array Oper) (ns : Nat) (sl : Tr SV) (m : Tr CB) (o : Oper) : Option Bool :=
  @Option.rec (Nat × Bool) (fun _ => Option Bool) (@Bool.rec (fun _ => Option Bool) none (some true) (dstOk ns o.dst)) (fun _ => guardS ops ns ⟨sOf sl, mOf m⟩ o) o.guard
theorem gFF_eq (ops : Array Oper) (ns : Nat) (s : CS) (o : Oper) : gFF ops ns s.sl s.mem o = gF ops ns s o := by
  unfold gFF gF
  cases o.guard with
  | none =>
    show @Bool.rec (fun _ => Option Bool) none (some true) (dstOk ns o.dst) = _
    rw [rec_cond]
  | some g => rfl
def stepF (C : Cfg) (R : Runner) (ns : Nat) (ops : Array Oper) (o : Oper) (ih : Kt) (n : Nat) (sl : Tr SV) (m : Tr CB) : Option CS :=
  @Option.rec Bool (fun _ => Option CS) none (fun b => @Bool.rec (fun _ => Option CS) (ih n (putD' sl o.dst (.tup [])) m) (insF C R ns ih o.dst n sl m (dec2 C o.op)) b) (gFF ops ns sl m o)
def runOps (C : Cfg) (R : Runner) (ns : Nat) (ops : Array Oper) (l : List Oper) : Kt :=
  @List.rec Oper (fun _ => Kt) (fun n sl m => some ⟨n, sl, m⟩) (fun o _ ih => stepF C R ns ops o ih) l
theorem runOps_eq {ns : Nat} {ops : Array Oper} : ∀ (l : List Oper) (n : Nat) (sl : Tr SV) (m : Tr CB), runOps C R ns ops l n sl m = doOps C.P C.T C.Z C.Q C.M C.K R ns ops l ⟨n, sl, m⟩
  | [], n, sl, m => rfl
  | o :: l, n, sl, m => by
    show stepF C R ns ops o (runOps C R ns ops l) n sl m = _
    unfold stepF
    rw [gFF_eq ops ns ⟨n, sl, m⟩ o, doOps]
    cases gF ops ns ⟨n, sl, m⟩ o with
    | none => rfl
    | some b =>
      cases b with
      | false =>
        show runOps C R ns ops l n (putD' sl o.dst (.tup [])) m = _
        rw [runOps_eq l, putD'_eq]
      | true =>
        show insF C R ns (runOps C R ns ops l) o.dst n sl m (dec2 C o.op) = _
        simp only
        rw [doF_eq, ← runI_eq, ← opF_eq]
        cases dec2 C o.op with
        | pu f =>
          show valF (runOps C R ns ops l) o.dst n sl m (f m (opF ns sl)) = _
          simp only [runI, keepR]
          cases f m (opF ns sl) with
          | none => rfl
          | some y =>
            show runOps C R ns ops l n (putD' sl o.dst y) m = _
            rw [runOps_eq l, putD'_eq]
        | wr f =>
          show wrF (runOps C R ns ops l) o.dst n sl (f m n (opF ns sl)) = _
          simp only [runI, keepW]
          cases f m n (opF ns sl) with
          | none => rfl
          | some p =>
            show runOps C R ns ops l (n + 1) (putD' sl o.dst p.1) p.2 = _
            rw [runOps_eq l, putD'_eq]
        | ca c =>
          show resF (runOps C R ns ops l) o.dst sl (fCall C.P C.T C.Z C.Q C.M C.K R (opF ns sl) ⟨n, sl, m⟩ c) = _
          simp only [runI]
          cases fCall C.P C.T C.Z C.Q C.M C.K R (opF ns sl) ⟨n, sl, m⟩ c with
          | none => rfl
          | some q =>
            show runOps C R ns ops l q.n (putD' sl o.dst q.y) q.m = _
            rw [runOps_eq l, putD'_eq]
        | no => rfl
def rdS : Op → Option Nat
  | .load _ (.tmp t) => some t
  | .lookup _ (.tmp t) _ _ => some t
  | _ => none
def idsR (sl : Tr SV) (d : Option Nat) : List Nat := @Option.rec Nat (fun _ => List Nat) [] (fun t => idsOf2 (getS sl t)) d
theorem idsR_eq (sl : Tr SV) (op : Op) : idsR sl (rdS op) = readsOf (sOf sl) op := by
  unfold readsOf rdS
  split
  · exact congrArg idsOf2 (getS_eq sl _)
  · exact congrArg idsOf2 (getS_eq sl _)
  · rfl
def purC (C : Cfg) (m : Tr CB) (ev : Operand → Option SV) (i : In2) : Option SV :=
  @In2.rec (fun _ => Option SV) (fun f => f m ev) (fun _ => none) (fun c => xR C.T C.Q C.M m ev (.call c)) none i
theorem purC_eq {m : Tr CB} {ev : Operand → Option SV} {op : Op} (h : plainS op = true) : purC C m ev (dec2 C op) = pureF C.T C.Q C.M m ev op := by
  rw [pureF_eq]
  cases op with
  | binOp op t x y ty => exact fBin2_eq
  | _ => first
    | rfl
    | cases h
abbrev Dt := Nat → Tr SV → Tr CB → Option (List En × CS)
def consE (e : En) (x : Option (List En × CS)) : Option (List En × CS) := @Option.rec (List En × CS) (fun _ => Option (List En × CS)) none (fun p => @Prod.rec (List En) CS (fun _ => Option (List En × CS)) (fun es s2 => some (e :: es, s2)) p) x
def dVal (ih : Dt) (d : Option Nat) (n : Nat) (sl : Tr SV) (m : Tr CB) (ids : List Nat) (v : Option SV) : Option (List En × CS) :=
  @Option.rec SV (fun _ => Option (List En × CS)) none (fun y => consE ⟨.pure y ids, ⟨n, sl, m⟩, ⟨n, putD' sl d y, m⟩⟩ (ih n (putD' sl d y) m)) v
def dRes (ih : Dt) (d : Option Nat) (n : Nat) (sl : Tr SV) (m : Tr CB) (v : Option Rs) : Option (List En × CS) :=
  @Option.rec Rs (fun _ => Option (List En × CS)) none (fun q => @Rs.rec (fun _ => Option (List En × CS)) (fun y n2 m2 => consE ⟨.exact y, ⟨n, sl, m⟩, ⟨n2, putD' sl d y, m2⟩⟩ (ih n2 (putD' sl d y) m2)) q) v
def dStep (C : Cfg) (R : Runner) (ns : Nat) (ops : Array Oper) (o : Oper) (ih : Dt) (n : Nat) (sl : Tr SV) (m : Tr CB) : Option (List En × CS) :=
  @Option.rec Bool (fun _ => Option (List En × CS)) none (fun b => @Bool.rec (fun _ => Option (List En × CS)) (consE ⟨.off, ⟨n, sl, m⟩, ⟨n, putD' sl o.dst (.tup []), m⟩⟩ (ih n (putD' sl o.dst (.tup [])) m))
    (@Bool.rec (fun _ => Option (List En × CS)) (dRes ih o.dst n sl m (runI C R (evR (slotsOf o.op) ns (sOf sl)) ⟨n, sl, m⟩ (dec2 C o.op)))
      (dVal ih o.dst n sl m (idsR sl (rdS o.op)) (purC C (memC m (idsR sl (rdS o.op))) (evR (slotsOf o.op) ns (sOf sl)) (dec2 C o.op))) (plainS o.op)) b) (gFF ops ns sl m o)
def runDr (C : Cfg) (R : Runner) (ns : Nat) (ops : Array Oper) (l : List Oper) : Dt :=
  @List.rec Oper (fun _ => Dt) (fun n sl m => some ([], ⟨n, sl, m⟩)) (fun o _ ih => dStep C R ns ops o ih) l
theorem consE_eq (e : En) (x : Option (List En × CS)) : consE e x = (match x with
    | some (es, s2) => some (e :: es, s2)
    | none => none) := by
  cases x with
  | none => rfl
  | some p => rfl
theorem runDr_eq {ns : Nat} {ops : Array Oper} : ∀ (l : List Oper) (n : Nat) (sl : Tr SV) (m : Tr CB), runDr C R ns ops l n sl m = drOps C.P C.T C.Z C.Q C.M C.K R ns ops l ⟨n, sl, m⟩
  | [], n, sl, m => rfl
  | o :: l, n, sl, m => by
    show dStep C R ns ops o (runDr C R ns ops l) n sl m = _
    unfold dStep
    rw [gFF_eq ops ns ⟨n, sl, m⟩ o, drOps]
    cases gF ops ns ⟨n, sl, m⟩ o with
    | none => rfl
    | some b =>
      cases b with
      | false =>
        show consE _ (runDr C R ns ops l n (putD' sl o.dst (.tup [])) m) = _
        rw [consE_eq, runDr_eq l, putD'_eq]
      | true =>
        simp only
        cases hp : plainS o.op with
        | true =>
          show dVal (runDr C R ns ops l) o.dst n sl m (idsR sl (rdS o.op)) (purC C (memC m (idsR sl (rdS o.op))) (evR (slotsOf o.op) ns (sOf sl)) (dec2 C o.op)) = _
          rw [idsR_eq, purC_eq hp]
          simp only [cond_true]
          cases pureF C.T C.Q C.M (memC m (readsOf (sOf sl) o.op)) (evR (slotsOf o.op) ns (sOf sl)) o.op with
          | none => rfl
          | some y =>
            show consE _ (runDr C R ns ops l n (putD' sl o.dst y) m) = _
            rw [consE_eq, runDr_eq l, putD'_eq]
        | false =>
          show dRes (runDr C R ns ops l) o.dst n sl m (runI C R (evR (slotsOf o.op) ns (sOf sl)) ⟨n, sl, m⟩ (dec2 C o.op)) = _
          rw [runI_eq]
          simp only [cond_false]
          rw [doF_eq]
          cases doOp C.P C.T C.Z C.Q C.M C.K R (evR (slotsOf o.op) ns (sOf sl)) ⟨n, sl, m⟩ o with
          | none => rfl
          | some q =>
            show consE _ (runDr C R ns ops l q.n (putD' sl o.dst q.y) q.m) = _
            rw [consE_eq, runDr_eq l, putD'_eq]
abbrev Rt := Option (Exit × CS)
def doneF (x : Option CS) : Rt := @Option.rec CS (fun _ => Rt) none (fun s => some (.normal, s)) x
def drawF (ops : Array Oper) (x : Option (List En × CS)) : Rt :=
  @Option.rec (List En × CS) (fun _ => Rt) none (fun p => @Prod.rec (List En) CS (fun _ => Rt) (fun es s' => @Bool.rec (fun _ => Rt) none (some (.normal, s')) (stOk ops && okDyn (ancs ops.toList []) es)) p) x
def regF (C : Cfg) (R : Runner) (ns : Nat) (ops : Array Oper) (draw : Bool) (s : CS) : Rt :=
  @CS.rec (fun _ => Rt) (fun n sl m => @Bool.rec (fun _ => Rt) (doneF (runOps C R ns ops ops.toList n sl m)) (drawF ops (runDr C R ns ops ops.toList n sl m)) draw) s
theorem regF_eq {ns : Nat} {ops : Array Oper} {draw : Bool} {s : CS} : regF C R ns ops draw s = bReg C.P C.T C.Z C.Q C.M C.K R ns ops draw s := by
  cases s with
  | mk n sl m =>
    unfold bReg
    cases draw with
    | false =>
      show doneF (runOps C R ns ops ops.toList n sl m) = _
      rw [runOps_eq]
      simp only [cond_false]
      cases doOps C.P C.T C.Z C.Q C.M C.K R ns ops ops.toList ⟨n, sl, m⟩ <;> rfl
    | true =>
      show drawF ops (runDr C R ns ops ops.toList n sl m) = _
      rw [runDr_eq]
      simp only [cond_true]
      cases drOps C.P C.T C.Z C.Q C.M C.K R ns ops ops.toList ⟨n, sl, m⟩ with
      | none => rfl
      | some p =>
        show @Bool.rec (fun _ => Rt) none (some (.normal, p.2)) (stOk ops && okDyn (ancs ops.toList []) p.1) = _
        rw [rec_cond]
def condF (R : Runner) (r : Option Nat) (ns : Nat) (c : Operand) (a b : Code) (s : CS) : Rt := match opF ns s.sl c with
    | some (.d (.val (.bool t))) => @Bool.rec (fun _ => Rt) (R r ns .no b s) (R r ns .no a s) t
    | _ => none
def rangeF (C : Cfg) (R : Runner) (r : Option Nat) (ns : Nat) (g : Operand) (ps : Array Tmp) (x y : Code) (s : CS) : Rt := bRange C.P C.T R r ns g ps x y s
def codeF (C : Cfg) (R : Runner) (r : Option Nat) (ns : Nat) (c : Code) (s : CS) : Rt :=
  @Code.rec (fun _ => Rt) (some (.normal, s)) (fun _ ops draw => regF C R ns ops draw s) (fun a b _ _ => onNormal (R r ns .no b) (R r ns .no a s)) (fun c a b _ _ => condF R r ns c a b s) (fun id c _ => bBlock id (R r ns .no c s))
    (fun c _ => R r ns (.lp c) c s) (fun g ps x y _ _ => rangeF C R r ns g ps x y s) (fun id => some (.exit id, s)) (fun c _ => R r ns (.sc c) c s) (fun _ => some (.normal, s)) (fun l => some (.goto l, s)) (some (.ret, s)) (fun _ => none) c
theorem codeF_eq {r : Option Nat} {ns : Nat} {c : Code} {s : CS} : codeF C R r ns c s = bodyC C.P C.T C.Z C.Q C.M C.K R r ns c s := by
  cases c with
  | region id ops draw => exact regF_eq
  | cond c a b =>
    show condF R r ns c a b s = bCond R r ns c a b s
    unfold condF bCond
    rw [opF_eq]
    split
    · rename_i t _; cases t <;> rfl
    · rfl
  | _ => rfl
def scF (R : Runner) (r : Option Nat) (ns : Nat) (c0 : Code) (x : Rt) : Rt := match x with
    | some (e, s1) => match e with
      | .goto l => match findLabel c0 l with
        | some rest => R r ns (.sc c0) rest s1
        | none => some (.goto l, s1)
      | e => some (e, s1)
    | none => none
def lpF (R : Runner) (r : Option Nat) (ns : Nat) (c0 : Code) (x : Rt) : Rt := match x with
    | some (e, s1) => match e with
      | .normal => R r ns (.lp c0) c0 s1
      | e => some (e, s1)
    | none => none
def bodyRF (C : Cfg) (R : Runner) : Runner := fun r ns cx c s =>
  @Ctx.rec (fun _ => Rt) (codeF C R r ns c s) (fun c0 => scF R r ns c0 (R r ns .no c s)) (fun c0 => lpF R r ns c0 (R r ns .no c s)) cx
theorem bodyRF_eq : bodyRF C R = bodyR C.P C.T C.Z C.Q C.M C.K R := by
  funext r ns cx c s
  cases cx with
  | no => exact codeF_eq
  | sc c0 => rfl
  | lp c0 => rfl
def runC (C : Cfg) (fuel : Nat) : Runner := @Nat.rec (fun _ => Runner) (fun _ _ _ _ _ => none) (fun _ ih => bodyRF C ih) fuel
def runR (P : Program) (T : Tab) (Z : ZTab) (Q : QTab) (M : MTab) (K : Known) (fuel : Nat) : Runner := runC ⟨P, T, Z, Q, M, K⟩ fuel
theorem runR_zero {P : Program} {T : Tab} {Z : ZTab} {Q : QTab} {M : MTab} {K : Known} : runR P T Z Q M K 0 = fun _ _ _ _ _ => none := rfl
theorem runR_succ {P : Program} {T : Tab} {Z : ZTab} {Q : QTab} {M : MTab} {K : Known} {n : Nat} : runR P T Z Q M K (n + 1) = bodyR P T Z Q M K (runR P T Z Q M K n) := by
  show bodyRF ⟨P, T, Z, Q, M, K⟩ (runR P T Z Q M K n) = _
  rw [bodyRF_eq]
end Go.Proofs.Ytdkneonokbakjaa.Eng

noncomputable section
namespace Go.Proofs.Ytdkneonokbakjaa.Eng
open Go.RowKit
variable {P : Program} {T : Tab} {Z : ZTab} {Q : QTab} {M : MTab} {K : Known} {R : Runner} {r : Option Nat} {ns : Nat}
def Is (e : Exit) (s' : CS) : Post := fun e2 n2 s2 => e2 = e ∧ n2 = s'.n ∧ s2 = s'.den
def WalkX (P : Program) (r : Option Nat) (ns : Nat) (c : Code) (n : Nat) (s : St) (Q : Post) : Ctx → Prop
  | .no => AWi P r ns c n s Q
  | .sc c0 => AWs P r ns c0 c n s Q
  | .lp c0 => AWl P r ns c0 c n s Q
structure Runs (P : Program) (r : Option Nat) (ns : Nat) (cx : Ctx) (c : Code) (s : CS) (e : Exit) (s' : CS) : Prop where
  walk : WalkX P r ns c s.n s.den (Is e s') cx
  n : s.n ≤ s'.n
  recs : Recs s.mem s'.mem
def SoundR (P : Program) (R : Runner) : Prop := ∀ r ns cx c s e s', okN ns = true → R r ns cx c s = some (e, s') → Runs P r ns cx c s e s'
def NoGor (P : Program) : Prop := ∀ (f : FuncId) fn, P.funcs[f]? = some fn → (fn.name == "runtime.NumGoroutine") = false
theorem okN_lt {n : Nat} (h : okN n = true) : n < 2 ^ deep := lt_deep h
def ResIs (q : Rs) : SV → Nat → Mem → Prop := fun y n' m' => y = q.y ∧ n' = q.n ∧ m' = mOf q.m
structure Calls2 (P : Program) (f : FuncId) (args : List SV) (n : Nat) (m : Tr CB) (q : Rs) : Prop where
  call : CWp P f args n (mOf m) (ResIs q)
  n : n ≤ q.n
  recs : Recs m q.m
theorem callFn_sound (hT : TabOk P T) (hN : NoGor P) (hR : SoundR P R) {f : FuncId} {args : List SV} {n : Nat} {m : Tr CB} {q : Rs} (h : callFn P T R f args n m = some q) : Calls2 P f args n m q := by
  unfold callFn at h
  rw [getA_eq] at h
  split at h
  · cases h
  rename_i fn hf
  split at h
  · cases h
  rename_i c hb
  cases hc : (Nat.ble args.length fn.ntmps && okN fn.ntmps && resOk fn.results.toList fn.ntmps) with
  | false => rw [hc] at h; cases h
  | true =>
    rw [hc] at h
    simp only [cond_true] at h
    simp only [Bool.and_eq_true] at hc
    obtain ⟨⟨c1, c2⟩, c3⟩ := hc
    have hl := Nat.le_of_ble_eq_true c1
    have hlt := okN_lt c2
    have fin : ∀ (e : Exit) (s' : CS) (xs : List SV), R none fn.ntmps .no c ⟨n, startT args 0 .lf, m⟩ = some (e, s') → (e = .normal ∨ e = .ret) → resSlots T s'.den fn.results.toList = some xs → q = ⟨retV xs, s'.n, s'.mem⟩ → Calls2 P f args n m q := by
      intro e s' xs hr he hx hq
      subst hq
      have h1 := hR none fn.ntmps .no c _ e s' c2 hr
      refine ⟨cwp_of hT hf (hN f fn hf) hb hl c3 ?_, h1.n, h1.recs⟩
      have h2 : AWi P none fn.ntmps c _ _ _ := h1.walk
      simp only [CS.den, sOf_start args (by omega)] at h2
      refine h2.mono ?_
      rintro e2 n2 s2 ⟨rfl, rfl, rfl⟩
      exact ⟨he, xs, hx, rfl, rfl, rfl⟩
    split at h
    · rename_i s' hr
      split at h
      · rename_i xs hx
        cases h
        exact fin _ s' xs hr (.inl rfl) hx rfl
      · cases h
    · rename_i s' hr
      split at h
      · rename_i xs hx
        cases h
        exact fin _ s' xs hr (.inr rfl) hx rfl
      · cases h
    · cases h
theorem Recs.upd {m : Tr CB} {id : Nat} {st : LoopState} {pe : Option Code} {k : Nat} {sl : Tr SV} {ps : Array Tmp} {x y : Code} (h : m.get id = some (.loop st pe k sl ps x y)) (hid : id < 2 ^ deep) (st' : LoopState) (pe' : Option Code) : Recs m (putM m id (some (.loop st' pe' k sl ps x y))) := fun i st2 pe2 k2 sl2 ps2 x2 y2 hh => by
  rw [putM, Tr.get_put deep m id hid]
  by_cases e : i = id
  · subst e
    rw [h] at hh
    cases hh
    exact ⟨st', pe', by rw [if_pos rfl]⟩
  · exact ⟨st2, pe2, by rw [if_neg e]; exact hh⟩
theorem get_putM {m : Tr CB} {i : Nat} {x : Option CB} (h : i < 2 ^ deep) (k : Nat) : (putM m i x).get k = if k = i then x else m.get k := Tr.get_put deep m i h k
structure Yields2 (P : Program) (id : Nat) (xs : List SV) (n : Nat) (m : Tr CB) (q : Rs) : Prop where
  call : YCall P (.yield id) xs n (mOf m) (ResIs q)
  n : n ≤ q.n
  recs : Recs m q.m
theorem callYl_sound (hR : SoundR P R) {id : Nat} {xs : List SV} {n : Nat} {m : Tr CB} {q : Rs} (h : callYl R id xs n m = some q) : Yields2 P id xs n m q := by
  unfold callYl at h
  split at h
  · rename_i pe k sl ps x y hg
    cases hc : (Nat.beq xs.length ps.size && ps.toList.all (fun t => Nat.ble (t + 1) k) && okN k && okN id) with
    | false => rw [hc] at h; cases h
    | true =>
      rw [hc] at h
      simp only [cond_true] at h
      simp only [Bool.and_eq_true, Nat.beq_eq] at hc
      obtain ⟨⟨⟨c1, c2⟩, c3⟩, c4⟩ := hc
      have hk := okN_lt c3
      have hid := okN_lt c4
      have hps : ∀ p ∈ ps.toList, p < k := fun p hp => Nat.le_of_ble_eq_true (List.all_eq_true.1 c2 p hp)
      split at h
      · rename_i s1 hr1
        have h1 := hR (some id) k .no x _ .normal s1 c3 hr1
        obtain ⟨st1, pe1', hg1⟩ := h1.recs id .ready pe k sl ps x y hg
        split at h
        · rename_i _ _ _ _ _ _ hg1'
          rw [hg1] at hg1'
          cases hg1'
          split at h
          · rename_i e s2 hr2
            have h2 := hR (some id) k .no y _ e s2 c3 hr2
            have hgb : (putM s1.mem id (some (.loop .busy pe1' k sl ps x y))).get id = some (.loop .busy pe1' k sl ps x y) := by rw [get_putM hid, if_pos rfl]
            obtain ⟨st2, pe2, hg2⟩ := h2.recs id _ _ _ _ _ _ _ hgb
            split at h
            · rename_i j pe2' _ _ _ _ _ hj hg2'
              rw [hg2] at hg2'
              cases hg2'
              cases h
              have r1 := Recs.upd hg1 hid .busy pe1'
              have r2 := Recs.upd hg2 hid (if j.isNone then .ready else .done) j
              refine ⟨?_, Nat.le_trans h1.n h2.n, ((h1.recs.trans r1).trans h2.recs).trans r2⟩
              have e1 : mOf m id = some (.loop .ready pe k (sOf sl) ps x y false) := mOf_get hg
              refine YCall.yield e1 c1 (List.all_eq_true.2 fun p hp => by simpa using hps p hp) ?_
              have w1 : AWi P (some id) k x _ _ _ := h1.walk
              simp only [CS.den, sOf_putAll ps.toList xs sl fun p hp => Nat.lt_trans (hps p hp) hk] at w1
              refine w1.mono ?_
              rintro e' n1 s1' ⟨rfl, rfl, rfl⟩
              refine ⟨rfl, pe1', mOf_get hg1, ?_⟩
              have w2 : AWi P (some id) k y _ _ _ := h2.walk
              simp only [CS.den, mOf_put hid] at w2
              refine w2.mono ?_
              rintro e' n2 s2' ⟨rfl, rfl, rfl⟩
              refine ⟨j, pe2, hj, mOf_get hg2, rfl, rfl, ?_⟩
              simp only [CS.den, mOf_put hid]
              rfl
            · cases h
          · cases h
        · cases h
      · cases h
  · cases h
theorem evList_mono {ev ev' : Operand → Option SV} (h : ∀ x v, ev x = some v → ev' x = some v) : ∀ {l : List Operand} {vs : List SV}, evList ev l = some vs → evList ev' l = some vs
  | [], _, e => e
  | x :: l, vs, e => by
    simp only [evList] at e ⊢
    split at e
    · rename_i v r h1 h2
      cases e
      rw [h x v h1, evList_mono h h2]
    · cases e
theorem calleeC_fn {ev : Operand → Option SV} {s : St} (h : ∀ x v, ev x = some v → opd ns s x = some v) {op : Op} {f : FuncId} {l : List SV} (hc : calleeC ev op = .fn f l) : calleeS ns s op = some (f, l) := by
  unfold calleeC at hc
  split at hc
  · rename_i c
    split at hc
    · cases hc
    · rename_i g hcal
      split at hc
      · rename_i l' hl
        cases hc
        simp only [calleeS, hcal, evList_mono h hl]
      · cases hc
    · rename_i t hcal
      split at hc
      · rename_i g us vs l' h1 hl
        cases hc
        simp only [calleeS, hcal, h _ _ h1, evList_mono h hl]
      · cases hc
      · cases hc
    · cases hc
  · cases hc
  · cases hc
theorem calleeC_yl {ev : Operand → Option SV} {s : St} (h : ∀ x v, ev x = some v → opd ns s x = some v) {op : Op} {id : Nat} {l : List SV} (hc : calleeC ev op = .yl id l) : calleeV ns s op = some (.yield id, l) := by
  unfold calleeC at hc
  split at hc
  · rename_i c
    split at hc
    · cases hc
    · split at hc <;> cases hc
    · rename_i t hcal
      split at hc
      · cases hc
      · rename_i i l' h1 hl
        cases hc
        simp only [calleeV, hcal, h _ _ h1, evList_mono h hl]
      · cases hc
    · cases hc
  · cases hc
  · cases hc
theorem calleeC_plain {ev : Operand → Option SV} {o : Oper} (hc : calleeC ev o.op = .plain) : ∀ c, o.op ≠ .defer c := fun c e => by
  rw [e] at hc
  cases hc
theorem same1_eq {x y : SV} (h : same1 x y = true) : x = y := by
  unfold same1 at h
  split at h <;> simp_all
theorem sameL_eq {f : SV → SV → Bool} (hf : ∀ x y, f x y = true → x = y) : ∀ {l k : List SV}, sameL f l k = true → l = k
  | [], [], _ => rfl
  | [], _ :: _, h => by cases h
  | _ :: _, [], h => by cases h
  | x :: l, y :: k, h => by
    simp only [sameL, Bool.and_eq_true] at h
    rw [hf x y h.1, sameL_eq hf h.2]
theorem same2_eq {x y : SV} (h : same2 x y = true) : x = y := by
  unfold same2 at h
  split at h
  · simp only [Bool.and_eq_true, Nat.beq_eq] at h
    rw [h.1.1, sameL_eq (fun _ _ => same1_eq) h.1.2, sameL_eq (fun _ _ => same1_eq) h.2]
  · exact same1_eq h
theorem sameA_eq {x y : SV} (h : sameA x y = true) : x = y := by
  unfold sameA at h
  split at h
  · rw [sameL_eq (fun _ _ => same2_eq) h]
  · exact same2_eq h
theorem same3_eq {x y : SV} (h : same3 x y = true) : x = y := by
  unfold same3 at h
  split at h
  · rw [sameL_eq (fun _ _ => sameA_eq) h]
  · exact sameA_eq h
theorem sameT_eq : ∀ {x y : Tr SV}, sameT x y = true → x = y
  | .lf, .lf, _ => rfl
  | .nd none l r, .nd none l' r', h => by
    simp only [sameT, Bool.and_eq_true] at h
    rw [sameT_eq h.1, sameT_eq h.2]
  | .nd (some x) l r, .nd (some y) l' r', h => by
    simp only [sameT, Bool.and_eq_true] at h
    rw [same3_eq h.1.1, sameT_eq h.1.2, sameT_eq h.2]
  | .lf, .nd _ _ _, h => by simp [sameT] at h
  | .nd _ _ _, .lf, h => by simp [sameT] at h
  | .nd none _ _, .nd (some _) _ _, h => by simp [sameT] at h
  | .nd (some _) _ _, .nd none _ _, h => by simp [sameT] at h
theorem sameE_eq : ∀ {l k : List (List Int × SV × Nat)}, sameE l k = true → l = k
  | [], [], _ => rfl
  | [], _ :: _, h => by cases h
  | _ :: _, [], h => by cases h
  | (a, x, b) :: l, (a', y, b') :: k, h => by
    simp only [sameE, Bool.and_eq_true, Nat.beq_eq, decide_eq_true_eq] at h
    rw [h.1.1.1, same3_eq h.1.1.2, h.1.2, sameE_eq h.2]
theorem sameB_eq {x y : Option CB} (h : sameB x y = true) : x = y := by
  unfold sameB at h
  split at h
  · simp only [Bool.and_eq_true, Nat.beq_eq, beq_iff_eq] at h
    rw [h.1.1.1.1.1, h.1.1.1.1.2, h.1.1.1.2, sameL_eq (fun _ _ => same2_eq) h.1.1.2, sameT_eq h.1.2, h.2]
  · simp only [Bool.and_eq_true, Nat.beq_eq, beq_iff_eq, decide_eq_true_eq] at h
    rw [h.1.1.1, h.1.1.2, sameE_eq h.1.2, h.2]
  · rfl
  · cases h
theorem subTr_lf : ∀ {x : Tr CB}, subTr x .lf = true → ∀ i, x.get i = none
  | .lf, _, _ => rfl
  | .nd v l r, h, i => by
    simp only [subTr, Bool.and_eq_true, Option.isNone_iff_eq_none] at h
    obtain ⟨⟨h1, h2⟩, h3⟩ := h
    simp only [Tr.get_nd]
    split
    · exact h1
    · split
      · exact subTr_lf h2 _
      · exact subTr_lf h3 _
theorem subTr_get : ∀ {x y : Tr CB}, subTr x y = true → ∀ i c, x.get i = some c → y.get i = some c
  | .lf, _, _, i, c, hc => by simp [Tr.get_lf] at hc
  | .nd v l r, .lf, h, i, c, hc => by rw [subTr_lf h i] at hc; cases hc
  | .nd v l r, .nd v' l' r', h, i, c, hc => by
    simp only [subTr, Bool.and_eq_true] at h
    obtain ⟨⟨h1, h2⟩, h3⟩ := h
    simp only [Tr.get_nd] at hc ⊢
    split at hc
    · rename_i e
      rw [if_pos e]
      subst hc
      exact (sameB_eq h1).symm
    · rename_i e
      rw [if_neg e]
      split at hc
      · rename_i e; rw [if_pos e]; exact subTr_get h2 _ _ hc
      · rename_i e; rw [if_neg e]; exact subTr_get h3 _ _ hc
structure KnownOk (P : Program) (K : Known) : Prop where
  ents : ∀ e ∈ K.ents, Calls2 P e.f e.args e.n e.m e.q
  closed : ∀ c ∈ K.closed, ACall P c.1 [] (.val c.2)
  sums : ∀ f g, K.sums f = some g → ∀ args n m q, g args n m = some q → Calls2 P f args n m q
theorem cwp_closed {f : FuncId} {v : Value} (h : ACall P f [] (.val v)) (n : Nat) (m : Mem) : CWp P f [] n m fun y n' m' => y = .d (.val v) ∧ n' = n ∧ m' = m :=
  ⟨h.callable, fun W0 R0 E w vs M hsz hrep => by
    refine (h.calls E.ro w vs M.rlt (by simpa using hsz) (by simp)).mono ?_
    rintro e w' ⟨u, rfl, hb, hr⟩
    let E2 : Env := { E with ro := fun b => E.ro b ∨ (w.heap.size ≤ b ∧ b < w'.heap.size) }
    have hE : E.le E2 := ⟨fun _ h => .inl h, fun _ h => h, fun _ _ => rfl⟩
    have hUlt : ∀ b, W0.U b → b < w.heap.size := fun b hb => Nat.lt_of_lt_of_le (W0.lt b hb) M.below.size
    have hro : ∀ b, E.ro b → w'.heap[b]? = w.heap[b]? := fun b hb' => hb.block b (M.rlt b hb')
    refine ⟨u, E2, n, m, .d (.val v), rfl, ⟨M.below.trans (kept_of hb hUlt), fun b hb => .inl (M.ro0 b hb), fun b hb' => ?_, fun b hb' => ?_, M.dom, M.live, fun i b hi => (M.mem i b hi).keep hE hro (hb.block _ (M.mem i b hi).lt), M.base, fun i b hi => ?_, M.inj⟩, hE, hro, .d _ _ hr, rfl, rfl, rfl⟩
    · rcases hb' with h1 | h1
      · exact M.ro1 b h1
      · exact .inr fun h2 => by have := hUlt b h2; omega
    · rcases hb' with h1 | h1
      · exact Nat.lt_of_lt_of_le (M.rlt b h1) hb.size
      · exact h1.2
    · refine (M.frz i b hi).trans ⟨fun h => .inl h, fun h1 => ?_⟩
      rcases h1 with h1 | h1
      · exact h1
      · have h3 : (E.home i).blk < w.heap.size := (M.mem i b hi).lt
        have h4 : w.heap.size ≤ (E.home i).blk := h1.1
        omega⟩
theorem findC_mem {f : FuncId} : ∀ {l : List (FuncId × Value)} {v : Value}, findC f l = some v → (f, v) ∈ l
  | [], _, h => by cases h
  | (g, u) :: l, v, h => by
    simp only [findC, beq_nat, cond_eq_ite, decide_eq_true_eq] at h
    split at h
    · rename_i e; subst e; cases h; exact List.mem_cons_self
    · exact List.mem_cons_of_mem _ (findC_mem h)
theorem findE_mem {n : Nat} : ∀ {l : List Ent} {e : Ent}, findE n l = some e → e ∈ l ∧ e.n = n
  | [], _, h => by cases h
  | g :: l, e, h => by
    simp only [findE, beq_nat, cond_eq_ite, decide_eq_true_eq] at h
    split at h
    · rename_i e; cases h; exact ⟨List.mem_cons_self, e⟩
    · exact ⟨List.mem_cons_of_mem _ (findE_mem h).1, (findE_mem h).2⟩
theorem noLoop_get : ∀ {x : Tr CB}, noLoop x = true → ∀ i st pe k sl ps a b, x.get i ≠ some (.loop st pe k sl ps a b)
  | .lf, _, _, _, _, _, _, _, _, _ => by simp [Tr.get_lf]
  | .nd v l r, h, i, st, pe, k, sl, ps, a, b => by
    simp only [noLoop, Bool.and_eq_true] at h
    obtain ⟨⟨h1, h2⟩, h3⟩ := h
    simp only [Tr.get_nd]
    split
    · intro e; rw [e] at h1; simp at h1
    · split
      · exact noLoop_get h2 _ _ _ _ _ _ _ _
      · exact noLoop_get h3 _ _ _ _ _ _ _ _
theorem top_get {α : Type} (t : Tr α) : t.get 0 = t.top := by cases t <;> rfl
theorem left_get {α : Type} (t : Tr α) (i : Nat) (h0 : i ≠ 0) (h : i % 2 = 1) : t.get i = t.left.get (i / 2) := by
  cases t with
  | lf => rfl
  | nd v l r => rw [Tr.get_nd, if_neg h0, if_pos h]; rfl
theorem right_get {α : Type} (t : Tr α) (i : Nat) (h0 : i ≠ 0) (h : ¬ i % 2 = 1) : t.get i = t.right.get (i / 2 - 1) := by
  cases t with
  | lf => rfl
  | nd v l r => rw [Tr.get_nd, if_neg h0, if_neg h]; rfl
theorem frameT_get {α : Type} : ∀ (m m0 mq : Tr α) (i : Nat), (frameT m m0 mq).get i = pk (m.get i) (m0.get i) (mq.get i)
  | .lf, m0, mq, i => by
    simp only [frameT, Tr.get_lf, pk]
    split <;> rfl
  | .nd v l r, m0, mq, i => by
    simp only [frameT]
    rw [Tr.get_nd]
    by_cases h0 : i = 0
    · subst h0
      rw [if_pos rfl, top_get, top_get, top_get]
      rfl
    · rw [if_neg h0]
      by_cases h : i % 2 = 1
      · rw [if_pos h, frameT_get l, left_get _ i h0 h, left_get m0 i h0 h, left_get mq i h0 h]
        rfl
      · rw [if_neg h, frameT_get r, right_get _ i h0 h, right_get m0 i h0 h, right_get mq i h0 h]
        rfl
theorem cwp_more {f : FuncId} {args : List SV} {n : Nat} {m0 m : Tr CB} {q : Rs} (h : CWp P f args n (mOf m0) (ResIs q)) (hm : ∀ i b, mOf m0 i = some b → mOf m i = some b) : CWp P f args n (mOf m) (ResIs ⟨q.y, q.n, frameT m m0 q.m⟩) :=
  ⟨h.callable, fun W0 R0 E w vs M h1 h2 => by
    let W1 : Fix := { w := w, U := fun b => b < w.heap.size ∧ ∀ i c, mOf m0 i = some c → (E.home i).blk ≠ b, lt := fun _ h => h.1, g := fun _ => undef }
    have hU : ∀ b, W0.U b → W1.U b := fun b hb => ⟨Nat.lt_of_lt_of_le (W0.lt b hb) M.below.size, fun i c hi e => M.base i c (hm i c hi) (e ▸ hb)⟩
    have hUn : ∀ i b, mOf m i = some b → mOf m0 i = none → W1.U (E.home i).blk := fun i b hi hn => ⟨(M.mem i b hi).lt, fun j c hj => M.inj j i c b (hm j c hj) hi fun e => by rw [e, hn] at hj; cases hj⟩
    have M1 : MS W1 E.ro (· < n) (mOf m0) E w := ⟨Kept.refl _ _, fun _ h => h, fun _ h => .inl h, M.rlt, M.dom, fun i b hi => M.live i b (hm i b hi), fun i b hi => M.mem i b (hm i b hi), fun i b hi h => h.2 i b hi rfl, fun i b hi => M.frz i b (hm i b hi), fun i j b c hi hj hn => M.inj i j b c (hm i b hi) (hm j c hj) hn⟩
    refine (h.calls W1 E.ro E w vs M1 h1 h2).mono ?_
    rintro e w' ⟨v, E', n', m', y, rfl, M2, hE, hw, hv, rfl, rfl, rfl⟩
    have hro : ∀ b, E'.ro b → E.ro b ∨ ¬ W1.U b := M2.ro1
    have cases_ : ∀ i b, mOf (frameT m m0 q.m) i = some b → mOf q.m i = some b ∨ (mOf m i = some b ∧ mOf m0 i = none) := fun i b hb => by
      simp only [mOf, frameT_get] at hb ⊢
      unfold pk at hb
      split at hb
      · exact .inl hb
      · rename_i h0
        split at hb
        · rename_i c hc
          exact .inr ⟨by rw [hc]; exact hb, by rw [h0]; rfl⟩
        · exact .inl hb
    refine ⟨v, E', q.n, mOf (frameT m m0 q.m), q.y, rfl, ⟨M.below.trans (M2.below.mono hU), fun b hb => hE.ro b (M.ro0 b hb), fun b hb => ?_, M2.rlt, M2.dom, fun i b hi => ?_, fun i b hi => ?_, fun i b hi => ?_, fun i b hi => ?_, fun i j b c hi hj hn => ?_⟩, hE, hw, hv, rfl, rfl, rfl⟩
    · rcases hro b hb with h3 | h3
      · exact M.ro1 b h3
      · exact .inr fun h4 => h3 (hU b h4)
    · rcases cases_ i b hi with h3 | ⟨h3, _⟩
      · exact M2.live i b h3
      · exact hE.dom i (M.live i b h3)
    · rcases cases_ i b hi with h3 | ⟨h3, hn⟩
      · exact M2.mem i b h3
      · rw [hE.home i (M.live i b h3)]
        exact (M.mem i b h3).keep hE hw (M2.below.block _ (hUn i b h3 hn))
    · rcases cases_ i b hi with h3 | ⟨h3, _⟩
      · exact fun h4 => M2.base i b h3 (hU _ h4)
      · rw [hE.home i (M.live i b h3)]
        exact M.base i b h3
    · rcases cases_ i b hi with h3 | ⟨h3, hn⟩
      · exact M2.frz i b h3
      · rw [hE.home i (M.live i b h3)]
        refine (M.frz i b h3).trans ⟨fun h => hE.ro _ h, fun h => ?_⟩
        rcases hro _ h with h4 | h4
        · exact h4
        · exact absurd (hUn i b h3 hn) h4
    · rcases cases_ i b hi with h3 | ⟨h3, hn3⟩
      · rcases cases_ j c hj with h4 | ⟨h4, hn4⟩
        · exact M2.inj i j b c h3 h4 hn
        · rw [hE.home j (M.live j c h4)]
          exact fun e => M2.base i b h3 (e ▸ hUn j c h4 hn4)
      · rcases cases_ j c hj with h4 | ⟨h4, hn4⟩
        · rw [hE.home i (M.live i b h3)]
          exact fun e => M2.base j c h4 (e ▸ hUn i b h3 hn3)
        · rw [hE.home i (M.live i b h3), hE.home j (M.live j c h4)]
          exact M.inj i j b c h3 h4 hn⟩
theorem callK_sound (hT : TabOk P T) (hK : KnownOk P K) (hN : NoGor P) (hR : SoundR P R) {f : FuncId} {args : List SV} {n : Nat} {m : Tr CB} {q : Rs} (h : callK P T K R f args n m = some q) : Calls2 P f args n m q := by
  unfold callK at h
  split at h
  · rename_i v hv
    split at h
    · cases h
      exact ⟨cwp_closed (hK.closed _ (findC_mem hv)) n (mOf m), Nat.le_refl _, Recs.refl _⟩
    · cases h
  · split at h
    · rename_i g hg
      exact hK.sums f g hg args n m q h
    split at h
    · rename_i e he
      obtain ⟨h1, h2⟩ := findE_mem he
      cases hc : (Nat.beq e.f f && sameL same3 args e.args && subTr e.m m && noLoop e.m) with
      | false => rw [hc] at h; exact callFn_sound hT hN hR h
      | true =>
        rw [hc] at h
        cases h
        simp only [Bool.and_eq_true, Nat.beq_eq] at hc
        obtain ⟨⟨⟨c1, c2⟩, c3⟩, c4⟩ := hc
        have hg := subTr_get c3
        have hm : ∀ i b, mOf e.m i = some b → mOf m i = some b := fun i b hb => by
          simp only [mOf, Option.map_eq_some_iff] at hb ⊢
          obtain ⟨c, hc, rfl⟩ := hb
          exact ⟨c, hg i c hc, rfl⟩
        have H := hK.ents e h1
        rw [c1, h2, ← sameL_eq (fun _ _ => same3_eq) c2] at H
        refine ⟨cwp_more H.call hm, H.n, fun id st pe k sl ps x y hh => ⟨st, pe, ?_⟩⟩
        rw [frameT_get]
        cases h0 : e.m.get id with
        | none => simp only [pk, hh]
        | some c =>
          have := hg id c h0
          rw [hh] at this
          cases this
          exact absurd h0 (noLoop_get c4 id st pe k sl ps x y)
    · exact callFn_sound hT hN hR h
theorem Calls2.less {f : FuncId} {args : List SV} {n : Nat} {m : Tr CB} {q q' : Rs} (h : Calls2 P f args n m q) (hy : q'.y = q.y) (hn : q'.n = q.n) (hm : ∀ i b, mOf q'.m i = some b → mOf q.m i = some b) (hr : Recs m q'.m) : Calls2 P f args n m q' := by
  refine ⟨⟨h.call.callable, fun W0 R0 E w vs M h1 h2 => (h.call.calls W0 R0 E w vs M h1 h2).mono ?_⟩, by rw [hn]; exact h.n, hr⟩
  rintro e w' ⟨v, E', n', m', y, rfl, M2, hE, hk, hv, rfl, rfl, rfl⟩
  exact ⟨v, E', q'.n, mOf q'.m, q'.y, rfl, ⟨M2.below, M2.ro0, M2.ro1, M2.rlt, fun i hi => by rw [hn]; exact M2.dom i hi, fun i b hi => M2.live i b (hm i b hi), fun i b hi => M2.mem i b (hm i b hi), fun i b hi => M2.base i b (hm i b hi), fun i b hi => M2.frz i b (hm i b hi), fun i j b c hi hj hne => M2.inj i j b c (hm i b hi) (hm j c hj) hne⟩, hE, hk, by rw [hy]; exact hv, rfl, rfl, rfl⟩
def StepIs (P : Program) (r : Option Nat) (ns n : Nat) (s : St) (o : Oper) (q : Rs) : Prop := StepI P r ns n s o fun n2 s2 => n2 = q.n ∧ s2 = ⟨setSlot s.slots o.dst q.y, mOf q.m⟩
structure Does (P : Program) (ns : Nat) (ev : Operand → Option SV) (s : CS) (o : Oper) (q : Rs) : Prop where
  step : ∀ (r : Option Nat) (s' : St), s'.mem = mOf s.mem → (∀ x v, ev x = some v → opd ns s' x = some v) → StepIs P r ns s.n s' o q
  n : s.n ≤ q.n
  recs : Recs s.mem q.m
theorem doOp_sound (hT : TabOk P T) (hZ : ZTabOk T Z) (hQ : QTabOk P Q) (hM : MTabOk P M) (hK : KnownOk P K) (hN : NoGor P) (hR : SoundR P R) {ev : Operand → Option SV} {s : CS} {o : Oper} {q : Rs} (h : doOp P T Z Q M K R ev s o = some q) : Does P ns ev s o q := by
  unfold doOp at h
  split at h
  · rename_i hc
    have hdf := calleeC_plain hc
    cases hw : isW o.op with
    | true =>
      rw [hw] at h
      simp only [cond_true] at h
      split at h
      · rename_i x m' hx
        cases h
        have hrec : Recs s.mem m' := xW_recs hx
        refine ⟨fun r s' hm hev W0 R0 B E a w hi hs hd K1 Q' hK1 => ?_, Nat.le_succ _, hrec⟩
        obtain ⟨⟨E', w', h1, h2⟩, _⟩ := xW_run hT hZ hM hs hm (nid := s.n) (by omega) (fun x v hx => hs.opd (hev x v hx)) hx
        refine oper_in hdf ?_
        unfold Oper.wp
        rcases h2 with ⟨v, hr, hv⟩ | ⟨hr, hu⟩
        · rw [hr]
          exact hK1 _ _ E' _ w' ⟨rfl, rfl⟩ ((h1.weak (D' := (· < s.n + 1)) fun i hi => by omega).put hd hv)
        · rw [hr]
          have := (h1.weak (D' := (· < s.n + 1)) fun i hi => by omega).put hd (Rep.und (E := E') (w := w') undef)
          exact hK1 _ _ E' _ w' ⟨rfl, by rw [hu]⟩ this
      · cases h
    | false =>
      rw [hw] at h
      simp only [cond_false] at h
      split at h
      · rename_i x hx
        cases h
        refine ⟨fun r s' hm hev W0 R0 B E a w hi hs hd K1 Q' hK1 => ?_, Nat.le_refl _, Recs.refl _⟩
        refine oper_in hdf (PureStep.wp (P := P) (s := s') (x := x) (fun W0 R0 D E a w hs => xR_run hT hQ hM (fun x v hx => hs.opd (hev x v hx)) (fun i b hi => hs.mem i b (by rw [hm]; exact hi)) hx) hs hd fun a' hs' => ?_)
        exact hK1 _ ⟨setSlot s'.slots o.dst x, mOf s.mem⟩ E _ w ⟨rfl, rfl⟩ (by rw [hm] at hs'; exact hs')
      · cases h
  · rename_i f l hc
    have h1 := callK_sound hT hK hN hR h
    refine ⟨fun r s' hm hev => ?_, h1.n, h1.recs⟩
    have h2 := stepI_call (r := r) (n := s.n) (calleeC_fn hev hc) (by rw [hm]; exact h1.call)
    exact fun W0 R0 B E a w hi hs hd K1 Q' hK1 => h2 W0 R0 B E a w hi hs hd K1 Q' fun n2 s2 E' a' w' ⟨y, m2, ⟨e1, e2, e3⟩, e4⟩ hs2 => hK1 n2 s2 E' a' w' ⟨e2, by rw [e4, e1, e3]⟩ hs2
  · rename_i id l hc
    have h1 := callYl_sound hR h
    refine ⟨fun r s' hm hev => ?_, h1.n, h1.recs⟩
    have h2 := h1.call r ns s' o hm (calleeC_yl hev hc)
    exact fun W0 R0 B E a w hi hs hd K1 Q' hK1 => h2 W0 R0 B E a w hi hs hd K1 Q' fun n2 s2 E' a' w' ⟨y, m2, ⟨e1, e2, e3⟩, e4⟩ hs2 => hK1 n2 s2 E' a' w' ⟨e2, by rw [e4, e1, e3]⟩ hs2
  · cases h
end Go.Proofs.Ytdkneonokbakjaa.Eng

noncomputable section
namespace Go.Proofs.Ytdkneonokbakjaa.Eng
open Go.RowKit
variable {P : Program} {T : Tab} {Z : ZTab} {Q : QTab} {M : MTab} {K : Known} {R : Runner} {r : Option Nat} {ns : Nat}
theorem sOf_dst {s : CS} {ops : Array Oper} {o : Oper} {b : Bool} (hns : okN ns = true) (hg : guardS ops ns s.den o = some b) (x : SV) : sOf (putD s.sl o.dst x) = setSlot (sOf s.sl) o.dst x :=
  sOf_putD fun i hi => Nat.lt_trans (guardS_dst hg i hi) (okN_lt hns)
theorem doOps_sound (hT : TabOk P T) (hZ : ZTabOk T Z) (hQ : QTabOk P Q) (hM : MTabOk P M) (hK : KnownOk P K) (hN : NoGor P) (hR : SoundR P R) (hns : okN ns = true) {ops : Array Oper} : ∀ (l : List Oper) (s : CS) {s' : CS}, doOps P T Z Q M K R ns ops l s = some s' →
    s.n ≤ s'.n ∧ Recs s.mem s'.mem ∧ ∀ {W0 : Fix} {R0 : Nat → Prop} {B : Nat} {E : Env} {a : Act} {w : World} {Q : Exit → Act → World → Prop}, InAct r W0 R0 B → Sim W0 R0 ns (· < s.n) s.den E a w → (∀ E' a' w', Sim W0 R0 ns (· < s'.n) s'.den E' a' w' → Q .normal a' w') → wpListIn (fen (rOf W0 r)) 0 P ops Q l a w
  | [], s, s', h => by
    cases h
    exact ⟨Nat.le_refl _, Recs.refl _, fun _ hs hQ => hQ _ _ _ hs⟩
  | o :: l, s, s', h => by
    simp only [doOps, doF_eq, gF_eq] at h
    split at h
    · rename_i hg
      split at h
      · rename_i q hq
        have h1 := doOp_sound hT hZ hQ hM hK hN hR (ns := ns) hq
        obtain ⟨i1, i2, i3⟩ := doOps_sound hT hZ hQ hM hK hN hR hns l _ h
        refine ⟨Nat.le_trans h1.n i1, h1.recs.trans i2, fun {W0 R0 B E a w Q} hi hs hQ => wpListIn_step fun K hK => ?_⟩
        rw [guard_ok hs hg, if_pos rfl]
        refine h1.step r s.den rfl (fun x v hx => hx) _ _ _ _ _ _ hi hs (guardS_dst hg) K _ fun n2 s2 E' a' w' hG hs2 => hK _ _ (i3 (E := E') hi ?_ hQ)
        obtain ⟨rfl, rfl⟩ := hG
        simp only [CS.den, sOf_dst hns hg]
        exact hs2
      · cases h
    · rename_i hg
      obtain ⟨i1, i2, i3⟩ := doOps_sound hT hZ hQ hM hK hN hR hns l _ h
      refine ⟨i1, i2, fun {W0 R0 B E a w Q} hi hs hQ => wpListIn_step fun K hK => ?_⟩
      rw [guard_ok hs hg, if_neg (by simp)]
      refine ⟨fun f _ => fen_fn _ f, hK _ _ (i3 (E := E) hi ?_ hQ)⟩
      simp only [CS.den, sOf_dst hns hg]
      exact hs.put (guardS_dst hg) rep_no
    · cases h
theorem evR_slots {L : List Nat} {f : Nat → SV} {s : St} (h : ∀ t ∈ L, s.slots t = f t) : ∀ x v, evR L ns f x = some v → opd ns s x = some v := fun x v hx => by
  cases x with
  | tmp t =>
    simp only [evR] at hx
    cases hc : (memN L t && Nat.ble (t + 1) ns) with
    | false => rw [hc] at hx; cases hx
    | true =>
      rw [hc] at hx
      rw [Bool.and_eq_true, memN_iff, Nat.ble_eq] at hc
      cases hx
      simp only [opd, if_pos (show t < ns from hc.2), h t hc.1]
  | const c => exact hx
  | global => cases hx
  | func => exact hx
theorem memC_sub {m : Tr CB} : ∀ {l : List Nat} {i : Nat} {b : Blk}, mOf (memC m l) i = some b → i ∈ l ∧ mOf m i = some b
  | [], i, b, h => by simp [memC, mOf, Tr.get_lf] at h
  | j :: l, i, b, h => by
    simp only [memC] at h
    cases hc : Nat.ble j 10000000 with
    | false => rw [hc] at h; exact ⟨List.mem_cons_of_mem _ (memC_sub h).1, (memC_sub h).2⟩
    | true =>
      rw [hc] at h
      simp only [cond_true, mOf_put (lt_deep hc), setMem] at h
      by_cases e : i = j
      · rw [if_pos e] at h
        subst e
        exact ⟨List.mem_cons_self, h⟩
      · rw [if_neg e] at h
        exact ⟨List.mem_cons_of_mem _ (memC_sub h).1, (memC_sub h).2⟩
structure EnOk (P : Program) (T : Tab) (Z : ZTab) (Q : QTab) (M : MTab) (K : Known) (R : Runner) (ns : Nat) (ops : Array Oper) (o : Oper) (e : En) : Prop where
  k : match e.k with
    | .off => guardS ops ns e.s.den o = some false ∧ e.s' = ⟨e.s.n, putD e.s.sl o.dst (.tup []), e.s.mem⟩
    | .pure x ids => guardS ops ns e.s.den o = some true ∧ plainP (evR (slotsOf o.op) ns (sOf e.s.sl)) o.op = true ∧ xR T Q M (memC e.s.mem ids) (evR (slotsOf o.op) ns (sOf e.s.sl)) o.op = some x ∧ e.s' = ⟨e.s.n, putD e.s.sl o.dst x, e.s.mem⟩
    | .exact y => guardS ops ns e.s.den o = some true ∧ ∃ q, doOp P T Z Q M K R (evR (slotsOf o.op) ns (sOf e.s.sl)) e.s o = some q ∧ y = q.y ∧ e.s' = ⟨q.n, putD e.s.sl o.dst q.y, q.m⟩
inductive Chain (P : Program) (T : Tab) (Z : ZTab) (Q : QTab) (M : MTab) (K : Known) (R : Runner) (ns : Nat) (ops : Array Oper) : List Oper → List En → CS → CS → Prop
  | nil (s) : Chain P T Z Q M K R ns ops [] [] s s
  | cons {o l e es sF} : EnOk P T Z Q M K R ns ops o e → Chain P T Z Q M K R ns ops l es e.s' sF → Chain P T Z Q M K R ns ops (o :: l) (e :: es) e.s sF
theorem drOps_chain {ops : Array Oper} : ∀ (l : List Oper) (s : CS) {es : List En} {sF : CS}, drOps P T Z Q M K R ns ops l s = some (es, sF) → Chain P T Z Q M K R ns ops l es s sF
  | [], s, es, sF, h => by cases h; exact .nil s
  | o :: l, s, es, sF, h => by
    simp only [drOps, doF_eq, gF_eq, pureF_eq] at h
    split at h
    · rename_i hg
      split at h
      · rename_i es' s2 hr
        cases h
        exact .cons (e := ⟨.off, s, _⟩) ⟨hg, rfl⟩ (drOps_chain l _ hr)
      · cases h
    · rename_i hg
      cases hp : plainS o.op with
      | true =>
        rw [hp] at h
        simp only [cond_true] at h
        split at h
        · rename_i x hx
          split at h
          · rename_i es' s2 hr
            cases h
            exact .cons (e := ⟨.pure x _, s, _⟩) ⟨hg, plainS_P hp _, hx, rfl⟩ (drOps_chain l _ hr)
          · cases h
        · cases h
      | false =>
        rw [hp] at h
        simp only [cond_false] at h
        split at h
        · rename_i q hq
          split at h
          · rename_i es' s2 hr
            cases h
            exact .cons (e := ⟨.exact q.y, s, _⟩) ⟨hg, q, hq, rfl, rfl⟩ (drOps_chain l _ hr)
          · cases h
        · cases h
    · cases h
def stAt (es : List En) (sF : CS) (k : Nat) : CS := match es[k]? with
  | some e => e.s
  | none => sF
theorem chain_len {ops : Array Oper} {l : List Oper} {es : List En} {s sF : CS} (h : Chain P T Z Q M K R ns ops l es s sF) : es.length = l.length := by
  induction h with
  | nil => rfl
  | cons _ _ ih => simp [ih]
theorem chain_zero {ops : Array Oper} {l : List Oper} {es : List En} {s sF : CS} (h : Chain P T Z Q M K R ns ops l es s sF) : stAt es sF 0 = s := by
  cases h with
  | nil => rfl
  | cons => rfl
theorem chain_at {ops : Array Oper} {l : List Oper} {es : List En} {s sF : CS} (h : Chain P T Z Q M K R ns ops l es s sF) : ∀ (k : Nat) o, l[k]? = some o → ∃ e, es[k]? = some e ∧ EnOk P T Z Q M K R ns ops o e ∧ stAt es sF k = e.s ∧ stAt es sF (k + 1) = e.s' := by
  induction h with
  | nil => intro k o hk; simp at hk
  | @cons o l e es sF he hc ih =>
    intro k o' hk
    match k with
    | 0 =>
      simp only [List.getElem?_cons_zero, Option.some.injEq] at hk
      subst hk
      exact ⟨e, rfl, he, rfl, chain_zero hc⟩
    | k + 1 =>
      obtain ⟨e', h1, h2, h3, h4⟩ := ih k o' (by simpa using hk)
      exact ⟨e', by simpa using h1, h2, h3, h4⟩
theorem chain_end {ops : Array Oper} {l : List Oper} {es : List En} {s sF : CS} (h : Chain P T Z Q M K R ns ops l es s sF) : stAt es sF l.length = sF := by
  unfold stAt
  rw [List.getElem?_eq_none (by rw [chain_len h]; omega)]
def kdOf (es : List En) (k : Nat) : Kd := match es[k]? with
  | some e => match e.k with
    | .off => .off
    | .pure x ids => .pure x ids
    | .exact y => .exact y e.s'.n (mOf e.s'.mem)
  | none => .off
theorem okAfter_spec {i : Nat} {a : En} : ∀ {bs : List Nat} {es : List En}, okAfter i a bs es = true → es.length ≤ bs.length → ∀ (q : Nat) e, es[q]? = some e → ∃ b, bs[q]? = some b ∧ pairOk b i a e = true
  | [], [], _, _, q, e, h => by simp at h
  | [], _ :: _, _, hl, _, _, _ => by simp at hl
  | _ :: _, [], _, _, q, e, h => by simp at h
  | b :: bs, e :: es, h, hl, q, f, hq => by
    simp only [okAfter, Bool.and_eq_true] at h
    match q with
    | 0 =>
      simp only [List.getElem?_cons_zero, Option.some.injEq] at hq
      subst hq
      exact ⟨b, rfl, h.1⟩
    | q + 1 =>
      have := okAfter_spec h.2 (by simpa using hl) q f (by simpa using hq)
      simpa using this
theorem okEs_spec : ∀ {i0 : Nat} {bs : List Nat} {es : List En}, okEs i0 bs es = true → es.length ≤ bs.length → ∀ (p q : Nat) e f, p < q → es[p]? = some e → es[q]? = some f → ∃ b, bs[q]? = some b ∧ pairOk b (i0 + p) e f = true
  | _, [], [], _, _, p, q, e, f, _, h, _ => by simp at h
  | _, [], _ :: _, _, hl, _, _, _, _, _, _, _ => by simp at hl
  | _, _ :: _, [], _, _, p, q, e, f, _, h, _ => by simp at h
  | i0, b :: bs, e :: es, h, hl, p, q, g, f, hpq, hp, hq => by
    simp only [okEs, Bool.and_eq_true] at h
    obtain ⟨q, rfl⟩ : ∃ q', q = q' + 1 := ⟨q - 1, by omega⟩
    simp only [List.getElem?_cons_succ] at hq ⊢
    match p with
    | 0 =>
      simp only [List.getElem?_cons_zero, Option.some.injEq] at hp
      subst hp
      exact okAfter_spec h.1 (by simpa using hl) q f hq
    | p + 1 =>
      have := okEs_spec h.2 (by simpa using hl) p q g f (by omega) (by simpa using hp) hq
      rw [show i0 + (p + 1) = i0 + 1 + p by omega]
      exact this
theorem anyEx_of : ∀ {es : List En} {k : Nat} {e : En} {y : SV}, es[k]? = some e → e.k = .exact y → anyEx es = true
  | [], k, _, _, h, _ => by simp at h
  | f :: es, 0, e, y, h, hk => by
    simp only [List.getElem?_cons_zero, Option.some.injEq] at h
    subst h
    simp only [anyEx, hk]
  | f :: es, k + 1, e, y, h, hk => by
    simp only [anyEx]
    split
    · rfl
    · exact anyEx_of (by simpa using h) hk
theorem stAfter_spec {i : Nat} {a : Nat × Nat} : ∀ {bs : List Nat} {es : List (Nat × Nat)}, stAfter i a bs es = true → es.length ≤ bs.length → ∀ (q : Nat) e, es[q]? = some e → ∃ b, bs[q]? = some b ∧ (b.testBit i = true ∨ (a.2 &&& (e.1 ||| e.2)) ||| (a.1 &&& e.2) = 0)
  | [], [], _, _, q, e, h => by simp at h
  | [], _ :: _, _, hl, _, _, _ => by simp at hl
  | _ :: _, [], _, _, q, e, h => by simp at h
  | b :: bs, e :: es, h, hl, q, f, hq => by
    simp only [stAfter, Bool.and_eq_true, Bool.or_eq_true] at h
    match q with
    | 0 =>
      simp only [List.getElem?_cons_zero, Option.some.injEq] at hq
      subst hq
      exact ⟨b, rfl, h.1.imp id fun h => by simpa [zeroN] using h⟩
    | q + 1 =>
      have := stAfter_spec h.2 (by simpa using hl) q f (by simpa using hq)
      simpa using this
theorem stAll_spec : ∀ {i0 : Nat} {bs : List Nat} {es : List (Nat × Nat)}, stAll i0 bs es = true → es.length ≤ bs.length → ∀ (p q : Nat) e f, p < q → es[p]? = some e → es[q]? = some f → ∃ b, bs[q]? = some b ∧ (b.testBit (i0 + p) = true ∨ (e.2 &&& (f.1 ||| f.2)) ||| (e.1 &&& f.2) = 0)
  | _, [], [], _, _, p, q, e, f, _, h, _ => by simp at h
  | _, [], _ :: _, _, hl, _, _, _, _, _, _, _ => by simp at hl
  | _, _ :: _, [], _, _, p, q, e, f, _, h, _ => by simp at h
  | i0, b :: bs, e :: es, h, hl, p, q, g, f, hpq, hp, hq => by
    simp only [stAll, Bool.and_eq_true] at h
    obtain ⟨q, rfl⟩ : ∃ q', q = q' + 1 := ⟨q - 1, by omega⟩
    simp only [List.getElem?_cons_succ] at hq ⊢
    match p with
    | 0 =>
      simp only [List.getElem?_cons_zero, Option.some.injEq] at hp
      subst hp
      exact stAfter_spec h.1 (by simpa using hl) q f hq
    | p + 1 =>
      have := stAll_spec h.2 (by simpa using hl) p q g f (by omega) (by simpa using hp) hq
      rw [show i0 + (p + 1) = i0 + 1 + p by omega]
      exact this
theorem ancs_len : ∀ (l : List Oper) (acc : List Nat), (ancs l acc).length = acc.length + l.length
  | [], acc => rfl
  | o :: l, acc => by simp only [ancs, ancs_len l]; simp; omega
theorem kd_ex {es : List En} {k : Nat} (h : (kdOf es k).ex = true) : ∃ e y, es[k]? = some e ∧ e.k = .exact y := by
  unfold kdOf at h
  split at h
  · rename_i e he
    split at h
    · cases h
    · cases h
    · rename_i y hy; exact ⟨e, y, he, hy⟩
  · cases h
theorem kd_pure {es : List En} {k : Nat} {x : SV} {ids : List Nat} (h : kdOf es k = .pure x ids) : ∃ e, es[k]? = some e ∧ e.k = .pure x ids := by
  unfold kdOf at h
  split at h
  · rename_i e he
    split at h
    · cases h
    · rename_i hk; cases h; exact ⟨e, he, hk⟩
    · cases h
  · cases h
theorem draw_of (hT : TabOk P T) (hZ : ZTabOk T Z) (hQ : QTabOk P Q) (hM : MTabOk P M) (hK : KnownOk P K) (hN : NoGor P) (hR : SoundR P R) (hns : okN ns = true) {l : List Oper} {es : List En} {s sF : CS} (h : Chain P T Z Q M K R ns l.toArray l es s sF) (hst : stOk l.toArray = true) (hok : okDyn (ancs l []) es = true) :
    Draw P r ns l (fun k => (stAt es sF k).den) (fun k => (stAt es sF k).n) (kdOf es) := by
  have hlen := chain_len h
  have at_ : ∀ (k : Nat), k < l.length → ∃ o e, l[k]? = some o ∧ es[k]? = some e ∧ EnOk P T Z Q M K R ns l.toArray o e ∧ stAt es sF k = e.s ∧ stAt es sF (k + 1) = e.s' := fun k hk => by
    obtain ⟨e, h1, h2, h3, h4⟩ := chain_at h k _ (List.getElem?_eq_getElem hk)
    exact ⟨_, e, List.getElem?_eq_getElem hk, h1, h2, h3, h4⟩
  unfold stOk at hst
  rw [Bool.and_eq_true] at hst
  have bit : ∀ {i k b : Nat}, (ancs l [])[k]? = some b → b.testBit i = true → Anc l i k := fun {i k b} hb hbt => by
    refine ancs_ok l [] [] rfl rfl (fun k i hk => by simp at hk) k i ?_
    rw [List.getD_eq_getElem?_getD, hb]
    simpa using hbt
  have anc : ∀ i k e f, i < k → es[i]? = some e → es[k]? = some f → (∃ y, e.k = .exact y) ∨ (∃ y, f.k = .exact y) → ∃ b, (ancs l [])[k]? = some b ∧ pairOk b i e f = true := fun i k e f hik hi hk hx => by
    have hany : anyEx es = true := by
      rcases hx with ⟨y, hy⟩ | ⟨y, hy⟩
      · exact anyEx_of hi hy
      · exact anyEx_of hk hy
    unfold okDyn at hok
    rw [hany] at hok
    have := okEs_spec (okEs3_ok hok) (by rw [ancs_len, hlen]; simp) i k e f hik hi hk
    simpa using this
  refine ⟨fun k o hk => ?_, fun k hk => ?_, fun k hk => ?_, fun k o hk hd => ?_, fun k o x ids hk hd => ?_, fun k o y n' m' hk hd => ?_, fun i k oi ok t hik hi hk ht => ?_, fun i k hik hk hi he => ?_, fun i k x ids hik hk hi he => ?_, fun i k x ids hik hk hi he => ?_⟩
  · obtain ⟨e, h1, h2, h3, h4⟩ := chain_at h k o hk
    simp only [h3, h4, kdOf, h1]
    have hk2 := h2.k
    cases hek : e.k with
    | off => rw [hek] at hk2; simp only at hk2 ⊢; rw [hk2.2]; simp only [CS.den, sOf_dst hns hk2.1]; rfl
    | pure x ids => rw [hek] at hk2; simp only at hk2 ⊢; rw [hk2.2.2.2]; simp only [CS.den, sOf_dst hns hk2.1]; rfl
    | exact y => rw [hek] at hk2; simp only at hk2 ⊢; obtain ⟨hg, q, hq, rfl, hs⟩ := hk2; rw [hs]; simp only [CS.den, sOf_dst hns hg]; rfl
  · obtain ⟨o, e, _, h1, h2, h3, h4⟩ := at_ k hk
    simp only [h3, h4, kdOf, h1]
    have hk2 := h2.k
    cases hek : e.k with
    | off => rw [hek] at hk2; simp only at hk2 ⊢; rw [hk2.2]; rfl
    | pure x ids => rw [hek] at hk2; simp only at hk2 ⊢; rw [hk2.2.2.2]; rfl
    | exact y => rfl
  · obtain ⟨o, e, _, h1, h2, h3, h4⟩ := at_ k hk
    simp only [h3, h4, kdOf, h1]
    have hk2 := h2.k
    cases hek : e.k with
    | off => rw [hek] at hk2; simp only at hk2 ⊢; rw [hk2.2]; exact ⟨rfl, Nat.le_refl _⟩
    | pure x ids => rw [hek] at hk2; simp only at hk2 ⊢; rw [hk2.2.2.2]; exact ⟨rfl, Nat.le_refl _⟩
    | exact y =>
      rw [hek] at hk2
      simp only at hk2 ⊢
      obtain ⟨hg, q, hq, rfl, hs⟩ := hk2
      refine ⟨rfl, ?_⟩
      rw [hs]
      exact (doOp_sound hT hZ hQ hM hK hN hR (ns := ns) hq).n
  · obtain ⟨e, h1, h2, h3, h4⟩ := chain_at h k o hk
    simp only [h3]
    simp only [kdOf, h1] at hd
    have hk2 := h2.k
    cases hek : e.k with
    | off => rw [hek] at hk2; exact hk2.1
    | pure x ids => rw [hek] at hd; cases hd
    | exact y => rw [hek] at hd; cases hd
  · obtain ⟨e, h1, h2, h3, h4⟩ := chain_at h k o hk
    simp only [h3]
    simp only [kdOf, h1] at hd
    have hk2 := h2.k
    cases hek : e.k with
    | off => rw [hek] at hd; cases hd
    | exact y => rw [hek] at hd; cases hd
    | pure x' ids' =>
      rw [hek] at hd hk2
      cases hd
      simp only at hk2
      obtain ⟨hg, hp, hx, hs⟩ := hk2
      refine ⟨hg, fun s' hsl hme => PureStep.ro (fun c e' => ?_) fun W0 R0 D E a w hsim => ?_⟩
      · unfold plainP at hp
        split at hp
        · rename_i hc; exact calleeC_plain hc c e'
        · cases hp
      · exact xR_run hT hQ hM (fun y v hv => hsim.opd (evR_slots (s := s') hsl y v hv)) (fun i b hi => by
          obtain ⟨q1, q2⟩ := memC_sub hi
          exact hsim.mem i b ((hme i q1).trans q2)) hx
  · obtain ⟨e, h1, h2, h3, h4⟩ := chain_at h k o hk
    simp only [h3]
    simp only [kdOf, h1] at hd
    have hk2 := h2.k
    cases hek : e.k with
    | off => rw [hek] at hd; cases hd
    | pure x ids => rw [hek] at hd; cases hd
    | exact y' =>
      rw [hek] at hd hk2
      cases hd
      simp only at hk2
      obtain ⟨hg, q, hq, rfl, hs⟩ := hk2
      refine ⟨hg, fun s' hsl hme => ?_⟩
      have h5 := (doOp_sound hT hZ hQ hM hK hN hR (ns := ns) hq).step r s' hme (evR_slots (s := s') hsl)
      rw [hs]
      exact h5
  · have a1 : (l.toArray.toList.map fun o => (maskL (guardSlot l.toArray o ++ slotsOf o.op), maskL o.dst.toList))[i]? = some (maskL (guardSlot l.toArray oi ++ slotsOf oi.op), maskL oi.dst.toList) := by simp [hi]
    have a2 : (l.toArray.toList.map fun o => (maskL (guardSlot l.toArray o ++ slotsOf o.op), maskL o.dst.toList))[k]? = some (maskL (guardSlot l.toArray ok ++ slotsOf ok.op), maskL ok.dst.toList) := by simp [hk]
    obtain ⟨b, hb, h5⟩ := stAll_spec hst.2 (by rw [ancs_len]; simp) i k _ _ hik a1 a2
    rcases h5 with h5 | h6
    · exact bit hb (by simpa using h5)
    · exfalso
      obtain ⟨h7, h8⟩ := or_zero h6
      rcases ht with ⟨ht, h9⟩ | ⟨ht, h9⟩
      · refine and_bit h7 (x := t) (maskL_mem (by simp [ht])) ?_
        rw [Nat.testBit_or, Bool.or_eq_true]
        rcases h9 with h9 | h9 | h9
        · exact .inr (maskL_mem (by simp [h9]))
        · exact .inl (maskL_mem (List.mem_append_left _ h9))
        · exact .inl (maskL_mem (List.mem_append_right _ h9))
      · refine and_bit h8 (x := t) (maskL_mem ?_) (maskL_mem (by simp [ht]))
        rcases h9 with h9 | h9
        · exact List.mem_append_left _ h9
        · exact List.mem_append_right _ h9
  · obtain ⟨e, y, h1, h2⟩ := kd_ex hi
    obtain ⟨f, z, g1, g2⟩ := kd_ex he
    obtain ⟨b, hb, h5⟩ := anc i k e f hik h1 g1 (.inl ⟨y, h2⟩)
    unfold pairOk at h5
    rw [h2, g2] at h5
    exact bit hb h5
  · obtain ⟨e, y, h1, h2⟩ := kd_ex hi
    obtain ⟨f, g1, g2⟩ := kd_pure he
    obtain ⟨b, hb, h5⟩ := anc i k e f hik h1 g1 (.inl ⟨y, h2⟩)
    unfold pairOk at h5
    rw [h2, g2, Bool.or_eq_true] at h5
    refine h5.imp (fun h5 => bit hb h5) fun h5 j hj => ?_
    have h6 := sameB_eq (List.all_eq_true.1 h5 j hj)
    obtain ⟨o, e', _, q1, _, q3, q4⟩ := at_ i (by omega)
    rw [h1] at q1
    cases q1
    simp only [q3, q4, CS.den, mOf, h6]
  · obtain ⟨e, h1, h2⟩ := kd_pure hi
    obtain ⟨f, y, g1, g2⟩ := kd_ex he
    obtain ⟨b, hb, h5⟩ := anc i k e f hik h1 g1 (.inr ⟨y, g2⟩)
    unfold pairOk at h5
    rw [h2, g2, Bool.or_eq_true] at h5
    refine h5.imp (fun h5 => bit hb h5) fun h5 j hj => ?_
    have h6 := sameB_eq (List.all_eq_true.1 h5 j hj)
    obtain ⟨o, e', _, q1, _, q3, q4⟩ := at_ k hk
    rw [g1] at q1
    cases q1
    simp only [q3, q4, CS.den, mOf, h6]
theorem chain_mono (hT : TabOk P T) (hZ : ZTabOk T Z) (hQ : QTabOk P Q) (hM : MTabOk P M) (hK : KnownOk P K) (hN : NoGor P) (hR : SoundR P R) {ops : Array Oper} {l : List Oper} {es : List En} {s sF : CS} (h : Chain P T Z Q M K R ns ops l es s sF) : s.n ≤ sF.n ∧ Recs s.mem sF.mem := by
  induction h with
  | nil => exact ⟨Nat.le_refl _, Recs.refl _⟩
  | @cons o l e es sF he hc ih =>
    have hk := he.k
    have h0 : e.s.n ≤ e.s'.n ∧ Recs e.s.mem e.s'.mem := by
      cases hek : e.k with
      | off => rw [hek] at hk; simp only at hk; rw [hk.2]; exact ⟨Nat.le_refl _, Recs.refl _⟩
      | pure x ids => rw [hek] at hk; simp only at hk; rw [hk.2.2.2]; exact ⟨Nat.le_refl _, Recs.refl _⟩
      | exact y =>
        rw [hek] at hk
        simp only at hk
        obtain ⟨hg, q, hq, rfl, hs⟩ := hk
        have := doOp_sound hT hZ hQ hM hK hN hR (ns := ns) hq
        rw [hs]
        exact ⟨this.n, this.recs⟩
    exact ⟨Nat.le_trans h0.1 ih.1, h0.2.trans ih.2⟩
end Go.Proofs.Ytdkneonokbakjaa.Eng

noncomputable section
namespace Go.Proofs.Ytdkneonokbakjaa.Eng
open Go.RowKit
variable {P : Program} {T : Tab} {Z : ZTab} {Q : QTab} {M : MTab} {K : Known} {R : Runner} {r : Option Nat} {ns : Nat}
theorem Is.here {e : Exit} {s : CS} : Is e s e s.n s.den := ⟨rfl, rfl, rfl⟩
theorem runs_no {c : Code} {s : CS} {e : Exit} (h : AWi P r ns c s.n s.den (Is e s)) : Runs P r ns .no c s e s := ⟨h, Nat.le_refl _, Recs.refl _⟩
theorem Runs.left {c : Code} {k : Nat → St → Prop} {s s1 : CS} {e : Exit} (h1 : Runs P r ns .no c s e s1) (he : e ≠ .normal) : AWi P r ns c s.n s.den (thenP k (Is e s1)) :=
  AWi.mono h1.walk fun e2 _ _ ⟨a, b, c⟩ => by subst a; cases e2 <;> first | exact absurd rfl he | exact ⟨rfl, b, c⟩
theorem Runs.on {c : Code} {k : Nat → St → Prop} {Q : Post} {s s1 : CS} (h1 : Runs P r ns .no c s .normal s1) (h : k s1.n s1.den) : AWi P r ns c s.n s.den (thenP k Q) :=
  AWi.mono h1.walk fun e2 _ _ ⟨a, b, c⟩ => by subst a; subst b; subst c; exact h
theorem hasRec_spec {m : Tr CB} (h : hasRec m r = true) : ∀ id, r = some id → ∃ st pe k sl ps x y z, mOf m id = some (.loop st pe k sl ps x y z) := fun id e => by
  subst e
  unfold hasRec at h
  split at h
  · rename_i e; cases e
  · rename_i i e
    cases e
    split at h
    · rename_i st pe k sl ps x y hg
      exact ⟨_, _, _, _, _, _, _, _, mOf_get hg⟩
    · cases h
theorem rangeX_sound (hT : TabOk P T) (hN : NoGor P) (hR : SoundR P R) {s s' : CS} {f : FuncId} {us vs : List SV} {ps : Array Tmp} {x y : Code} {g : Operand} {e : Exit} (hg : opd ns s.den g = some (.fn f us vs)) (h : rangeX P T R r ns s f us vs ps x y = some (e, s')) : Runs P r ns .no (.rangeFunc g ps x y) s e s' := by
  unfold rangeX at h
  cases hc : (free s.mem s.n && hasRec s.mem r) with
  | false => rw [hc] at h; cases h
  | true =>
    rw [hc] at h
    simp only [cond_true] at h
    rw [Bool.and_eq_true] at hc
    obtain ⟨c1, c2⟩ := hc
    obtain ⟨hlt, hnone⟩ := free_spec c1
    split at h
    · rename_i q hq
      have h1 := callFn_sound hT hN hR hq
      obtain ⟨st', pe', hg'⟩ := h1.recs s.n .ready none ns s.sl ps x y (by rw [get_putM hlt, if_pos rfl])
      split at h
      · rename_i st pe _ _ _ _ _ hg2
        rw [hg'] at hg2
        cases hg2
        have hrec : Recs s.mem (putM q.m s.n (some (.loop .exhausted pe' ns s.sl ps x y))) := ((Recs.new c1).trans h1.recs).trans (Recs.upd hg' hlt _ _)
        have key : st' ≠ .busy → afterX pe' ⟨q.n, s.sl, putM q.m s.n (some (.loop .exhausted pe' ns s.sl ps x y))⟩ = some (e, s') → Runs P r ns .no (.rangeFunc g ps x y) s e s' := fun hst ha => by
          have hs' : s' = ⟨q.n, s.sl, putM q.m s.n (some (.loop .exhausted pe' ns s.sl ps x y))⟩ := by
            unfold afterX at ha
            split at ha <;> first | (cases ha; rfl) | cases ha
          refine ⟨AWi.rangeFunc hg (hasRec_spec c2) ?_, by rw [hs']; exact Nat.le_trans (Nat.le_succ _) h1.n, by rw [hs']; exact hrec⟩
          have h2 := h1.call
          rw [mOf_put hlt] at h2
          refine h2.mono ?_
          rintro y2 n2 m2 ⟨rfl, rfl, rfl⟩
          refine ⟨st', pe', mOf_get hg', hst, ?_⟩
          have e1 : (⟨(s.den).slots, setMem (mOf q.m) s.n (some (.loop .exhausted pe' ns (s.den).slots ps x y false))⟩ : St) = s'.den := by
            rw [hs']
            simp only [CS.den, mOf_put hlt]
            rfl
          have e2 : q.n = s'.n := by rw [hs']
          show afterP _ q.n ⟨(s.den).slots, setMem (mOf q.m) s.n (some (.loop .exhausted pe' ns (s.den).slots ps x y false))⟩ pe'
          rw [e1, e2]
          unfold afterX at ha
          split at ha
          · cases ha; exact Is.here
          · cases ha; exact Is.here
          · cases ha; exact Is.here
          · cases ha; exact Is.here
          · cases ha
        cases st' with
        | busy => cases h
        | ready => exact key (by simp) h
        | done => exact key (by simp) h
        | exhausted => exact key (by simp) h
      · cases h
    · cases h
theorem bodyC_sound (hT : TabOk P T) (hZ : ZTabOk T Z) (hQ : QTabOk P Q) (hM : MTabOk P M) (hK : KnownOk P K) (hN : NoGor P) (hm : P.follows .mixedOrders = true) (hR : SoundR P R) {c : Code} {s s' : CS} {e : Exit} (hns : okN ns = true) (h : bodyC P T Z Q M K R r ns c s = some (e, s')) : Runs P r ns .no c s e s' := by
  unfold bodyC at h
  split at h
  · cases h; exact runs_no (AWi.skip Is.here)
  · rename_i id ops draw
    unfold bReg at h
    cases draw with
    | true =>
      simp only [cond_true] at h
      split at h
      · rename_i es sF hd
        cases hc : (stOk ops && okDyn (ancs ops.toList []) es) with
        | false => rw [hc] at h; cases h
        | true =>
          rw [hc] at h
          cases h
          rw [Bool.and_eq_true] at hc
          have hch := drOps_chain _ _ hd
          have hops : ops = ops.toList.toArray := by simp
          have hch' : Chain P T Z Q M K R ns ops.toList.toArray ops.toList es s s' := by rw [← hops]; exact hch
          have hD := draw_of (r := r) hT hZ hQ hM hK hN hR hns hch' (by rw [← hops]; exact hc.1) hc.2
          obtain ⟨m1, m2⟩ := chain_mono hT hZ hQ hM hK hN hR hch
          refine ⟨?_, m1, m2⟩
          have h1 := AWi.drawsI (r := r) (id := id) hm (by rw [← hops]; have := hc.1; unfold stOk at this; rw [Bool.and_eq_true] at this; exact this.1) hD (Q := Is .normal s') (by
            simp only [chain_end hch]
            exact Is.here)
          simp only [chain_zero hch] at h1
          rw [← hops] at h1
          exact h1
      · cases h
    | false =>
      simp only [cond_false] at h
      split at h
      · rename_i sF hd
        cases h
        obtain ⟨i1, i2, i3⟩ := doOps_sound (r := r) hT hZ hQ hM hK hN hR hns _ _ hd
        refine ⟨fun W0 R0 B E a w hi hs => ?_, i1, i2⟩
        have hops : ops = ops.toList.toArray := by simp
        rw [hops]
        refine wpIn_region_lit ?_
        rw [← hops]
        exact i3 hi hs fun E' a' w' h1 => ⟨_, _, E', W0, Ext.refl _, hi, h1, Is.here⟩
      · cases h
  · rename_i x y
    unfold onNormal at h
    split at h
    · rename_i e1 s1 h1
      have k1 := hR r ns .no x s e1 s1 hns h1
      split at h
      · have k2 := hR r ns .no y s1 e s' hns h
        exact ⟨AWi.seq (k1.on k2.walk), Nat.le_trans k1.n k2.n, k1.recs.trans k2.recs⟩
      · rename_i hne
        cases h
        exact ⟨AWi.seq (k1.left fun e => hne e), k1.n, k1.recs⟩
    · cases h
  · rename_i cc x y
    unfold bCond at h
    split at h
    · rename_i t ht
      cases t with
      | true =>
        rw [if_pos rfl] at h
        have k1 := hR r ns .no x s e s' hns h
        exact ⟨AWi.cond ht (fun _ => k1.walk) (fun h => by cases h), k1.n, k1.recs⟩
      | false =>
        rw [if_neg (by simp)] at h
        have k1 := hR r ns .no y s e s' hns h
        exact ⟨AWi.cond ht (fun h => by cases h) (fun _ => k1.walk), k1.n, k1.recs⟩
    · cases h
  · rename_i id x
    unfold bBlock at h
    split at h
    · rename_i e1 s1 h1
      have k1 := hR r ns .no x s e1 s1 hns h1
      have fin : (∀ e2, e2 = e1 → blockP id (Is e s') e2 s1.n s1.den) → s1 = s' → Runs P r ns .no (.block id x) s e s' := fun hb hs => by
        subst hs
        refine ⟨AWi.block (AWi.mono k1.walk fun e2 _ _ ⟨a, b, c⟩ => ?_), k1.n, k1.recs⟩
        subst b; subst c
        exact hb e2 a
      split at h
      · rename_i j
        cases hj : Nat.beq j id with
        | true =>
          rw [hj] at h
          cases h
          rw [Nat.beq_eq] at hj
          exact fin (fun e2 he => by subst he; simp only [blockP, if_pos hj]; exact Is.here) rfl
        | false =>
          rw [hj] at h
          cases h
          have hne : j ≠ id := fun e => by subst e; simp at hj
          exact fin (fun e2 he => by subst he; simp only [blockP, if_neg hne]; exact Is.here) rfl
      · rename_i hne
        cases h
        exact fin (fun e2 he => by subst he; cases e2 <;> first | exact Is.here | exact absurd rfl (hne _)) rfl
    · cases h
  · rename_i x
    have k1 := hR r ns (.lp x) x s e s' hns h
    exact ⟨AWi.loopL k1.walk, k1.n, k1.recs⟩
  · rename_i g ps x y
    unfold bRange at h
    split at h
    · rename_i f us vs hg
      exact rangeX_sound hT hN hR hg h
    · cases h
  · cases h; exact runs_no (AWi.exit Is.here)
  · cases h; exact runs_no (AWi.goto Is.here)
  · cases h; exact runs_no (AWi.label Is.here)
  · cases h; exact runs_no (AWi.ret Is.here)
  · rename_i x
    have k1 := hR r ns (.sc x) x s e s' hns h
    exact ⟨AWi.scope k1.walk, k1.n, k1.recs⟩
  · cases h
theorem bodyR_sound (hT : TabOk P T) (hZ : ZTabOk T Z) (hQ : QTabOk P Q) (hM : MTabOk P M) (hK : KnownOk P K) (hN : NoGor P) (hm : P.follows .mixedOrders = true) (hR : SoundR P R) : SoundR P (bodyR P T Z Q M K R) := by
  intro r ns cx c s e s' hns h
  unfold bodyR at h
  split at h
  · exact bodyC_sound hT hZ hQ hM hK hN hm hR hns h
  · rename_i c0
    split at h
    · rename_i e1 s1 h1
      have k1 := hR r ns .no c s e1 s1 hns h1
      split at h
      · rename_i l
        split at h
        · rename_i rest hf
          have k2 := hR r ns (.sc c0) rest s1 e s' hns h
          refine ⟨AWs.of (AWi.mono k1.walk fun e2 _ _ ⟨a, b, c⟩ => ?_), Nat.le_trans k1.n k2.n, k1.recs.trans k2.recs⟩
          subst a; subst b; subst c
          simp only [scopeP, hf]
          exact k2.walk
        · rename_i hf
          cases h
          refine ⟨AWs.of (AWi.mono k1.walk fun e2 _ _ ⟨a, b, c⟩ => ?_), k1.n, k1.recs⟩
          subst a; subst b; subst c
          simp only [scopeP, hf]
          exact Is.here
      · rename_i hne
        cases h
        refine ⟨AWs.of (AWi.mono k1.walk fun e2 _ _ ⟨a, b, c⟩ => ?_), k1.n, k1.recs⟩
        subst a; subst b; subst c
        cases e2 <;> first | exact Is.here | exact absurd rfl (hne _)
    · cases h
  · rename_i c0
    split at h
    · rename_i e1 s1 h1
      have k1 := hR r ns .no c s e1 s1 hns h1
      split at h
      · have k2 := hR r ns (.lp c0) c0 s1 e s' hns h
        exact ⟨AWl.of (k1.on k2.walk), Nat.le_trans k1.n k2.n, k1.recs.trans k2.recs⟩
      · rename_i hne
        cases h
        exact ⟨AWl.of (k1.left fun e => hne e), k1.n, k1.recs⟩
    · cases h
theorem runR_sound (hT : TabOk P T) (hZ : ZTabOk T Z) (hQ : QTabOk P Q) (hM : MTabOk P M) (hK : KnownOk P K) (hN : NoGor P) (hm : P.follows .mixedOrders = true) : ∀ n, SoundR P (runR P T Z Q M K n)
  | 0 => fun _ _ _ _ _ _ _ _ h => by rw [runR_zero] at h; cases h
  | n + 1 => by rw [runR_succ]; exact bodyR_sound hT hZ hQ hM hK hN hm (runR_sound hT hZ hQ hM hK hN hm n)
theorem closed_call (hT : TabOk P T) (hZ : ZTabOk T Z) (hQ : QTabOk P Q) (hM : MTabOk P M) (hK : KnownOk P K) (hN : NoGor P) (hm : P.follows .mixedOrders = true) {f : FuncId} {n : Nat} {b : Bool} (h : (callFn P T (runR P T Z Q M K n) f [] 0 .lf).map (·.y) = some (.d (.val (.bool b)))) : ACall P f [] (.val (.bool b)) := by
  rw [Option.map_eq_some_iff] at h
  obtain ⟨q, hq, hy⟩ := h
  have h1 := (callFn_sound hT hN (runR_sound hT hZ hQ hM hK hN hm n) hq).call
  refine ⟨h1.callable, fun ro w vs hro hsz hrep => ?_⟩
  let W1 : Fix := fixOf w
  let E : Env := ⟨ro, fun _ => False, fun _ => ⟨0, 0, 0⟩⟩
  have M0 : MS W1 ro (· < 0) (mOf .lf) E w := ⟨Kept.refl _ _, fun _ h => h, fun _ h => .inl h, hro, fun _ h => h.elim, (fun i b hi => by cases hi), (fun i b hi => by cases hi), (fun i b hi => by cases hi), (fun i b hi => by cases hi), fun i j b c hi => by cases hi⟩
  refine (h1.calls W1 ro E w vs M0 (by simpa using hsz) (by simp)).mono ?_
  rintro e w' ⟨v, E', n', m', y, rfl, M2, hE, hk, hv, rfl, rfl, rfl⟩
  refine ⟨v, rfl, M2.below.below, ?_⟩
  rw [hy] at hv
  cases hv with
  | d _ _ hv => cases hv with | val _ h => exact .val _ h
end Go.Proofs.Ytdkneonokbakjaa.Eng

noncomputable section
namespace Go.Proofs.Ytdkneonokbakjaa.Eng
open Go.RowKit
variable {P : Program} {T : Tab} {Z : ZTab} {Q : QTab} {M : MTab} {K : Known}
def chk (P : Program) (T : Tab) (Z : ZTab) (Q : QTab) (M : MTab) (K : Known) (fuel : Nat) (e : Ent) : Bool := match callFn P T (runR P T Z Q M K fuel) e.f e.args e.n e.m with
  | some q => same3 q.y e.q.y && Nat.beq q.n e.q.n && subTr e.q.m q.m && noLoop e.m
  | none => false
theorem chk_ok (hT : TabOk P T) (hZ : ZTabOk T Z) (hQ : QTabOk P Q) (hM : MTabOk P M) (hK : KnownOk P K) (hN : NoGor P) (hm : P.follows .mixedOrders = true) {fuel : Nat} {e : Ent} (h : chk P T Z Q M K fuel e = true) : Calls2 P e.f e.args e.n e.m e.q := by
  unfold chk at h
  split at h
  · rename_i q hq
    simp only [Bool.and_eq_true, Nat.beq_eq] at h
    obtain ⟨⟨⟨h1, h2⟩, h3⟩, h4⟩ := h
    have H := callFn_sound hT hN (runR_sound hT hZ hQ hM hK hN hm fuel) hq
    refine H.less (same3_eq h1).symm h2.symm (fun i b hb => ?_) fun id st pe k sl ps x y hh => absurd hh (noLoop_get h4 id st pe k sl ps x y)
    simp only [mOf, Option.map_eq_some_iff] at hb ⊢
    obtain ⟨c, hc, rfl⟩ := hb
    exact ⟨c, subTr_get h3 i c hc, rfl⟩
  · cases h
def SumsOk (P : Program) (S : Sums) : Prop := ∀ f g, S f = some g → ∀ args n m q, g args n m = some q → Calls2 P f args n m q
theorem known_sums {S : Sums} (h : SumsOk P S) : KnownOk P ⟨[], [], S⟩ := ⟨by simp, by simp, h⟩
theorem known_ent {e : Ent} (h : Calls2 P e.f e.args e.n e.m e.q) (hK : KnownOk P K) : KnownOk P ⟨e :: K.ents, K.closed, K.sums⟩ := ⟨fun x hx => by
  rcases List.mem_cons.1 hx with rfl | hx
  · exact h
  · exact hK.ents x hx, hK.closed, hK.sums⟩
theorem noGor_of (h : P.funcs.toList.all (fun fn => !(fn.name == "runtime.NumGoroutine")) = true) : NoGor P := fun f fn hf => by
  have hm : fn ∈ P.funcs.toList := by rw [Array.mem_toList_iff]; exact Array.mem_of_getElem? hf
  simpa using List.all_eq_true.1 h fn hm
end Go.Proofs.Ytdkneonokbakjaa.Eng

noncomputable section
namespace Go.Proofs.Ytdkneonokbakjaa.Eng
open Go.RowKit
set_option maxRecDepth 100000
def ZT : ZTab := fun _ => none
def QT : QTab := fun t => if t = 81 then some ⟨[.int .i64, .int .i64], 24⟩ else none
def MT : MTab := fun t => if t = 115 then some ⟨3, 2, .d (.val (.int .i64 0)), false, [.i64]⟩ else none
theorem noGor : NoGor Try.prog := noGor_of (by decide +kernel)
theorem mixed : Try.prog.follows .mixedOrders = true := by decide +kernel
theorem ztOk : ZTabOk TB ZT := fun t p h => by cases h
theorem qtOk : QTabOk Try.prog QT := fun t b h => by
  unfold QT at h
  split at h
  · rename_i e
    subst e
    cases h
    refine ⟨?_, by decide +kernel, by decide +kernel, fun xs hx => ?_⟩
    · have he : KL Try.prog 6 23 [.int .i64, .int .i64] 2 := kl_struct2 (d := 5) Try.underlying23 (by decide +kernel) (kl_int Try.underlying2 4) (kl_int Try.underlying2 4) (by decide) (by decide) rfl rfl (by decide +kernel) (by decide +kernel)
      exact kl_array (n := 12) (d := 6) (per := [.int .i64, .int .i64]) Try.underlying81 (by decide +kernel) (by decide +kernel) he
    · have e1 : Try.prog.cellsOf 81 = 24 := by decide +kernel
      simp [Value.formed, Try.underlying81, e1, hx]
  · cases h
theorem mtOk : MTabOk Try.prog MT := fun t i h => by
  unfold MT at h
  split at h
  · rename_i e
    subst e
    cases h
    refine mapOk_int (q := .i64) Try.underlying115 Try.underlying3 rfl rfl ⟨.int .i64 0, fun w => ?_, fun E w => rep_val rfl⟩
    have h := info2
    rw [Option.map_eq_some_iff] at h
    obtain ⟨inf, h1, h2⟩ := h
    simp only [Prod.mk.injEq] at h2
    simp [zeroValue, typeInfo, h1, h2.1]
  · cases h
end Go.Proofs.Ytdkneonokbakjaa.Eng

namespace Go.Proofs.Ytdkneonokbakjaa.Eng
open Go.RowKit
def mi : MapI := ⟨3, 2, .d (.val (.int .i64 0)), false, [.i64]⟩
set_option maxRecDepth 100000 in
set_option maxHeartbeats 4000000 in
theorem least_w {m : Mem} {wid : Nat} {cells : List SV} {f : Bool} {p : Nat} {lo : Int} (hm : m wid = some (.box 83 cells f)) (hc : cells[6 + p * 2]? = some (.d (iD lo))) (hp : p < 12) (n : Nat) :
    CWp Try.prog 68 [.ptr wid 0 0, .d (iD p)] n m fun y n' m' => n ≤ n' ∧ n' ≤ n + 20 ∧ y = .d (iD lo) ∧ m' = m := by
  have hl : 6 + p * 2 < cells.length := (List.getElem?_eq_some_iff.1 hc).1
  have g1 : List.take 1 (List.drop (6 + p * 2) cells) = [.d (iD lo)] := by
    rw [List.drop_eq_getElem_cons hl, List.take_succ_cons, List.take_zero]
    rw [List.getElem?_eq_getElem hl] at hc
    rw [Option.some.inj hc]
  have g2 : 6 + p * 2 + 1 ≤ cells.length := by omega
  have g3 : (p : Int) < 12 := by omega
  refine cwpK tabOk Try.func68 rfl rfl (show 2 ≤ _ by decide) rfl fun _ => ?_; simp only [Try.ntmps68]
  repeat (first | (with_reducible first | refine AWi.seqK fun _ => ?_ | refine AWi.blockK fun _ => ?_ | refine KI.go ?_) | ((first | refine AWi.region tabOk ?_ | refine AWi.condK fun _ _ => ?_ | refine AWi.draws tabOk rfl (by kernel_rfl) (by kernel_rfl) ?_); simp [-getElem?_pos, z0, z1, z2, hm, g1, g2, g3]) | ((first | refine AWi.ret ?_ | refine AWi.skip ?_ | refine AWi.exit ?_); try simp only [thenP]) | (with_reducible refine BB.go ?_; simp only [blockP, thenP, reduceIte]) | (with_reducible refine And.intro (okLog_c (by simp [footOf, guardSlot, slotsOf, idsRead, looks, idsOf, idsOf1, idsWritten, colF]; kernel_rfl)) ?_))
  exact RI.ret rfl ⟨by omega, by omega, rfl, rfl⟩
def keepE (cells : List SV) (len : Int) (q : List Int × SV × Nat) : Bool := match q.1 with
  | [p] => match cells[6 + p.toNat * 2]? with
    | some (.d (.val (.int _ lo))) => decide (lo ≤ len)
    | _ => true
  | _ => true
def curE (cells : List SV) (len : Int) (es : List (List Int × SV × Nat)) (seen : List Nat) : List (List Int × SV × Nat) := es.filter fun q => !(seen.contains q.2.2) || keepE cells len q
def passL (cells : List SV) (len : Int) (es : List (List Int × SV × Nat)) : List (List Int × SV × Nat) := es.filter (keepE cells len)
theorem curE_all {cells : List SV} {len : Int} {es : List (List Int × SV × Nat)} {seen : List Nat} (h : ∀ q ∈ curE cells len es seen, q.2.2 ∈ seen) : curE cells len es seen = passL cells len es := by
  unfold curE passL
  refine List.filter_congr fun q hq => ?_
  by_cases hs : q.2.2 ∈ seen
  · simp [hs]
  · have : q ∈ curE cells len es seen := List.mem_filter.2 ⟨hq, by simp [hs]⟩
    exact absurd (h q this) hs
theorem born_eq {es : List (List Int × SV × Nat)} : (es.map (·.2.2)).Nodup → ∀ {p q : List Int × SV × Nat}, p ∈ es → q ∈ es → p.2.2 = q.2.2 → p = q := by
  induction es with
  | nil => intro _ p q hp; simp at hp
  | cons x es ih =>
    intro hn p q hp hq h
    rw [List.map_cons, List.nodup_cons] at hn
    rcases List.mem_cons.1 hp with e1 | hp'
    · rcases List.mem_cons.1 hq with e2 | hq'
      · rw [e1, e2]
      · subst e1; exact (hn.1 (List.mem_map.2 ⟨q, hq', h.symm⟩)).elim
    · rcases List.mem_cons.1 hq with e2 | hq'
      · subst e2; exact (hn.1 (List.mem_map.2 ⟨p, hp', h⟩)).elim
      · exact ih hn.2 hp' hq' h
theorem key_eq {es : List (List Int × SV × Nat)} : (es.map (·.1)).Nodup → ∀ {p q : List Int × SV × Nat}, p ∈ es → q ∈ es → p.1 = q.1 → p = q := by
  induction es with
  | nil => intro _ p q hp; simp at hp
  | cons x es ih =>
    intro hn p q hp hq h
    rw [List.map_cons, List.nodup_cons] at hn
    rcases List.mem_cons.1 hp with e1 | hp'
    · rcases List.mem_cons.1 hq with e2 | hq'
      · rw [e1, e2]
      · subst e1; exact (hn.1 (List.mem_map.2 ⟨q, hq', h.symm⟩)).elim
    · rcases List.mem_cons.1 hq with e2 | hq'
      · subst e2; exact (hn.1 (List.mem_map.2 ⟨p, hp', h⟩)).elim
      · exact ih hn.2 hp' hq' h
theorem curE_keep {cells : List SV} {len : Int} {es : List (List Int × SV × Nat)} {seen : List Nat} {q : List Int × SV × Nat} (hn2 : (es.map (·.2.2)).Nodup) (hq : q ∈ es) (h : keepE cells len q = true) : curE cells len es (q.2.2 :: seen) = curE cells len es seen := by
  unfold curE
  refine List.filter_congr fun p hp => ?_
  by_cases e : p.2.2 = q.2.2
  · rw [born_eq hn2 hp hq e, h]; simp
  · simp [e]
theorem curE_drop {cells : List SV} {len : Int} {es : List (List Int × SV × Nat)} {seen : List Nat} {q : List Int × SV × Nat} (hn1 : (es.map (·.1)).Nodup) (hn2 : (es.map (·.2.2)).Nodup) (hq : q ∈ es) (h : keepE cells len q = false) : (curE cells len es seen).filter (fun p => p.1 ≠ q.1) = curE cells len es (q.2.2 :: seen) := by
  unfold curE
  rw [List.filter_filter]
  refine List.filter_congr fun p hp => ?_
  by_cases e : p = q
  · subst e; simp [h]
  · have e1 : p.1 ≠ q.1 := fun x => e (key_eq hn1 hp hq x)
    have e2 : p.2.2 ≠ q.2.2 := fun x => e (born_eq hn2 hp hq x)
    simp [e1, e2]
theorem nodup_filter_map {α β : Type} {f : α → β} {p : α → Bool} {l : List α} (h : (l.map f).Nodup) : ((l.filter p).map f).Nodup := h.sublist (List.Sublist.map f List.filter_sublist)
theorem seen_le {es : List (List Int × SV × Nat)} {seen : List Nat} (hs : seen.Nodup) (h : ∀ b ∈ seen, b ∈ es.map (·.2.2)) : seen.length ≤ es.length := by
  have := List.Nodup.length_le_of_subset hs (fun b hb => h b hb)
  simpa using this
set_option maxRecDepth 100000 in
set_option maxHeartbeats 8000000 in
theorem pass_w {m : Mem} {wid id clock : Nat} {cells : List SV} {f : Bool} {es : List (List Int × SV × Nat)} (hm : m wid = some (.box 83 cells f)) (hid : m id = some (mapB mi es clock)) (hne : wid ≠ id) {n : Nat} (hw : wid < n) (hi : id < n)
    (hk : ∀ q ∈ es, ∃ (p : Nat) (lo : Int), p < 12 ∧ q.1 = [(p : Int)] ∧ cells[6 + p * 2]? = some (.d (iD lo))) (hn1 : (es.map (·.1)).Nodup) (hn2 : (es.map (·.2.2)).Nodup) (hb : ∀ q ∈ es, q.2.2 < clock) (len : Int) :
    CWp Try.prog 79 [.ptr wid 0 0, .mp id, .d (iD len)] n m fun y n' m' => n ≤ n' ∧ n' ≤ n + 20 + 60 * es.length ∧ y = .tup [] ∧ ∀ j, j < n → m' j = if j = id then some (mapB mi (passL cells len es) clock) else m j := by
  refine cwpK tabOk Try.func79 rfl rfl (show 3 ≤ _ by decide) rfl fun _ => ?_; simp only [Try.ntmps79]
  repeat (first | (with_reducible first | refine AWi.seqK fun _ => ?_ | refine AWi.blockK fun _ => ?_ | refine KI.go ?_) | ((first | refine AWi.region tabOk ?_ | refine AWi.condK fun _ _ => ?_ | refine AWi.draws tabOk rfl (by kernel_rfl) (by kernel_rfl) ?_); simp [-getElem?_pos, z0, z1, z2, hid]) | ((first | refine AWi.ret ?_ | refine AWi.skip ?_ | refine AWi.exit ?_); try simp only [thenP]) | (with_reducible refine BB.go ?_; simp only [blockP, thenP, reduceIte]) | (with_reducible refine And.intro (okLog_c (by simp [footOf, guardSlot, slotsOf, idsRead, looks, idsOf, idsOf1, idsWritten, colF]; kernel_rfl)) ?_))
  refine ExecI.range (mid := id) (clock := clock) (es := es.map fun q => (keyVal mi.agg mi.kk q.1, q.2)) (f := false) (by simp) rfl Try.underlying115 (by simp) (by simpa using hid) ?_
  simp
  repeat (first | (with_reducible first | refine AWi.seqK fun _ => ?_ | refine AWi.blockK fun _ => ?_ | refine KI.go ?_) | ((first | refine AWi.region tabOk ?_ | refine AWi.condK fun _ _ => ?_ | refine AWi.draws tabOk rfl (by kernel_rfl) (by kernel_rfl) ?_); simp [-getElem?_pos, z0, z1, z2, hid]) | ((first | refine AWi.ret ?_ | refine AWi.skip ?_ | refine AWi.exit ?_); try simp only [thenP]) | (with_reducible refine BB.go ?_; simp only [blockP, thenP, reduceIte]) | (with_reducible refine And.intro (okLog_c (by simp [footOf, guardSlot, slotsOf, idsRead, looks, idsOf, idsOf1, idsWritten, colF]; kernel_rfl)) ?_))
  refine AWi.loopK (fun seen nn s => n + 2 ≤ nn ∧ nn ≤ n + 2 + 60 * seen.length ∧ seen.Nodup ∧ (∀ b ∈ seen, b ∈ es.map (·.2.2)) ∧ s.slots 0 = .ptr wid 0 0 ∧ s.slots 1 = .mp id ∧ s.slots 2 = .d (iD len) ∧ s.slots 8 = .ptr (n + 1) 0 0 ∧ (∀ j, j < n → s.mem j = if j = id then some (mapB mi (curE cells len es seen) clock) else m j) ∧ s.mem (n + 1) = some (.iter id clock clock seen false)) (fun seen => es.length - seen.length) ([] : List Nat) ?_ ?_
  · refine ⟨by omega, by simp, List.nodup_nil, by simp, by simp, by simp, by simp, by simp, fun j hj => ?_, by simp⟩
    have e0 : curE cells len es [] = es := by unfold curE; exact List.filter_eq_self.2 fun q _ => by simp
    simp only [e0]
    by_cases h : j = id
    · subst h; simp [show ¬ j = n + 1 by omega, hid]
    · simp [h, show ¬ j = n + 1 by omega]
  rintro seen nn s ⟨h1, h2, h3, h4, s0, s1, s2, s8, hmem, hit⟩ kk
  have hmid : s.mem id = some (mapB mi (curE cells len es seen) clock) := by rw [hmem id hi, if_pos rfl]
  have hsub : ∀ q ∈ curE cells len es seen, q ∈ es := fun q hq => (List.mem_filter.1 hq).1
  repeat (first | (with_reducible first | refine AWi.seqK fun _ => ?_ | refine AWi.blockK fun _ => ?_ | refine KI.go ?_) | ((first | refine AWi.region tabOk ?_ | refine AWi.condK fun _ _ => ?_ | refine AWi.draws tabOk rfl (by kernel_rfl) (by kernel_rfl) ?_); simp [-getElem?_pos, z0, z1, z2, s0, s1, s2, s8]) | ((first | refine AWi.ret ?_ | refine AWi.skip ?_ | refine AWi.exit ?_); try simp only [thenP]) | (with_reducible refine BB.go ?_; simp only [blockP, thenP, reduceIte]) | (with_reducible refine And.intro (okLog_c (by simp [footOf, guardSlot, slotsOf, idsRead, looks, idsOf, idsOf1, idsWritten, colF]; kernel_rfl)) ?_))
  refine ExecI.next (id := n + 1) (mid := id) (since := clock) (last := clock) (clock := clock) (seen := seen) (es := (curE cells len es seen).map fun q => (keyVal mi.agg mi.kk q.1, q.2)) (by simp) rfl (by simp [s8]) hit hmid (fun q hq => ?_) (Nat.le_refl _) (fun q hq => ?_) (fun hall => ?_) fun q hq hqs => ?_
  · obtain ⟨p, hp, rfl⟩ := List.mem_map.1 hq
    exact hb p (hsub p hp)
  · obtain ⟨p, hp, rfl⟩ := List.mem_map.1 hq
    obtain ⟨k, lo, _, hk2, _⟩ := hk p (hsub p hp)
    simp [hk2, mi, keyVal, keyOk, Value.oneCell']
  · simp
    repeat (first | (with_reducible first | refine AWi.seqK fun _ => ?_ | refine AWi.blockK fun _ => ?_ | refine KI.go ?_) | ((first | refine AWi.region tabOk ?_ | refine AWi.condK fun _ _ => ?_ | refine AWi.draws tabOk rfl (by kernel_rfl) (by kernel_rfl) ?_); simp [-getElem?_pos, z0, z1, z2, s0, s1, s2, s8]) | ((first | refine AWi.ret ?_ | refine AWi.skip ?_ | refine AWi.exit ?_); try simp only [thenP]) | (with_reducible refine BB.go ?_; simp only [blockP, thenP, reduceIte]) | (with_reducible refine And.intro (okLog_c (by simp [footOf, guardSlot, slotsOf, idsRead, looks, idsOf, idsOf1, idsWritten, colF]; kernel_rfl)) ?_))
    refine RI.normal rfl ⟨by omega, ?_, rfl, fun j hj => ?_⟩
    · have := seen_le h3 h4
      omega
    · have := curE_all (cells := cells) (len := len) (es := es) (seen := seen) fun p hp => hall (keyVal mi.agg mi.kk p.1, p.2) (List.mem_map.2 ⟨p, hp, rfl⟩)
      rw [← this]
      exact hmem j hj
  · obtain ⟨p, hp, rfl⟩ := List.mem_map.1 hq
    have hpe := hsub p hp
    obtain ⟨k, lo, hk1, hk2, hk3⟩ := hk p hpe
    have hkeyS : keyS (keyVal mi.agg mi.kk p.1) = .d (iD (k : Int)) := by simp [hk2, mi, keyVal, keyS]
    have hkeyO : keyOk (keyVal mi.agg mi.kk p.1) = true := by simp [hk2, mi, keyVal, keyOk, Value.oneCell']
    have hnd : (p.2.2 :: seen).Nodup := List.nodup_cons.2 ⟨hqs, h3⟩
    have hin : ∀ b ∈ p.2.2 :: seen, b ∈ es.map (·.2.2) := fun b hb => by
      rcases List.mem_cons.1 hb with rfl | hb
      · exact List.mem_map.2 ⟨p, hpe, rfl⟩
      · exact h4 b hb
    have hlen := seen_le hnd hin
    simp only [List.length_cons] at hlen
    have hni : ¬ id = n + 1 := by omega
    simp only [hkeyS]
    simp
    repeat (first | (with_reducible first | refine AWi.seqK fun _ => ?_ | refine AWi.blockK fun _ => ?_ | refine KI.go ?_) | ((first | refine AWi.region tabOk ?_ | refine AWi.condK fun _ _ => ?_ | refine AWi.draws tabOk rfl (by kernel_rfl) (by kernel_rfl) ?_); simp [-getElem?_pos, z0, z1, z2, s0, s1, s2, s8]) | ((first | refine AWi.ret ?_ | refine AWi.skip ?_ | refine AWi.exit ?_); try simp only [thenP]) | (with_reducible refine BB.go ?_; simp only [blockP, thenP, reduceIte]) | (with_reducible refine And.intro (okLog_c (by simp [footOf, guardSlot, slotsOf, idsRead, looks, idsOf, idsOf1, idsWritten, colF]; kernel_rfl)) ?_))
    have hnd2 : ((List.map (fun q => (keyVal mi.agg mi.kk q.1, q.2)) (curE cells len es seen)).map (·.2.2)).Nodup := by
      rw [List.map_map]
      exact nodup_filter_map (f := fun q : List Int × SV × Nat => q.2.2) hn2
    refine ExecI.entry (id := n + 1) (mid := id) (since := clock) (last := clock) (clock := clock) (seen := seen) (es := (curE cells len es seen).map fun q => (keyVal mi.agg mi.kk q.1, q.2)) (f := false) (g := false) (keyVal mi.agg mi.kk p.1, p.2) (by simp) rfl (by simp [s8]) (by simp) (by simp [hni, hmid]) rfl hq hnd2 hkeyO ?_
    simp only [hkeyS]
    simp
    repeat (first | (with_reducible first | refine AWi.seqK fun _ => ?_ | refine AWi.blockK fun _ => ?_ | refine KI.go ?_) | ((first | refine AWi.region tabOk ?_ | refine AWi.condK fun _ _ => ?_ | refine AWi.draws tabOk rfl (by kernel_rfl) (by kernel_rfl) ?_); simp [-getElem?_pos, z0, z1, z2, s0, s1, s2, s8]) | ((first | refine AWi.ret ?_ | refine AWi.skip ?_ | refine AWi.exit ?_); try simp only [thenP]) | (with_reducible refine BB.go ?_; simp only [blockP, thenP, reduceIte]) | (with_reducible refine And.intro (okLog_c (by simp [footOf, guardSlot, slotsOf, idsRead, looks, idsOf, idsOf1, idsWritten, colF]; kernel_rfl)) ?_))
    have hwm : setMem s.mem (n + 1) (some (.iter id clock clock (p.2.2 :: seen) false)) wid = some (.box 83 cells f) := by
      simp [show ¬ wid = n + 1 by omega, hmem wid hw, hne, hm]
    refine ExecI.callC (least_w hwm hk3 hk1 _) rfl (by simp [calleeS, evList]) ?_
    rintro y n' m' ⟨q1, q2, rfl, rfl⟩
    by_cases g : len < lo
    · have hkf : keepE cells len p = false := by simp [keepE, hk2, hk3]; omega
      obtain ⟨jj, j1, j2⟩ := erase_key (q := p) hp (nodup_filter_map hn1)
      rw [curE_drop hn1 hn2 hpe hkf] at j2
      simp [-getElem?_pos, z0, z1, z2, s0, s1, s2, s8, g]
      repeat (first | (with_reducible first | refine AWi.seqK fun _ => ?_ | refine AWi.blockK fun _ => ?_ | refine KI.go ?_) | ((first | refine AWi.region tabOk ?_ | refine AWi.condK fun _ _ => ?_ | refine AWi.draws tabOk rfl (by kernel_rfl) (by kernel_rfl) ?_); simp [-getElem?_pos, z0, z1, z2, s0, s1, s2, s8, g]) | ((first | refine AWi.ret ?_ | refine AWi.skip ?_ | refine AWi.exit ?_); try simp only [thenP]) | (with_reducible refine BB.go ?_; simp only [blockP, thenP, reduceIte]) | (with_reducible refine And.intro (okLog_c (by simp [footOf, guardSlot, slotsOf, idsRead, looks, idsOf, idsOf1, idsWritten, colF]; kernel_rfl)) ?_))
      refine ExecI.delete mtOk (i := mi) (id := id) (clock := clock) (es := curE cells len es seen) (kv := .d (iD (k : Int))) (l := [(k : Int)]) (j := jj) (by simp) rfl rfl (by simp [s1]) (by simp [hni, hmid]) (by simp) (by simp [keyOf, intsOf, mi]) ?_ (by rw [← hk2]; exact j1) ?_
      · refine List.all_eq_true.2 fun x hx => ?_
        obtain ⟨k', _, _, hx2, _⟩ := hk x (hsub x hx)
        simp [hx2, mi]
      rw [j2]
      simp
      repeat (first | (with_reducible first | refine AWi.seqK fun _ => ?_ | refine AWi.blockK fun _ => ?_ | refine KI.go ?_) | ((first | refine AWi.region tabOk ?_ | refine AWi.condK fun _ _ => ?_ | refine AWi.draws tabOk rfl (by kernel_rfl) (by kernel_rfl) ?_); simp [-getElem?_pos, z0, z1, z2, s0, s1, s2, s8]) | ((first | refine AWi.ret ?_ | refine AWi.skip ?_ | refine AWi.exit ?_); try simp only [thenP]) | (with_reducible refine BB.go ?_; simp only [blockP, thenP, reduceIte]) | (with_reducible refine And.intro (okLog_c (by simp [footOf, guardSlot, slotsOf, idsRead, looks, idsOf, idsOf1, idsWritten, colF]; kernel_rfl)) ?_))
      refine LI.go (p.2.2 :: seen) ⟨by omega, by simp; omega, hnd, hin, by simp [s0], by simp [s1], by simp [s2], by simp [s8], fun j hj => ?_, by simp [Ne.symm hni]⟩ (by simp; omega)
      by_cases h : j = id
      · subst h; simp
      · simp [h, show ¬ j = n + 1 by omega, hmem j hj]
    · have hkt : keepE cells len p = true := by simp [keepE, hk2, hk3]; omega
      have e0 := curE_keep (cells := cells) (len := len) (seen := seen) hn2 hpe hkt
      simp [-getElem?_pos, z0, z1, z2, s0, s1, s2, s8, g]
      repeat (first | (with_reducible first | refine AWi.seqK fun _ => ?_ | refine AWi.blockK fun _ => ?_ | refine KI.go ?_) | ((first | refine AWi.region tabOk ?_ | refine AWi.condK fun _ _ => ?_ | refine AWi.draws tabOk rfl (by kernel_rfl) (by kernel_rfl) ?_); simp [-getElem?_pos, z0, z1, z2, s0, s1, s2, s8, g]) | ((first | refine AWi.ret ?_ | refine AWi.skip ?_ | refine AWi.exit ?_); try simp only [thenP]) | (with_reducible refine BB.go ?_; simp only [blockP, thenP, reduceIte]) | (with_reducible refine And.intro (okLog_c (by simp [footOf, guardSlot, slotsOf, idsRead, looks, idsOf, idsOf1, idsWritten, colF]; kernel_rfl)) ?_))
      refine LI.go (p.2.2 :: seen) ⟨by omega, by simp; omega, hnd, hin, by simp [s0], by simp [s1], by simp [s2], by simp [s8], fun j hj => ?_, by simp⟩ (by simp; omega)
      simp [show ¬ j = n + 1 by omega, hmem j hj, e0]
end Go.Proofs.Ytdkneonokbakjaa.Eng

noncomputable section
namespace Go.Proofs.Ytdkneonokbakjaa.Eng
open Go.RowKit
variable {P : Program} {T : Tab} {Z : ZTab} {Q : QTab} {M : MTab} {K : Known} {R : Runner} {r : Option Nat} {ns : Nat}
inductive Of (S : Nat → Prop) : SV → Prop where
  | und : Of S .und
  | d (x : Dat) : Of S (.d x)
  | nilS : Of S .nilS
  | ptr (id i j : Nat) : S id → Of S (.ptr id i j)
  | mp (id : Nat) : S id → Of S (.mp id)
  | sl (id off k : Nat) (c : Option Nat) : S id → Of S (.sl id off k c)
  | yield (id : Nat) : S id → Of S (.yield id)
  | agg (cs : List SV) : (∀ c ∈ cs, Of S c) → Of S (.agg cs)
  | tup (cs : List SV) : (∀ c ∈ cs, Of S c) → Of S (.tup cs)
  | fn (f : FuncId) (us vs : List SV) : (∀ c ∈ us, Of S c) → (∀ c ∈ vs, Of S c) → Of S (.fn f us vs)
theorem Rep.of {S : Nat → Prop} {E E0 : Env} {w : World} {x : SV} {v : Value} (hr : E0.ro = E.ro) (hd : ∀ i, E.dom i → S i → E0.dom i) (hh : ∀ i, E.dom i → S i → E0.home i = E.home i) (h : Rep E w x v) : Of S x → Rep E0 w x v := by
  induction h with
  | und v => exact fun _ => .und v
  | d x v h => exact fun _ => .d x v (h.keep (fun b hb => by rw [hr]; exact hb) fun _ _ => rfl)
  | agg cs vs hs h1 _ ih => intro hf; cases hf with | agg _ k => exact .agg cs vs hs h1 fun i c v hc hv => ih i c v hc hv (k c (List.mem_of_getElem? hc))
  | nilS => exact fun _ => .nilS
  | lin id n _ hz hc => intro hf; cases hf
  | own id n z _ hz => intro hf; cases hf
  | rptr cs b off f hb h1 hc hr' => intro hf; cases hf
  | ptr id i j k => intro hf; cases hf with | ptr _ _ _ q => rw [← hh id k q]; exact .ptr id i j (hd _ k q)
  | fn f xs ys us vs h1 h2 _ _ ih1 ih2 =>
    intro hf
    cases hf with
    | fn _ _ _ q1 q2 => exact .fn f xs ys us vs h1 h2 (fun i c v hc hv => ih1 i c v hc hv (q1 c (List.mem_of_getElem? hc))) fun i c v hc hv => ih2 i c v hc hv (q2 c (List.mem_of_getElem? hc))
  | tup cs vs hs _ ih => intro hf; cases hf with | tup _ k => exact .tup cs vs hs fun i c v hc hv => ih i c v hc hv (k c (List.mem_of_getElem? hc))
  | yield id k => intro hf; cases hf with | yield _ q => rw [← hh id k q]; exact .yield id (hd _ k q)
  | sl id off n c o k h1 hk ho hn => intro hf; cases hf with | sl _ _ _ _ q => rw [← hh id h1 q] at hk ⊢; exact .sl id off n c o k (hd _ h1 q) hk ho hn
  | mp id k => intro hf; cases hf with | mp _ q => rw [← hh id k q]; exact .mp id (hd _ k q)
  | full rows A h => intro hf; cases hf
inductive OfB (S : Nat → Prop) : Blk → Prop where
  | box (ty : TypeId) (cs : List SV) (f : Bool) : (∀ c ∈ cs, Of S c) → OfB S (.box ty cs f)
  | part (z : Nat) (ty : TypeId) (cs : List SV) (f : Bool) : (∀ c ∈ cs, Of S c) → OfB S (.part z ty cs f)
  | map (es : List (Value × SV × Nat)) (clock : Nat) (f : Bool) : (∀ q ∈ es, Of S q.2.1) → OfB S (.map es clock f)
theorem Holds.of {S : Nat → Prop} {E E0 : Env} {w : World} {h : Home} {b : Blk} (hr : E0.ro = E.ro) (hd : ∀ i, E.dom i → S i → E0.dom i) (hh : ∀ i, E.dom i → S i → E0.home i = E.home i) (k : Holds E w h b) (hb : OfB S b) : Holds E0 w h b := by
  cases hb with
  | box ty cs f q =>
    cases k with
    | box _ _ _ cur h1 h2 h3 h4 => exact .box ty cs f cur h1 h2 h3 fun j c v hc hv => (h4 j c v hc hv).of hr hd hh (q c (List.mem_of_getElem? hc))
  | part z ty cs f q =>
    cases k with
    | part _ _ _ _ cur h0 h1 h2 h3 h4 => exact .part z ty cs f cur h0 h1 h2 h3 fun j c v hc hv => (h4 j c v hc hv).of hr hd hh (q c (List.mem_of_getElem? hc))
  | map es clock f q =>
    cases k with
    | map _ _ _ ents h1 h2 h3 =>
      refine .map es clock f ents h1 h2 fun i x e hx he => ?_
      obtain ⟨a, b, c⟩ := h3 i x e hx he
      exact ⟨a, b, c.of hr hd hh (q x (List.mem_of_getElem? hx))⟩
def New (n n' i : Nat) : Prop := n ≤ i ∧ i < n'
open Classical in
def behind (m m0 mq : Mem) (n n' : Nat) : Mem := fun i => if (m0 i).isSome = true ∨ New n n' i then mq i else m i
structure NCall (P : Program) (f : FuncId) (svs : List SV) (m0 : Mem) (n n' : Nat) (y : SV) (mq : Mem) : Prop where
  callable : Callable P f
  calls : ∀ (W0 : Fix) (R0 D : Nat → Prop) (m : Mem) (E : Env) (w : World) (vs : Array Value), (∀ i, D i → ¬ New n n' i) → (∀ i b, m0 i = some b → m i = some b) → MS W0 R0 D m E w → vs.size = svs.length → (∀ (i : Nat) x v, svs[i]? = some x → vs[i]? = some v → Rep E w x v) →
    Calls P f vs w fun e w' => ∃ v E', e = .returned v ∧ MS W0 R0 (fun i => D i ∨ New n n' i) (behind m m0 mq n n') E' w' ∧ E.le E' ∧ (∀ b, E.ro b → w'.heap[b]? = w.heap[b]?) ∧ Rep E' w' y v
end Go.Proofs.Ytdkneonokbakjaa.Eng

noncomputable section
namespace Go.Proofs.Ytdkneonokbakjaa.Eng
open Go.RowKit
variable {P : Program} {T : Tab} {r : Option Nat} {ns : Nat}
inductive Kd3 where
  | off
  | pure (x : SV) (ids : List Nat)
  | act (y : SV) (R : List Nat)
def Kd3.res : Kd3 → SV
  | .off => .tup []
  | .pure x _ => x
  | .act y _ => y
def tch (N : Nat → Nat) (kd : Nat → Kd3) (k i : Nat) : Prop := ∃ y R, kd k = .act y R ∧ (i ∈ R ∨ New (N k) (N (k + 1)) i)
def StepD (P : Program) (r : Option Nat) (ns : Nat) (D D' : Nat → Prop) (s : St) (o : Oper) (s2 : St) : Prop :=
  ∀ (W0 : Fix) (R0 : Nat → Prop) (B : Nat) (E : Env) (a : Act) (w : World), InAct r W0 R0 B → Sim W0 R0 ns D s E a w → (∀ t, o.dst = some t → t < ns) →
    ∀ (K : Act → World → Prop) (Q : Exit → Act → World → Prop), (∀ E' a' w', Sim W0 R0 ns D' s2 E' a' w' → K a' w') → o.wpIn (fen (rOf W0 r)) 0 P a w K Q
open Classical in
structure Draw3 (P : Program) (r : Option Nat) (ns : Nat) (l : List Oper) (st : Nat → St) (N : Nat → Nat) (kd : Nat → Kd3) : Prop where
  slots : ∀ k o, l[k]? = some o → (st (k + 1)).slots = setSlot (st k).slots o.dst (kd k).res
  mem : ∀ k, k < l.length → ∀ i, ¬ tch N kd k i → (st (k + 1)).mem i = (st k).mem i
  names : ∀ k, k < l.length → N k ≤ N (k + 1)
  off : ∀ k o, l[k]? = some o → kd k = .off → guardS l.toArray ns (st k) o = some false
  pure : ∀ k o x ids, l[k]? = some o → kd k = .pure x ids → guardS l.toArray ns (st k) o = some true ∧ ∃ j0,
    (∀ i ∈ ids, i ≠ j0 → ∀ e, e < l.length → tch N kd e i → (e < k → Anc l e k) ∧ (k < e → Anc l k e)) ∧
    ∀ p, p ≤ l.length → (∀ e, e < l.length → tch N kd e j0 → Anc l e k → e < p) → (∀ e, e < l.length → tch N kd e j0 → Anc l k e → p ≤ e) →
      ∀ (D : Nat → Prop) s', (∀ i, D i → i < N l.length) → (∀ t ∈ slotsOf o.op, s'.slots t = (st k).slots t) → (∀ i ∈ ids, i ≠ j0 → s'.mem i = (st k).mem i) → s'.mem j0 = (st p).mem j0 → StepD P r ns D D s' o ⟨setSlot s'.slots o.dst x, s'.mem⟩
  act : ∀ k o y R, l[k]? = some o → kd k = .act y R → guardS l.toArray ns (st k) o = some true ∧ ∃ I : List Nat, (∀ i ∈ I, ∀ e, e < l.length → e ≠ k → tch N kd e i → (e < k → Anc l e k) ∧ (k < e → Anc l k e)) ∧
    ∀ (D : Nat → Prop) s', (∀ i, D i → i < N l.length) → (∀ i, D i → ¬ New (N k) (N (k + 1)) i) → (∀ t ∈ slotsOf o.op, s'.slots t = (st k).slots t) → (∀ i ∈ R, s'.mem i = (st k).mem i) → (∀ i ∈ I, s'.mem i = (st k).mem i) →
      StepD P r ns D (fun i => D i ∨ New (N k) (N (k + 1)) i) s' o ⟨setSlot s'.slots o.dst y, fun i => if i ∈ R ∨ New (N k) (N (k + 1)) i then (st (k + 1)).mem i else s'.mem i⟩
  cslot : ∀ i k oi ok t, i < k → l[i]? = some oi → l[k]? = some ok → ((oi.dst = some t ∧ (ok.dst = some t ∨ t ∈ guardSlot l.toArray ok ∨ t ∈ slotsOf ok.op)) ∨ (ok.dst = some t ∧ (t ∈ guardSlot l.toArray oi ∨ t ∈ slotsOf oi.op))) → Anc l i k
  cmem : ∀ i k b, i < k → k < l.length → tch N kd i b → tch N kd k b → Anc l i k
open Classical in
def mF (st : Nat → St) (N : Nat → Nat) (kd : Nat → Kd3) (L : Nat → Bool) : Nat → Mem
  | 0 => (st 0).mem
  | k + 1 => fun i => if L k = true ∧ tch N kd k i then (st (k + 1)).mem i else mF st N kd L k i
theorem mF_at {st : Nat → St} {N : Nat → Nat} {kd : Nat → Kd3} {L M : Nat → Bool} {i : Nat} : ∀ n, (∀ k, k < n → tch N kd k i → L k = M k) → mF st N kd L n i = mF st N kd M n i
  | 0, _ => rfl
  | n + 1, h => by
    have ih := mF_at (st := st) n fun k hk => h k (by omega)
    simp only [mF]
    by_cases ht : tch N kd n i
    · rw [h n (by omega) ht, ih]
    · rw [if_neg (fun c => ht c.2), if_neg (fun c => ht c.2), ih]
theorem mF_text {st : Nat → St} {N : Nat → Nat} {kd : Nat → Kd3} {len : Nat} (hm : ∀ k, k < len → ∀ i, ¬ tch N kd k i → (st (k + 1)).mem i = (st k).mem i) (k : Nat) (hk : k ≤ len) : mF st N kd (fun i => decide (i < k)) len = (st k).mem := by
  have h1 : ∀ j, j ≤ k → mF st N kd (fun i => decide (i < k)) j = (st j).mem := by
    intro j
    induction j with
    | zero => intro _; rfl
    | succ j ih =>
      intro hj
      funext i
      simp only [mF]
      by_cases ht : tch N kd j i
      · rw [if_pos ⟨by simp; omega, ht⟩]
      · rw [if_neg (fun c => ht c.2), ih (by omega), hm j (by omega) i ht]
  have h2 : ∀ j, k ≤ j → mF st N kd (fun i => decide (i < k)) j = (st k).mem := by
    intro j
    induction j with
    | zero => intro hj; obtain rfl : k = 0 := by omega
              rfl
    | succ j ih =>
      intro hj
      rcases Nat.lt_or_ge j k with h | h
      · obtain rfl : k = j + 1 := by omega
        exact h1 (j + 1) (Nat.le_refl _)
      · funext i
        simp only [mF]
        rw [if_neg (fun c => by have := c.1; simp at this; omega), ih h]
  exact h2 len hk
def dF (N : Nat → Nat) (kd : Nat → Kd3) (len : Nat) (L : Nat → Bool) (i : Nat) : Prop := i < N 0 ∨ ∃ k y R, k < len ∧ L k = true ∧ kd k = .act y R ∧ New (N k) (N (k + 1)) i
open Classical in
theorem draw_any3 {l : List Oper} (hB : backB l.toArray = true) {st : Nat → St} {N : Nat → Nat} {kd : Nat → Kd3} (H : Draw3 P r ns l st N kd) {W0 : Fix} {R0 : Nat → Prop} {B : Nat} (hi : InAct r W0 R0 B)
    {E : Env} {a : Act} {w : World} (hs : Sim W0 R0 ns (· < N 0) (st 0) E a w) {Q : Exit → Act → World → Prop} (hQ : ∀ E' a' w', Sim W0 R0 ns (· < N l.length) (st l.length) E' a' w' → Q .normal a' w') :
    wpAnyIn (fen (rOf W0 r)) 0 P .any l.toArray Q l.toArray.size (Array.replicate l.toArray.size false) a w := by
  have mono : ∀ i k, i ≤ k → k ≤ l.length → N i ≤ N k := by
    intro i k hik
    induction k with
    | zero => intro _; (obtain rfl : i = 0 := (by omega)); exact Nat.le_refl _
    | succ k ih =>
      intro hk
      rcases Nat.lt_or_ge i (k + 1) with h | h
      · exact Nat.le_trans (ih (by omega) (by omega)) (H.names k (by omega))
      · obtain rfl : i = k + 1 := by omega
        exact Nat.le_refl _
  let res : Nat → SV := fun k => (kd k).res
  have text : ∀ (k j : Nat), j ≤ k → k ≤ l.length → slF l res (st 0).slots (fun i => decide (i < k)) j = (st j).slots := by
    intro k j
    induction j with
    | zero => intro _ _; rfl
    | succ j ih =>
      intro hj hk
      have hjl : l[j]? = some l[j] := List.getElem?_eq_getElem (by omega)
      simp only [slF, hjl]
      rw [if_pos (by simp; omega), ih (by omega) hk]
      exact (H.slots j _ hjl).symm
  have textE : ∀ (k : Nat), k ≤ l.length → ∀ j, k ≤ j → slF l res (st 0).slots (fun i => decide (i < k)) j = (st k).slots := by
    intro k hk j
    induction j with
    | zero =>
      intro hj
      obtain rfl : k = 0 := by omega
      rfl
    | succ j ih =>
      intro hj
      rcases Nat.lt_or_ge j k with h | h
      · obtain rfl : k = j + 1 := by omega
        exact text (j + 1) (j + 1) (Nat.le_refl _) hk
      · simp only [slF]
        cases l[j]? with
        | none => exact ih h
        | some o => simp only; rw [if_neg (by simp; omega)]; exact ih h
  let Closed (L : Nat → Bool) : Prop := ∀ i k, Anc l i k → k < l.length → L k = true → L i = true
  -- what operation k sees of the slots
  have see : ∀ (L : Nat → Bool) (k : Nat) (o : Oper), l[k]? = some o → L k = false → Closed L → (∀ i, Anc l i k → L i = true) → ∀ t, (o.dst = some t ∨ t ∈ guardSlot l.toArray o ∨ t ∈ slotsOf o.op) →
      ∀ i oi, l[i]? = some oi → oi.dst = some t → i ≠ k → L i = decide (i < k) := by
    intro L k o hk hLk hC hA t hx i oi hi hw hne
    rcases Nat.lt_or_gt_of_ne hne with h | h
    · rw [decide_eq_true h]
      exact hA i (H.cslot i k oi o t h hi hk (.inl ⟨hw, hx⟩))
    · rw [decide_eq_false (by omega)]
      have hanc : Anc l k i := H.cslot k i o oi t h hk hi (by
        rcases hx with hx | hx
        · exact .inl ⟨hx, .inl hw⟩
        · exact .inr ⟨hw, hx⟩)
      cases hLi : L i with
      | false => rfl
      | true =>
        have := hC k i hanc (List.getElem?_eq_some_iff.1 hi).1 hLi
        rw [hLk] at this
        cases this
  have see_slot : ∀ (L : Nat → Bool) (k : Nat) (o : Oper), l[k]? = some o → L k = false → Closed L → (∀ i, Anc l i k → L i = true) → ∀ t, (t ∈ guardSlot l.toArray o ∨ t ∈ slotsOf o.op) → slF l res (st 0).slots L l.length t = (st k).slots t := by
    intro L k o hk hLk hC hA t hx
    have hkl := (List.getElem?_eq_some_iff.1 hk).1
    rw [← textE k (by omega) l.length (by omega)]
    refine slF_at (fun i oi hi hd => ?_) _
    by_cases e : i = k
    · subst e; rw [hLk]; simp
    · exact see L k o hk hLk hC hA t (.inr hx) i oi hi hd e
  have meet : ∀ (L L' : Nat → Bool) (k : Nat) (o : Oper), l[k]? = some o → L k = false → Closed L → (∀ i, Anc l i k → L i = true) → (∀ i, L' i = if i = k then true else L i) → slF l res (st 0).slots L' l.length = setSlot (slF l res (st 0).slots L l.length) o.dst (res k) := by
    intro L L' k o hk hLk hC hA hL'
    have hkl := (List.getElem?_eq_some_iff.1 hk).1
    funext t
    rw [setSlot_at]
    by_cases hd : o.dst = some t
    · rw [if_pos hd, slF_at (M := fun i => decide (i < k + 1)) (fun i oi hi hdi => ?_) _, textE (k + 1) (by omega) l.length (by omega), H.slots k o hk, setSlot_at, if_pos hd]
      rw [hL']
      by_cases e : i = k
      · subst e; simp
      · rw [if_neg e, see L k o hk hLk hC hA t (.inl hd) i oi hi hdi e]
        by_cases h : i < k
        · rw [decide_eq_true h, decide_eq_true (by omega)]
        · rw [decide_eq_false h, decide_eq_false (by omega)]
    · rw [if_neg hd]
      refine slF_at (fun i oi hi hdi => ?_) _
      rw [hL', if_neg]
      rintro rfl
      rw [hk] at hi
      cases hi
      exact hd hdi
  have key : ∀ (fuel : Nat) (listed : Array Bool) (E : Env) (a : Act) (w : World), listed.size = l.toArray.size → leftOf l.toArray.size listed ≤ fuel → Closed (fun i => listed.getD i true) →
      Sim W0 R0 ns (dF N kd l.length (fun i => listed.getD i true)) ⟨slF l res (st 0).slots (fun i => listed.getD i true) l.length, mF st N kd (fun i => listed.getD i true) l.length⟩ E a w → wpAnyIn (fen (rOf W0 r)) 0 P .any l.toArray Q fuel listed a w := by
    have bound : ∀ (L : Nat → Bool) i, dF N kd l.length L i → i < N l.length := fun L i hi => by
      rcases hi with hi | ⟨k, _, _, hk, _, _, h1, h2⟩
      · exact Nat.lt_of_lt_of_le hi (mono 0 _ (Nat.zero_le _) (Nat.le_refl _))
      · exact Nat.lt_of_lt_of_le h2 (mono (k + 1) _ (by omega) (Nat.le_refl _))
    have fin : ∀ (listed : Array Bool) (E : Env) (a : Act) (w : World), listed.size = l.toArray.size →
        Sim W0 R0 ns (dF N kd l.length (fun i => listed.getD i true)) ⟨slF l res (st 0).slots (fun i => listed.getD i true) l.length, mF st N kd (fun i => listed.getD i true) l.length⟩ E a w → Region.ready .any l.toArray listed = [] → Q .normal a w := by
      intro listed E a w hsz hsim hr
      have hall := all_listed hsz hB hr
      have e : slF l res (st 0).slots (fun i => listed.getD i true) l.length = (st l.length).slots := by
        rw [← text l.length l.length (Nat.le_refl _) (Nat.le_refl _)]
        funext t
        refine slF_at (fun i oi hi _ => ?_) _
        have hil := (List.getElem?_eq_some_iff.1 hi).1
        rw [hall i (by simpa using hil), decide_eq_true hil]
      have e2 : mF st N kd (fun i => listed.getD i true) l.length = (st l.length).mem := by
        rw [← mF_text H.mem l.length (Nat.le_refl _)]
        funext x
        refine mF_at _ fun i hi _ => ?_
        rw [hall i (by simpa using hi), decide_eq_true hi]
      rw [e, e2] at hsim
      exact hQ E a w (hsim.weak (bound _))
    intro fuel
    induction fuel with
    | zero =>
      intro listed E a w hsz hl hC hsim
      have hr : Region.ready .any l.toArray listed = [] := by
        rw [List.eq_nil_iff_forall_not_mem]
        intro i hi
        have h1 := (mem_ready.1 hi).1
        have h2 : i ∈ (List.range l.toArray.size).filter fun j => !listed.getD j true := by
          rw [List.mem_filter]
          refine ⟨List.mem_range.2 ?_, by rw [h1]; rfl⟩
          obtain ⟨o, ho, _⟩ := (mem_ready.1 hi).2
          exact (Array.getElem?_eq_some_iff.1 ho).1
        unfold leftOf at hl
        rw [List.length_eq_zero_iff.1 (Nat.le_zero.1 hl)] at h2
        cases h2
      exact ⟨hr, fin listed E a w hsz hsim hr⟩
    | succ fuel ih =>
      intro listed E a w hsz hl hC hsim
      refine ⟨fun hr => fin listed E a w hsz hsim hr, fun k hk => ?_⟩
      obtain ⟨hun, o, ho, hdep⟩ := mem_ready.1 hk
      have hkl : k < l.length := by have := (Array.getElem?_eq_some_iff.1 ho).1; simpa using this
      have hlk : l[k]? = some o := by simpa using ho
      have hA : ∀ i, Anc l i k → listed.getD i true = true := by
        intro i hi
        cases hi with
        | one h1 h2 h3 =>
          rw [hlk] at h1
          cases h1
          have h4 := hdep _ (by simpa using h2) h3
          rename_i e
          rcases Nat.lt_or_ge e.on listed.size with h5 | h5
          · simp [h5] at h4 ⊢; exact h4
          · simp [Array.getElem?_eq_none h5] at h4
        | more h1 h2 h3 h4 =>
          rw [hlk] at h1
          cases h1
          rename_i e
          have h5 := hdep _ (by simpa using h2) h3
          rcases Nat.lt_or_ge e.on listed.size with h6 | h6
          · refine hC i e.on h4 (by simpa [hsz] using h6) ?_
            simp [h6] at h5 ⊢; exact h5
          · simp [Array.getElem?_eq_none h6] at h5
      have hL' : ∀ i, (listed.setIfInBounds k true).getD i true = if i = k then true else listed.getD i true := fun i => by
        by_cases e : i = k
        · subst e; rw [if_pos rfl]; simp [hsz, hkl]
        · rw [if_neg e]; exact getD_set_ne true (Ne.symm e)
      have hmeet := meet (fun i => listed.getD i true) (fun i => (listed.setIfInBounds k true).getD i true) k o hlk hun hC hA hL'
      have hC' : Closed (fun i => (listed.setIfInBounds k true).getD i true) := by
        intro i j hij hj hLj
        have hLj := (hL' j).symm.trans hLj
        refine (hL' i).trans ?_
        split
        · rfl
        · rename_i hne
          by_cases e : j = k
          · subst e; exact hA i hij
          · rw [if_neg e] at hLj; exact hC i j hij hj hLj
      have hseeS : ∀ t, (t ∈ guardSlot l.toArray o ∨ t ∈ slotsOf o.op) → slF l res (st 0).slots (fun i => listed.getD i true) l.length t = (st k).slots t := see_slot _ k o hlk hun hC hA
      have hgs : ∀ b, guardS l.toArray ns (st k) o = some b → guardS l.toArray ns ⟨slF l res (st 0).slots (fun i => listed.getD i true) l.length, mF st N kd (fun i => listed.getD i true) l.length⟩ o = some b := by
        intro b hb
        unfold guardS at hb ⊢
        have hdo : dstOk ns o.dst = true := by by_cases hd : dstOk ns o.dst = true; exact hd; rw [if_neg hd] at hb; cases hb
        rw [if_pos hdo] at hb ⊢
        cases hgd : o.guard with
        | none => rw [hgd] at hb; exact hb
        | some p =>
          obtain ⟨j, want⟩ := p
          rw [hgd] at hb
          simp only at hb ⊢
          cases hj : (l.toArray[j]?).bind (·.dst) with
          | none => rw [hj] at hb; cases hb
          | some t =>
            rw [hj] at hb
            simp only at hb ⊢
            rw [hseeS t (.inl ?_)]
            · exact hb
            · simp only [guardSlot, hgd, hj]
              simp
      have hlf := leftOf_set hsz hun fuel hl
      have dmore : ∀ i, dF N kd l.length (fun i => listed.getD i true) i → dF N kd l.length (fun i => (listed.setIfInBounds k true).getD i true) i := fun i hi => by
        rcases hi with hi | ⟨e, y, R, h1, h2, h3, h4⟩
        · exact .inl hi
        · refine .inr ⟨e, y, R, h1, ?_, h3, h4⟩
          show (listed.setIfInBounds k true).getD e true = true
          rw [hL' e]
          split
          · rfl
          · exact h2
      have keep : (∀ i, ¬ tch N kd k i) → mF st N kd (fun i => (listed.setIfInBounds k true).getD i true) l.length = mF st N kd (fun i => listed.getD i true) l.length := fun hno => by
        funext i
        refine mF_at _ fun e he ht => ?_
        rw [hL' e, if_neg]
        rintro rfl
        exact hno i ht
      unfold wpOpIn
      rw [show l.toArray[k]? = some o from ho]
      simp only
      cases hkd : kd k with
      | off =>
        have hg := H.off k o hlk hkd
        rw [guard_ok hsim (hgs _ hg), if_neg (by simp)]
        refine ⟨fun f _ => fen_fn _ f, ih _ E _ w (by simpa using hsz) hlf hC' ?_⟩
        rw [hmeet, keep (fun i ⟨y, R, h, _⟩ => by rw [hkd] at h; cases h)]
        have := (hsim.weak dmore).put (guardS_dst hg) rep_no
        simpa [res, hkd, Kd3.res] using this
      | pure x ids =>
        obtain ⟨hg, j0, hord, hst⟩ := H.pure k o x ids hlk hkd
        rw [guard_ok hsim (hgs _ hg), if_pos rfl]
        have hnot : ∀ i, ¬ tch N kd k i := fun i ⟨y, R, h, _⟩ => by rw [hkd] at h; cases h
        have hpre : ∀ n, n ≤ l.length → ∃ p, p ≤ n ∧ ∀ e, e < n → tch N kd e j0 → (listed.getD e true = true ↔ e < p) := by
          intro n
          induction n with
          | zero => intro _; exact ⟨0, Nat.le_refl _, fun e he => by omega⟩
          | succ n ihn =>
            intro hn
            obtain ⟨p, hp, h1⟩ := ihn (by omega)
            by_cases ht : tch N kd n j0
            · cases hLn : listed.getD n true with
              | true =>
                refine ⟨n + 1, Nat.le_refl _, fun e he hte => ⟨fun _ => he, fun _ => ?_⟩⟩
                by_cases hen : e = n
                · rw [hen]; exact hLn
                · exact hC e n (H.cmem e n j0 (by omega) (by omega) hte ht) (by omega) hLn
              | false =>
                refine ⟨p, by omega, fun e he hte => ?_⟩
                by_cases hen : e = n
                · rw [hen, hLn]
                  exact ⟨fun h => (by cases h), fun h => (by omega)⟩
                · exact h1 e (by omega) hte
            · refine ⟨p, by omega, fun e he hte => ?_⟩
              by_cases hen : e = n
              · rw [hen] at hte; exact absurd hte ht
              · exact h1 e (by omega) hte
        obtain ⟨p, hp, hpx⟩ := hpre l.length (Nat.le_refl _)
        refine hst p hp (fun e he1 he2 he3 => (hpx e he1 he2).1 (hA e he3)) (fun e he1 he2 he3 => ?_) _ ⟨slF l res (st 0).slots (fun i => listed.getD i true) l.length, mF st N kd (fun i => listed.getD i true) l.length⟩ (bound _) (fun t ht => hseeS t (.inr ht)) (fun i hi hne => ?_) ?_ W0 R0 B E a w hi hsim (guardS_dst hg) _ Q fun E' a' w' hs' => ?_
        · rcases Nat.lt_or_ge e p with h5 | h5
          · have h6 : listed.getD k true = true := hC k e he3 he1 ((hpx e he1 he2).2 h5)
            rw [hun] at h6; cases h6
          · exact h5
        · rw [← mF_text H.mem k (by omega)]
          refine mF_at _ fun e he ht => ?_
          obtain ⟨q1, q2⟩ := hord i hi hne e he ht
          rcases Nat.lt_trichotomy e k with h | h | h
          · rw [decide_eq_true h]; exact hA e (q1 h)
          · subst h; exact absurd ht (hnot i)
          · rw [decide_eq_false (by omega)]
            cases hLe : listed.getD e true with
            | false => rfl
            | true =>
              have h6 : listed.getD k true = true := hC k e (q2 h) he hLe
              rw [hun] at h6; cases h6
        · rw [← mF_text H.mem p hp]
          refine mF_at _ fun e he ht => ?_
          rw [Bool.eq_iff_iff, decide_eq_true_iff]
          exact hpx e he ht
        · refine ih _ E' a' w' (by simpa using hsz) hlf hC' ?_
          rw [hmeet, keep hnot]
          have := hs'.weak dmore
          simpa [res, hkd, Kd3.res] using this
      | act y R =>
        obtain ⟨hg, I, hord, hst⟩ := H.act k o y R hlk hkd
        rw [guard_ok hsim (hgs _ hg), if_pos rfl]
        have htk : ∀ i, tch N kd k i ↔ (i ∈ R ∨ New (N k) (N (k + 1)) i) := fun i => ⟨fun ⟨y', R', h, h2⟩ => by rw [hkd] at h; cases h; exact h2, fun h => ⟨y, R, hkd, h⟩⟩
        have hsee : ∀ i, tch N kd k i → ∀ e, e < l.length → tch N kd e i → e ≠ k → listed.getD e true = decide (e < k) := fun i hti e he hte hne => by
          rcases Nat.lt_or_gt_of_ne hne with h | h
          · rw [decide_eq_true h]; exact hA e (H.cmem e k i h hkl hte hti)
          · rw [decide_eq_false (by omega)]
            cases hLe : listed.getD e true with
            | false => rfl
            | true =>
              have h6 : listed.getD k true = true := hC k e (H.cmem k e i h he hti hte) he hLe
              rw [hun] at h6; cases h6
        refine hst _ ⟨slF l res (st 0).slots (fun i => listed.getD i true) l.length, mF st N kd (fun i => listed.getD i true) l.length⟩ (bound _) (fun i hd hnw => ?_) (fun t ht => hseeS t (.inr ht)) (fun i hi => ?_) (fun i hi => ?_) W0 R0 B E a w hi hsim (guardS_dst hg) _ Q fun E' a' w' hs' => ?_
        · rcases hd with hd | ⟨e, y', R', h1, h2, h3, h4⟩
          · have := mono 0 k (Nat.zero_le _) (by omega)
            have := hnw.1
            omega
          · rcases Nat.lt_trichotomy e k with h | h | h
            · have := mono (e + 1) k (by omega) (by omega)
              have := h4.2
              have := hnw.1
              omega
            · subst h
              have h2 : listed.getD e true = true := h2
              rw [hun] at h2; cases h2
            · have := mono (k + 1) e (by omega) (by omega)
              have := h4.1
              have := hnw.2
              omega
        · rw [← mF_text H.mem k (by omega)]
          refine mF_at _ fun e he ht => ?_
          by_cases hek : e = k
          · subst hek
            have hun' : listed.getD e true = false := hun
            rw [hun']; simp
          · exact hsee i ((htk i).2 (.inl hi)) e he ht hek
        · rw [← mF_text H.mem k (by omega)]
          refine mF_at _ fun e he ht => ?_
          by_cases hek : e = k
          · subst hek
            have hun' : listed.getD e true = false := hun
            rw [hun']; simp
          · obtain ⟨q1, q2⟩ := hord i hi e he hek ht
            rcases Nat.lt_or_gt_of_ne hek with h | h
            · rw [decide_eq_true h]; exact hA e (q1 h)
            · rw [decide_eq_false (by omega)]
              cases hLe : listed.getD e true with
              | false => rfl
              | true =>
                have h6 : listed.getD k true = true := hC k e (q2 h) he hLe
                rw [hun] at h6; cases h6
        · refine ih _ E' a' w' (by simpa using hsz) hlf hC' ?_
          have hmem : mF st N kd (fun i => (listed.setIfInBounds k true).getD i true) l.length = fun i => if i ∈ R ∨ New (N k) (N (k + 1)) i then (st (k + 1)).mem i else mF st N kd (fun i => listed.getD i true) l.length i := by
            funext i
            split
            · rename_i hti
              rw [← mF_text H.mem (k + 1) (by omega)]
              refine mF_at _ fun e he ht => ?_
              rw [hL' e]
              by_cases hek : e = k
              · subst hek; simp
              · rw [if_neg hek, hsee i ((htk i).2 hti) e he ht hek]
                by_cases h : e < k
                · rw [decide_eq_true h, decide_eq_true (by omega)]
                · rw [decide_eq_false h, decide_eq_false (by omega)]
            · rename_i hti
              refine mF_at _ fun e he ht => ?_
              rw [hL' e, if_neg]
              rintro rfl
              exact hti ((htk i).1 ht)
          rw [hmeet, hmem]
          have := hs'.weak (D' := dF N kd l.length (fun i => (listed.setIfInBounds k true).getD i true)) fun i hi => by
            rcases hi with hi | hi
            · exact dmore i hi
            · refine .inr ⟨k, y, R, hkl, ?_, hkd, hi⟩
              show (listed.setIfInBounds k true).getD k true = true
              rw [hL' k, if_pos rfl]
          simpa [res, hkd, Kd3.res] using this
  have hL0 : ∀ i, i < l.length → (Array.replicate l.toArray.size false).getD i true = false := fun i hi => by simp [hi]
  refine key l.toArray.size _ E a _ (by simp) (by unfold leftOf; exact Nat.le_trans (List.length_filter_le _ _) (by simp)) (fun i k hik hk hLk => by have hLk := (hL0 k hk).symm.trans hLk; cases hLk) ?_
  have e0 : slF l res (st 0).slots (fun i => (Array.replicate l.toArray.size false).getD i true) l.length = (st 0).slots := by
    refine Eq.trans ?_ (textE 0 (Nat.zero_le _) l.length (Nat.zero_le _))
    funext t
    exact slF_at (fun i oi hi _ => by rw [hL0 i (List.getElem?_eq_some_iff.1 hi).1]; rfl) _
  have e1 : mF st N kd (fun i => (Array.replicate l.toArray.size false).getD i true) l.length = (st 0).mem := by
    rw [← mF_text H.mem 0 (Nat.zero_le _)]
    funext i
    exact mF_at _ fun k hk _ => by rw [hL0 k hk]; simp
  rw [e0, e1]
  exact hs.weak fun i hi => .inl hi
end Go.Proofs.Ytdkneonokbakjaa.Eng

noncomputable section
namespace Go.Proofs.Ytdkneonokbakjaa.Eng
open Go.RowKit
variable {P : Program} {T : Tab} {Z : ZTab} {Q : QTab} {M : MTab} {K : Known} {R : Runner} {r : Option Nat} {ns : Nat}
def ordB (l : List Oper) (i k : Nat) : Bool := ((ancs l []).getD k 0).testBit i
theorem fresh_nat : ∀ ids : List Nat, ∃ j, ∀ i ∈ ids, i < j
  | [] => ⟨0, by simp⟩
  | a :: l => by
    obtain ⟨j, hj⟩ := fresh_nat l
    refine ⟨max (a + 1) j, fun i hi => ?_⟩
    rcases List.mem_cons.1 hi with rfl | hi
    · omega
    · have := hj i hi; omega
end Go.Proofs.Ytdkneonokbakjaa.Eng

noncomputable section
namespace Go.Proofs.Ytdkneonokbakjaa.Eng
open Go.RowKit
variable {P : Program} {T : Tab} {Z : ZTab} {Q : QTab} {M : MTab} {K : Known} {R : Runner} {r : Option Nat} {ns : Nat}
theorem stepD_call {f : FuncId} {svs : List SV} {m0 mq : Mem} {n n' : Nat} {y : SV} (h : NCall P f svs m0 n n' y mq) {D : Nat → Prop} {s' : St} {o : Oper} (hD : ∀ i, D i → ¬ New n n' i) (h1 : calleeS ns s' o.op = some (f, svs)) (hm : ∀ i b, m0 i = some b → s'.mem i = some b) :
    StepD P r ns D (fun i => D i ∨ New n n' i) s' o ⟨setSlot s'.slots o.dst y, behind s'.mem m0 mq n n'⟩ := by
  intro W0 R0 B E a w _ hs hd K1 Q' hK1
  obtain ⟨vs, hex, v1, v2⟩ := calleeS_run hs h1 h.callable
  refine oper_in (fun c e => by rw [e] at h1; cases h1) ?_
  unfold Oper.wp
  rw [hex, Oper.upon_enter]
  refine (h.calls W0 R0 D s'.mem E w vs hD hm hs.ms v1 v2).mono ?_
  rintro e w' ⟨v, E', rfl, M, hE, hw, hv⟩
  exact hK1 E' _ w' ((hs.back M hE hw).put hd hv)
theorem stepD_ro {f : FuncId} {svs : List SV} {m0 : Mem} {d : Dat} (h : RCall P f svs d m0) {D : Nat → Prop} {N : Nat} {s' : St} {o : Oper} (hD : ∀ i, D i → i < N) (h1 : calleeS ns s' o.op = some (f, svs)) (hm : ∀ i b, m0 i = some b → s'.mem i = some b) {x : SV} (hx : toD3 x = some d) :
    StepD P r ns D D s' o ⟨setSlot s'.slots o.dst x, s'.mem⟩ := by
  intro W0 R0 B E a w _ hs hd K1 Q' hK1
  obtain ⟨vs, hex, v1, v2⟩ := calleeS_run hs h1 h.callable
  refine oper_in (fun c e => by rw [e] at h1; cases h1) ?_
  unfold Oper.wp
  rw [hex, Oper.upon_enter]
  refine ((h.more hm).calls W0 R0 D N E w vs hD hs.ms v1 v2).mono ?_
  rintro e w' ⟨v, E', rfl, M, hE, hw, hv⟩
  exact hK1 E' _ w' ((hs.back M hE hw).put hd ((toD3_rep hx).2 hv))
end Go.Proofs.Ytdkneonokbakjaa.Eng

noncomputable section
namespace Go.Proofs.Ytdkneonokbakjaa.Eng
open Go.RowKit
variable {P : Program} {T : Tab} {r : Option Nat} {ns : Nat}
open Classical in
theorem ncall_ofM {f : FuncId} {svs : List SV} {n : Nat} {m0 : Mem} {n1 : Nat} {y0 : SV} {mq : Mem} (h : CWp P f svs n m0 fun y n' m' => y0 = y ∧ n1 = n' ∧ mq = m') (hlt : ∀ i b, m0 i = some b → i < n) (hm0 : ∀ i b, m0 i = some b → OfB (fun i => (m0 i).isSome = true) b) (hargs : ∀ x ∈ svs, Of (fun i => (m0 i).isSome = true) x)
    (hq : ∀ i b, mq i = some b → ((m0 i).isSome = true ∨ New n n1 i) ∧ OfB (fun i => (m0 i).isSome = true ∨ New n n1 i) b) (hy : Of (fun i => (m0 i).isSome = true ∨ New n n1 i) y0) : NCall P f svs m0 n n1 y0 mq :=
  ⟨h.callable, fun W0 R0 D m E w vs hD hm M h1 h2 => by
    have some_of : ∀ i, (m0 i).isSome = true → ∃ b, m0 i = some b := fun i hi => Option.isSome_iff_exists.1 hi
    let W1 : Fix := { w := w, U := fun b => b < w.heap.size ∧ ∀ i c, m0 i = some c → (E.home i).blk ≠ b, lt := fun _ h => h.1, g := fun _ => undef }
    have hU : ∀ b, W0.U b → W1.U b := fun b hb => ⟨Nat.lt_of_lt_of_le (W0.lt b hb) M.below.size, fun i c hi e => M.base i c (hm i c hi) (e ▸ hb)⟩
    have hUn : ∀ i b, m i = some b → ¬ (m0 i).isSome = true → W1.U (E.home i).blk := fun i b hi hn => ⟨(M.mem i b hi).lt, fun j c hj => M.inj j i c b (hm j c hj) hi fun e => hn (by rw [← e, hj]; rfl)⟩
    let E0 : Env := { E with dom := fun i => E.dom i ∧ (m0 i).isSome = true }
    have M0 : MS W1 E.ro (· < n) m0 E0 w := ⟨Kept.refl _ _, fun _ h => h, fun _ h => .inl h, M.rlt, fun i hi => by obtain ⟨b, hb⟩ := some_of i hi.2; exact hlt i b hb, fun i b hi => ⟨M.live i b (hm i b hi), by rw [hi]; rfl⟩, fun i b hi => Holds.of (E := E) (E0 := E0) rfl (fun i a b => ⟨a, b⟩) (fun _ _ _ => rfl) (M.mem i b (hm i b hi)) (hm0 i b hi), fun i b hi h => h.2 i b hi rfl, fun i b hi => M.frz i b (hm i b hi), fun i j b c hi hj hn => M.inj i j b c (hm i b hi) (hm j c hj) hn⟩
    refine ((h.calls W1 E.ro E0 w vs M0 h1 fun i x v hx hv => Rep.of (E := E) (E0 := E0) rfl (fun i a b => ⟨a, b⟩) (fun _ _ _ => rfl) (h2 i x v hx hv) (hargs x (List.mem_of_getElem? hx)))).mono ?_
    rintro e w' ⟨v, E', n', m', y, rfl, M2, hE, hw, hv, rfl, rfl, rfl⟩
    have hro : ∀ b, E'.ro b → E.ro b ∨ ¬ W1.U b := M2.ro1
    let E2 : Env := { E' with dom := fun i => E.dom i ∨ (New n n1 i ∧ E'.dom i), home := fun i => if New n n1 i then E'.home i else E.home i }
    have live0 : ∀ i, (m0 i).isSome = true → E.dom i := fun i hi => by obtain ⟨b, hb⟩ := some_of i hi; exact M.live i b (hm i b hb)
    have not_new : ∀ i, E.dom i → ¬ New n n1 i := fun i hi => hD i (M.dom i hi)
    have home2 : ∀ i, (m0 i).isSome = true ∨ New n n1 i → E2.home i = E'.home i := fun i hi => by
      by_cases hn : New n n1 i
      · show (if New n n1 i then E'.home i else E.home i) = _
        rw [if_pos hn]
      · show (if New n n1 i then E'.home i else E.home i) = _
        rw [if_neg hn]
        have hs := hi.resolve_right hn
        exact (hE.home i ⟨live0 i hs, hs⟩).symm
    have homeE : ∀ i, E.dom i → E2.home i = E.home i := fun i hi => by
      show (if New n n1 i then E'.home i else E.home i) = _
      rw [if_neg (not_new i hi)]
    have dom2 : ∀ i, E'.dom i → (m0 i).isSome = true ∨ New n n1 i → E2.dom i := fun i hd hi => by
      rcases hi with hi | hi
      · exact .inl (live0 i hi)
      · exact .inr ⟨hi, hd⟩
    have hle : E.le E2 := ⟨hE.ro, fun _ h => .inl h, homeE⟩
    have cases_ : ∀ i b, behind m m0 mq n n1 i = some b → (((m0 i).isSome = true ∨ New n n1 i) ∧ mq i = some b) ∨ (¬ ((m0 i).isSome = true ∨ New n n1 i) ∧ m i = some b) := fun i b hb => by
      unfold behind at hb
      split at hb
      · rename_i c; exact .inl ⟨c, hb⟩
      · rename_i c; exact .inr ⟨c, hb⟩
    refine ⟨v, E2, rfl, ⟨M.below.trans (M2.below.mono hU), fun b hb => hE.ro b (M.ro0 b hb), fun b hb => ?_, M2.rlt, fun i hi => ?_, fun i b hi => ?_, fun i b hi => ?_, fun i b hi => ?_, fun i b hi => ?_, fun i j b c hi hj hn => ?_⟩, hle, hw, ?_⟩
    · rcases hro b hb with h3 | h3
      · exact M.ro1 b h3
      · exact .inr fun h4 => h3 (hU b h4)
    · rcases hi with hi | hi
      · exact .inl (M.dom i hi)
      · exact .inr hi.1
    · rcases cases_ i b hi with ⟨h3, h4⟩ | ⟨_, h4⟩
      · exact dom2 i (M2.live i b h4) h3
      · exact .inl (M.live i b h4)
    · rcases cases_ i b hi with ⟨h3, h4⟩ | ⟨h3, h4⟩
      · rw [home2 i h3]
        exact Holds.of (E := E') (E0 := E2) rfl dom2 (fun i _ hs => home2 i hs) (M2.mem i b h4) (hq i b h4).2
      · rw [homeE i (M.live i b h4)]
        exact (M.mem i b h4).keep hle hw (M2.below.block _ (hUn i b h4 fun hs => h3 (.inl hs)))
    · rcases cases_ i b hi with ⟨h3, h4⟩ | ⟨h3, h4⟩
      · rw [home2 i h3]
        exact fun h5 => M2.base i b h4 (hU _ h5)
      · rw [homeE i (M.live i b h4)]
        exact M.base i b h4
    · rcases cases_ i b hi with ⟨h3, h4⟩ | ⟨h3, h4⟩
      · rw [home2 i h3]
        exact M2.frz i b h4
      · rw [homeE i (M.live i b h4)]
        refine (M.frz i b h4).trans ⟨fun h => hE.ro _ h, fun h => ?_⟩
        rcases hro _ h with h5 | h5
        · exact h5
        · exact absurd (hUn i b h4 fun hs => h3 (.inl hs)) h5
    · rcases cases_ i b hi with ⟨h3, h4⟩ | ⟨h3, h4⟩
      · rcases cases_ j c hj with ⟨k3, k4⟩ | ⟨k3, k4⟩
        · rw [home2 i h3, home2 j k3]
          exact M2.inj i j b c h4 k4 hn
        · rw [home2 i h3, homeE j (M.live j c k4)]
          exact fun e => M2.base i b h4 (e ▸ hUn j c k4 fun hs => k3 (.inl hs))
      · rcases cases_ j c hj with ⟨k3, k4⟩ | ⟨k3, k4⟩
        · rw [homeE i (M.live i b h4), home2 j k3]
          exact fun e => M2.base j c k4 (e ▸ hUn i b h4 fun hs => h3 (.inl hs))
        · rw [homeE i (M.live i b h4), homeE j (M.live j c k4)]
          exact M.inj i j b c h4 k4 hn
    · exact Rep.of (E := E') (E0 := E2) rfl dom2 (fun i _ hs => home2 i hs) hv hy⟩
structure EnV where
  k : Kd3
  n : Nat
  s : St
  n' : Nat
  s' : St
  rd : List Nat
def EnV.reads (e : EnV) : List Nat := match e.k with
  | .pure _ ids => ids
  | .act _ _ => e.rd
  | .off => []
def EnV.tch (e : EnV) (b : Nat) : Prop := match e.k with
  | .act _ R => b ∈ R ∨ New e.n e.n' b
  | _ => False
open Classical in
structure EnVOk (P : Program) (r : Option Nat) (ns : Nat) (ops : Array Oper) (o : Oper) (e : EnV) : Prop where
  k : match e.k with
    | .off => guardS ops ns e.s o = some false ∧ e.n' = e.n ∧ e.s' = ⟨setSlot e.s.slots o.dst (.tup []), e.s.mem⟩
    | .pure x ids => guardS ops ns e.s o = some true ∧ (∀ (s' : St) (D : Nat → Prop) (N : Nat), (∀ i, D i → i < N) → (∀ t ∈ slotsOf o.op, s'.slots t = e.s.slots t) → (∀ i ∈ ids, s'.mem i = e.s.mem i) → StepD P r ns D D s' o ⟨setSlot s'.slots o.dst x, s'.mem⟩) ∧ e.n' = e.n ∧ e.s' = ⟨setSlot e.s.slots o.dst x, e.s.mem⟩
    | .act y R => guardS ops ns e.s o = some true ∧ (∀ (D : Nat → Prop) (s' : St), (∀ i, D i → ¬ New e.n e.n' i) → (∀ t ∈ slotsOf o.op, s'.slots t = e.s.slots t) → (∀ i ∈ R, s'.mem i = e.s.mem i) → (∀ i ∈ e.rd, s'.mem i = e.s.mem i) →
        StepD P r ns D (fun i => D i ∨ New e.n e.n' i) s' o ⟨setSlot s'.slots o.dst y, fun i => if i ∈ R ∨ New e.n e.n' i then e.s'.mem i else s'.mem i⟩) ∧ e.n ≤ e.n' ∧ e.s'.slots = setSlot e.s.slots o.dst y ∧ ∀ i, ¬ (i ∈ R ∨ New e.n e.n' i) → e.s'.mem i = e.s.mem i
inductive ChainV (P : Program) (r : Option Nat) (ns : Nat) (ops : Array Oper) : List Oper → List EnV → Nat → St → Nat → St → Prop
  | nil (n s) : ChainV P r ns ops [] [] n s n s
  | cons {o l e es nF sF} : EnVOk P r ns ops o e → ChainV P r ns ops l es e.n' e.s' nF sF → ChainV P r ns ops (o :: l) (e :: es) e.n e.s nF sF
def stV (es : List EnV) (sF : St) (k : Nat) : St := match es[k]? with
  | some e => e.s
  | none => sF
def nV (es : List EnV) (nF : Nat) (k : Nat) : Nat := match es[k]? with
  | some e => e.n
  | none => nF
def kdV (es : List EnV) (k : Nat) : Kd3 := match es[k]? with
  | some e => e.k
  | none => .off
theorem chainV_len {ops : Array Oper} {l : List Oper} {es : List EnV} {n nF : Nat} {s sF : St} (h : ChainV P r ns ops l es n s nF sF) : es.length = l.length := by
  induction h with
  | nil => rfl
  | cons _ _ ih => simp [ih]
theorem chainV_zero {ops : Array Oper} {l : List Oper} {es : List EnV} {n nF : Nat} {s sF : St} (h : ChainV P r ns ops l es n s nF sF) : stV es sF 0 = s ∧ nV es nF 0 = n := by
  cases h with
  | nil => exact ⟨rfl, rfl⟩
  | cons => exact ⟨rfl, rfl⟩
theorem chainV_at {ops : Array Oper} {l : List Oper} {es : List EnV} {n nF : Nat} {s sF : St} (h : ChainV P r ns ops l es n s nF sF) : ∀ (k : Nat) o, l[k]? = some o → ∃ e, es[k]? = some e ∧ EnVOk P r ns ops o e ∧ (stV es sF k = e.s ∧ nV es nF k = e.n) ∧ stV es sF (k + 1) = e.s' ∧ nV es nF (k + 1) = e.n' := by
  induction h with
  | nil => intro k o hk; simp at hk
  | @cons o l e es nF sF he hc ih =>
    intro k o' hk
    match k with
    | 0 =>
      simp only [List.getElem?_cons_zero, Option.some.injEq] at hk
      subst hk
      exact ⟨e, rfl, he, ⟨rfl, rfl⟩, chainV_zero hc⟩
    | k + 1 =>
      obtain ⟨e', h1, h2, h3, h4⟩ := ih k o' (by simpa using hk)
      exact ⟨e', by simpa using h1, h2, h3, h4⟩
theorem chainV_end {ops : Array Oper} {l : List Oper} {es : List EnV} {n nF : Nat} {s sF : St} (h : ChainV P r ns ops l es n s nF sF) : stV es sF l.length = sF ∧ nV es nF l.length = nF := by
  unfold stV nV
  rw [List.getElem?_eq_none (by rw [chainV_len h]; omega)]
  exact ⟨rfl, rfl⟩
def FreeV (a e : EnV) : Prop := (∀ b, ¬ (a.tch b ∧ e.tch b)) ∧ (∀ i ∈ e.reads, ¬ a.tch i) ∧ ∀ i ∈ a.reads, ¬ e.tch i
theorem draw3_V {l : List Oper} {es : List EnV} {n nF : Nat} {s sF : St} (h : ChainV P r ns l.toArray l es n s nF sF) (hst : stOk l.toArray = true) (hp : ∀ i k ei ek, i < k → es[i]? = some ei → es[k]? = some ek → ordB l i k = true ∨ FreeV ei ek) :
    Draw3 P r ns l (stV es sF) (nV es nF) (kdV es) := by
  have hlen := chainV_len h
  have at_ : ∀ (k : Nat), k < l.length → ∃ o e, l[k]? = some o ∧ es[k]? = some e ∧ EnVOk P r ns l.toArray o e ∧ (stV es sF k = e.s ∧ nV es nF k = e.n) ∧ stV es sF (k + 1) = e.s' ∧ nV es nF (k + 1) = e.n' := fun k hk => by
    obtain ⟨e, h1, h2, h3, h4⟩ := chainV_at h k _ (List.getElem?_eq_getElem hk)
    exact ⟨_, e, List.getElem?_eq_getElem hk, h1, h2, h3, h4⟩
  unfold stOk at hst
  rw [Bool.and_eq_true] at hst
  have bitD : ∀ {i k : Nat}, ordB l i k = true → Anc l i k := fun {i k} hb => ancs_ok l [] [] rfl rfl (fun k i hk => by simp at hk) k i hb
  have bit : ∀ {i k b : Nat}, (ancs l [])[k]? = some b → b.testBit i = true → Anc l i k := fun {i k b} hb hbt => bitD (by unfold ordB; rw [List.getD_eq_getElem?_getD, hb]; simpa using hbt)
  have tchV : ∀ k e i, es[k]? = some e → tch (nV es nF) (kdV es) k i → e.tch i := fun k e i he ht => by
    have hk : k < l.length := by rw [← hlen]; exact (List.getElem?_eq_some_iff.1 he).1
    obtain ⟨y, R, hkd, ht⟩ := ht
    obtain ⟨o, e', _, g1, _, g3, g4⟩ := at_ k hk
    rw [he] at g1
    cases g1
    simp only [kdV, he] at hkd
    simp only [New, g3.2, g4.2] at ht
    unfold EnV.tch
    rw [hkd]
    exact ht
  refine ⟨fun k o hk => ?_, fun k hk i hi => ?_, fun k hk => ?_, fun k o hk hd => ?_, fun k o x ids hk hd => ?_, fun k o y R hk hd => ?_, fun i k oi ok t hik hi hk ht => ?_, fun i k b hik hk hi he => ?_⟩
  · obtain ⟨e, g1, g2, g3, g4⟩ := chainV_at h k o hk
    have hk2 := g2.k
    rw [g3.1, g4.1]
    simp only [kdV, g1]
    cases hek : e.k with
    | off => rw [hek] at hk2; rw [hk2.2.2]; rfl
    | pure x ids => rw [hek] at hk2; rw [hk2.2.2.2]; rfl
    | act y R => rw [hek] at hk2; rw [hk2.2.2.2.1]; rfl
  · obtain ⟨o, e, _, g1, g2, g3, g4⟩ := at_ k hk
    have hk2 := g2.k
    rw [g3.1, g4.1]
    cases hek : e.k with
    | off => rw [hek] at hk2; rw [hk2.2.2]
    | pure x ids => rw [hek] at hk2; rw [hk2.2.2.2]
    | act y R =>
      rw [hek] at hk2
      refine hk2.2.2.2.2 i fun hc => hi ⟨y, R, by simp only [kdV, g1, hek], ?_⟩
      simp only [g3.2, g4.2]
      exact hc
  · obtain ⟨o, e, _, g1, g2, g3, g4⟩ := at_ k hk
    have hk2 := g2.k
    rw [g3.2, g4.2]
    cases hek : e.k with
    | off => rw [hek] at hk2; rw [hk2.2.1]; exact Nat.le_refl _
    | pure x ids => rw [hek] at hk2; rw [hk2.2.2.1]; exact Nat.le_refl _
    | act y R => rw [hek] at hk2; exact hk2.2.2.1
  · obtain ⟨e, g1, g2, g3, g4⟩ := chainV_at h k o hk
    simp only [kdV, g1] at hd
    have hk2 := g2.k
    rw [hd] at hk2
    rw [g3.1]
    exact hk2.1
  · obtain ⟨e, g1, g2, g3, g4⟩ := chainV_at h k o hk
    simp only [kdV, g1] at hd
    have hk2 := g2.k
    rw [hd] at hk2
    obtain ⟨j0, hj0⟩ := fresh_nat ids
    have hkl : k < l.length := (List.getElem?_eq_some_iff.1 hk).1
    rw [g3.1]
    refine ⟨hk2.1, j0, fun i hi _ e' he' ht => ?_, fun p _ _ _ D s' hDN hsl hme _ => hk2.2.1 s' D _ hDN hsl fun i hi => hme i hi (Nat.ne_of_lt (hj0 i hi))⟩
    obtain ⟨o', ee, _, q1, _⟩ := at_ e' he'
    have h9 := tchV e' ee i q1 ht
    have hri : i ∈ e.reads := by unfold EnV.reads; rw [hd]; exact hi
    refine ⟨fun hlt => ?_, fun hlt => ?_⟩
    · rcases hp e' k ee e hlt q1 g1 with q | q
      · exact bitD q
      · exact absurd h9 (q.2.1 i hri)
    · rcases hp k e' e ee hlt g1 q1 with q | q
      · exact bitD q
      · exact absurd h9 (q.2.2 i hri)
  · obtain ⟨e, g1, g2, g3, g4⟩ := chainV_at h k o hk
    simp only [kdV, g1] at hd
    have hk2 := g2.k
    rw [hd] at hk2
    rw [g3.1, g3.2, g4.1, g4.2]
    refine ⟨hk2.1, e.rd, fun i hi e' he' hne ht => ?_, fun D s' _ hD hsl hR hI => hk2.2.1 D s' hD hsl hR hI⟩
    obtain ⟨o', ee, _, q1, _⟩ := at_ e' he'
    have h9 := tchV e' ee i q1 ht
    have hri : i ∈ e.reads := by unfold EnV.reads; rw [hd]; exact hi
    refine ⟨fun hlt => ?_, fun hlt => ?_⟩
    · rcases hp e' k ee e hlt q1 g1 with q | q
      · exact bitD q
      · exact absurd h9 (q.2.1 i hri)
    · rcases hp k e' e ee hlt g1 q1 with q | q
      · exact bitD q
      · exact absurd h9 (q.2.2 i hri)
  · have a1 : (l.toArray.toList.map fun o => (maskL (guardSlot l.toArray o ++ slotsOf o.op), maskL o.dst.toList))[i]? = some (maskL (guardSlot l.toArray oi ++ slotsOf oi.op), maskL oi.dst.toList) := by simp [hi]
    have a2 : (l.toArray.toList.map fun o => (maskL (guardSlot l.toArray o ++ slotsOf o.op), maskL o.dst.toList))[k]? = some (maskL (guardSlot l.toArray ok ++ slotsOf ok.op), maskL ok.dst.toList) := by simp [hk]
    obtain ⟨b, hb, h5⟩ := stAll_spec hst.2 (by rw [ancs_len]; simp) i k _ _ hik a1 a2
    rcases h5 with h5 | h6
    · exact bit hb (by simpa using h5)
    · exfalso
      obtain ⟨h7, h8⟩ := or_zero h6
      rcases ht with ⟨ht, h9⟩ | ⟨ht, h9⟩
      · refine and_bit h7 (x := t) (maskL_mem (by simp [ht])) ?_
        rw [Nat.testBit_or, Bool.or_eq_true]
        rcases h9 with h9 | h9 | h9
        · exact .inr (maskL_mem (by simp [h9]))
        · exact .inl (maskL_mem (List.mem_append_left _ h9))
        · exact .inl (maskL_mem (List.mem_append_right _ h9))
      · refine and_bit h8 (x := t) (maskL_mem ?_) (maskL_mem (by simp [ht]))
        rcases h9 with h9 | h9
        · exact List.mem_append_left _ h9
        · exact List.mem_append_right _ h9
  · obtain ⟨o1, e1, _, q1, _⟩ := at_ i (by omega)
    obtain ⟨o2, e2, _, q2, _⟩ := at_ k hk
    rcases hp i k e1 e2 hik q1 q2 with q | q
    · exact bitD q
    · exact absurd ⟨tchV i e1 b q1 hi, tchV k e2 b q2 he⟩ (q.1 b)
structure FtV where
  n : Nat
  n' : Nat
  wr : List Nat
  rd : List Nat
def EnV.wr (e : EnV) : List Nat := match e.k with
  | .act _ R => R
  | _ => []
def EnV.ft (e : EnV) : FtV := ⟨e.n, e.n', e.wr, e.reads⟩
def AllAcc (f : Nat → FtV → Prop) : Nat → List FtV → Prop
  | _, [] => True
  | i, a :: acc => f i a ∧ AllAcc f (i + 1) acc
theorem allAcc_at {f : Nat → FtV → Prop} : ∀ {acc : List FtV} {i : Nat}, AllAcc f i acc → ∀ j a, acc[j]? = some a → f (i + j) a
  | [], i, _, j, a, h => by simp at h
  | a0 :: acc, i, hf, 0, a, h => by simp at h; subst h; exact hf.1
  | a0 :: acc, i, hf, j + 1, a, h => by
    have := allAcc_at hf.2 j a (by simpa using h)
    rwa [show i + 1 + j = i + (j + 1) by omega] at this
def IdOk (l : List Oper) (k n0 : Nat) (acc : List FtV) (id : Nat) : Prop := (id < n0 ∧ AllAcc (fun _ a => id ∉ a.wr) 0 acc) ∨ AllAcc (fun i a => ordB l i k = true ∨ (id ∉ a.wr ∧ ¬ (a.n ≤ id ∧ id < a.n'))) 0 acc
def OkV (l : List Oper) (k n0 : Nat) (acc : List FtV) (e : FtV) : Prop := (∀ id ∈ e.wr ++ e.rd, id < e.n ∧ IdOk l k n0 acc id) ∧ (e.wr = [] ∨ AllAcc (fun i a => ordB l i k = true ∨ ∀ id ∈ e.wr, id ∉ a.rd) 0 acc)
def ExecV (P : Program) (r : Option Nat) (ns : Nat) (l0 : List Oper) (n0 : Nat) : List Oper → Nat → St → List FtV → (Nat → St → Prop) → Prop
  | [], n, s, _, Q => Q n s
  | o :: l, n, s, acc, Q => ∃ e : EnV, e.n = n ∧ e.s = s ∧ EnVOk P r ns l0.toArray o e ∧ OkV l0 acc.length n0 acc e.ft ∧ ExecV P r ns l0 n0 l e.n' e.s' (acc ++ [e.ft]) Q
theorem EnVOk.le {ops : Array Oper} {o : Oper} {e : EnV} (h : EnVOk P r ns ops o e) : e.n ≤ e.n' := by
  have hk := h.k
  cases hek : e.k with
  | off => rw [hek] at hk; rw [hk.2.1]; exact Nat.le_refl _
  | pure x ids => rw [hek] at hk; rw [hk.2.2.1]; exact Nat.le_refl _
  | act y R => rw [hek] at hk; exact hk.2.2.1
theorem tch_iff {e : EnV} {b : Nat} (h : e.tch b) : b ∈ e.wr ∨ (e.n ≤ b ∧ b < e.n') := by
  unfold EnV.tch at h
  unfold EnV.wr
  split at h
  · exact h
  · exact h.elim
theorem free_of {l : List Oper} {k n0 : Nat} {acc : List FtV} {a e : EnV} {i : Nat} (ho : OkV l k n0 acc e.ft) (ha : acc[i]? = some a.ft) (h0 : n0 ≤ a.n) (h1 : a.n' ≤ e.n) (h9 : a.n ≤ a.n') (ht : ∀ id ∈ a.wr ++ a.reads, id < a.n) : ordB l i k = true ∨ FreeV a e := by
  cases hord : ordB l i k with
  | true => exact .inl rfl
  | false =>
    obtain ⟨o1, o2⟩ := ho
    have ids : ∀ id ∈ e.wr ++ e.reads, id ∉ a.wr ∧ ¬ (a.n ≤ id ∧ id < a.n') := fun id hid => by
      obtain ⟨_, q | q⟩ := o1 id hid
      · have h2 : id ∉ a.wr := allAcc_at q.2 i _ ha
        have h3 := q.1
        exact ⟨h2, by omega⟩
      · have := allAcc_at q i _ ha
        rw [Nat.zero_add] at this
        exact this.resolve_left (by rw [hord]; simp)
    refine .inr ⟨fun b ⟨t1, t2⟩ => ?_, fun id hid t1 => ?_, fun id hid t2 => ?_⟩
    · rcases tch_iff t2 with t2 | t2
      · obtain ⟨q1, q2⟩ := ids b (List.mem_append_left _ t2)
        exact (tch_iff t1).elim q1 q2
      · rcases tch_iff t1 with t1 | t1
        · have := ht b (List.mem_append_left _ t1)
          omega
        · omega
    · obtain ⟨q1, q2⟩ := ids id (List.mem_append_right _ hid)
      exact (tch_iff t1).elim q1 q2
    · have h4 := ht id (List.mem_append_right _ hid)
      rcases tch_iff t2 with t2 | t2
      · rcases o2 with o2 | o2
        · have o2 : e.wr = [] := o2
          rw [o2] at t2; cases t2
        · have := allAcc_at o2 i _ ha
          rw [Nat.zero_add] at this
          exact this.resolve_left (by rw [hord]; simp) id t2 hid
      · omega
theorem execV_chain {l0 : List Oper} {n0 : Nat} : ∀ (l : List Oper) (n : Nat) (s : St) (acc : List EnV) {Q : Nat → St → Prop}, (∀ a ∈ acc, n0 ≤ a.n ∧ a.n' ≤ n ∧ a.n ≤ a.n' ∧ ∀ id ∈ a.wr ++ a.reads, id < a.n) → n0 ≤ n → ExecV P r ns l0 n0 l n s (acc.map EnV.ft) Q → ∃ es nF sF, ChainV P r ns l0.toArray l es n s nF sF ∧ Q nF sF ∧ ∀ i k ei ek, i < k → acc.length ≤ k → (acc ++ es)[i]? = some ei → (acc ++ es)[k]? = some ek → ordB l0 i k = true ∨ FreeV ei ek
  | [], n, s, acc, Q, _, _, h => ⟨[], n, s, .nil n s, h, fun i k ei ek _ hk _ h2 => by rw [List.append_nil, List.getElem?_eq_none hk] at h2; cases h2⟩
  | o :: l, n, s, acc, Q, hacc, hn, ⟨e, h1, h2, h3, h4, h5⟩ => by
    subst h1
    subst h2
    have hle := h3.le
    obtain ⟨es, nF, sF, k1, k2, k3⟩ := execV_chain l e.n' e.s' (acc ++ [e]) (fun a ha => by
      rcases List.mem_append.1 ha with ha | ha
      · obtain ⟨q1, q2, q9, q3⟩ := hacc a ha
        exact ⟨q1, Nat.le_trans q2 hle, q9, q3⟩
      · rw [List.mem_singleton] at ha
        subst ha
        exact ⟨hn, Nat.le_refl _, hle, fun id hid => (h4.1 id hid).1⟩) (Nat.le_trans hn hle) (by rw [List.map_append]; exact h5)
    refine ⟨e :: es, nF, sF, .cons h3 k1, k2, fun i k ei ek hik hk hi hke => ?_⟩
    have e1 : acc ++ e :: es = (acc ++ [e]) ++ es := by simp
    rcases Nat.lt_or_ge acc.length k with h | h
    · rw [e1] at hi hke
      exact k3 i k ei ek hik (by simp; omega) hi hke
    · obtain rfl : k = acc.length := by omega
      rw [List.getElem?_append_right (Nat.le_refl _)] at hke
      simp at hke
      subst hke
      rw [List.getElem?_append_left hik] at hi
      obtain ⟨q1, q2, q9, q3⟩ := hacc ei (List.mem_of_getElem? hi)
      rw [List.length_map] at h4
      exact free_of h4 (by rw [List.getElem?_map, hi]; rfl) q1 q2 q9 q3
end Go.Proofs.Ytdkneonokbakjaa.Eng

noncomputable section
namespace Go.Proofs.Ytdkneonokbakjaa.Eng
open Go.RowKit
variable {P : Program} {T : Tab} {r : Option Nat} {ns : Nat}
def isPure : Op → Bool
  | .box .. | .alloc _ | .buildSlice .. | .makeSlice .. | .store .. => false
  | .call c => match c.callee with
    | .builtin .append => false
    | .builtin _ => true
    | _ => false
  | _ => true
theorem pure_run (hT : TabOk P T) {W0 : Fix} {R0 D : Nat → Prop} {s : St} {E : Env} {a : Act} {w : World} (h : Sim W0 R0 ns D s E a w) {o : Oper} {nid : Nat} {x : SV} (hp : isPure o.op = true) (hs : aop T s.mem nid (opd ns s) o.op = some { res := x }) : ∃ v, (execOp a.eval o).run P w = .ok (.value v) w ∧ Rep E w x v := by
  have hev : ∀ x v, opd ns s x = some v → Rep E w v (a.eval x) := fun x v hx => h.opd hx
  have fin : ∀ {r : SV}, aopR T s.mem (opd ns s) o.op = some r → ({ res := r } : Out) = { res := x } → ∃ v, (execOp a.eval o).run P w = .ok (.value v) w ∧ Rep E w x v := fun {r} hr e => by
    cases e
    exact aopR_run hT hev h.mem hr
  unfold aop at hs
  split at hs
  · rename_i ho; rw [ho] at hp; cases hp
  · rename_i ho; rw [ho] at hp; cases hp
  · rename_i t ps ho
    split at hs
    · rename_i i l hi hl
      split at hs
      · rename_i hkn
        rw [Option.map_eq_some_iff] at hs
        obtain ⟨c, hc, e⟩ := hs
        cases e
        obtain ⟨p1, p2⟩ := evParts_rep (w := w) (E := E) hev hl
        obtain ⟨z, hz, hr⟩ := build_run (w := w) (E := E) hT hi hkn (ps := ps.map fun (i, x) => (i, a.eval x)) (by simpa using p1) (fun j p q hp hq => p2 j p q hp (by simpa using hq)) hc
        exact ⟨z, by simp only [execOp, ho, Sem.run_bind, hz, Result.andThen_ok]; rfl, hr⟩
      · cases hs
    · cases hs
  · rename_i ho; rw [ho] at hp; cases hp
  · rename_i ho; rw [ho] at hp; cases hp
  · rename_i ho; rw [ho] at hp; cases hp
  · rename_i c ho
    split at hs
    · rename_i hc _ _
      rw [ho] at hp
      simp only [isPure, hc] at hp
      cases hp
    · rw [Option.map_eq_some_iff] at hs
      obtain ⟨r, hr, e⟩ := hs
      exact fin (by rw [ho]; exact hr) e
  · rw [Option.map_eq_some_iff] at hs
    obtain ⟨r, hr, e⟩ := hs
    exact fin hr e
section
variable {l0 : List Oper} {n0 : Nat} {o : Oper} {l : List Oper} {n : Nat} {s : St} {acc : List FtV} {Q : Nat → St → Prop}
theorem ExecV.pure (hT : TabOk P T) {x : SV} (hg : guardS l0.toArray ns s o = some true) (hp : isPure o.op = true) (hw : waits o.op = false) (hx : aop T s.mem n (opd ns s) o.op = some { res := x }) (hok : OkV l0 acc.length n0 acc ⟨n, n, [], idsRead s o.op⟩)
    (h : ExecV P r ns l0 n0 l n ⟨setSlot s.slots o.dst x, s.mem⟩ (acc ++ [⟨n, n, [], idsRead s o.op⟩]) Q) : ExecV P r ns l0 n0 (o :: l) n s acc Q :=
  ⟨⟨.pure x (idsRead s o.op), n, s, n, ⟨setSlot s.slots o.dst x, s.mem⟩, []⟩, rfl, rfl, ⟨⟨hg, fun s' D N _ hsl hme => by
    intro W0 R0 B E a w hin hs hd K1 Q' hK1
    have hst := step_local (P := P) ((step_plain (P := P) hw).2 hx) hsl hme (fun _ h => by cases h)
    obtain ⟨v, hr, hv⟩ := pure_run hT hs hp ((step_plain hw).1 hst)
    refine oper_in (noDefer_spec (aop_noDefer hx) List.mem_cons_self) ?_
    unfold Oper.wp
    rw [hr]
    exact hK1 E _ w (hs.put hd hv), rfl, rfl⟩⟩, hok, h⟩
open Classical in
theorem ExecV.new (hT : TabOk P T) {y : SV} {b : Blk} (hg : guardS l0.toArray ns s o = some true) (hw : waits o.op = false) (hx : aop T s.mem n (opd ns s) o.op = some { res := y, nw := some b }) (hok : OkV l0 acc.length n0 acc ⟨n, n + 1, [], idsRead s o.op⟩)
    (h : ExecV P r ns l0 n0 l (n + 1) ⟨setSlot s.slots o.dst y, setMem s.mem n (some b)⟩ (acc ++ [⟨n, n + 1, [], idsRead s o.op⟩]) Q) : ExecV P r ns l0 n0 (o :: l) n s acc Q :=
  ⟨⟨.act y [], n, s, n + 1, ⟨setSlot s.slots o.dst y, setMem s.mem n (some b)⟩, idsRead s o.op⟩, rfl, rfl, ⟨⟨hg, fun D s' hD hsl _ hrd => by
    intro W0 R0 B E a w hin hs hd K1 Q' hK1
    have hst := step_local (P := P) ((step_plain (P := P) hw).2 hx) hsl hrd (fun _ h => by cases h)
    have hDn : ¬ D n := fun h => hD n h ⟨Nat.le_refl _, Nat.lt_succ_self _⟩
    obtain ⟨E', w', h2, h3⟩ := aop_run hT hs hDn ((step_plain hw).1 hst)
    have hm : (fun i => if i ∈ ([] : List Nat) ∨ New n (n + 1) i then setMem s.mem n (some b) i else s'.mem i) = setMem s'.mem n (some b) := by
      funext i
      by_cases e : i = n
      · subst e; rw [if_pos (.inr ⟨Nat.le_refl _, Nat.lt_succ_self _⟩)]; simp [setMem]
      · rw [if_neg (fun h => h.elim (by simp) fun h => e (by have := h.1; have := h.2; omega))]; simp [setMem, e]
    have h4 : Sim W0 R0 ns (fun i => D i ∨ New n (n + 1) i) ⟨s'.slots, setMem s'.mem n (some b)⟩ E' a w' := h2.weak fun i hi => hi.elim (fun e => .inr (by subst e; exact ⟨Nat.le_refl _, Nat.lt_succ_self _⟩)) .inl
    refine oper_in (noDefer_spec (aop_noDefer hx) List.mem_cons_self) ?_
    unfold Oper.wp
    rcases h3 with ⟨v, hr, hv⟩ | ⟨hr, hu⟩
    · rw [hr]
      refine hK1 E' _ w' ?_
      rw [hm]
      exact h4.put hd hv
    · rw [hr]
      refine hK1 E' _ w' ?_
      rw [hm]
      have hu : y = .und := hu
      subst hu
      exact h4.put hd (Rep.und (E := E') (w := w') undef), Nat.le_succ _, rfl, fun i hi => by
    have e : ¬ i = n := fun e => hi (.inr (by subst e; exact ⟨Nat.le_refl _, Nat.lt_succ_self _⟩))
    simp [setMem, e]⟩⟩, hok, h⟩
open Classical in
theorem ExecV.store (hT : TabOk P T) {t : TypeId} {x y : Operand} {id : Nat} {b : Option Blk} (ho : o.op = .store t x y) (hg : guardS l0.toArray ns s o = some true) (hx : aop T s.mem n (opd ns s) o.op = some { res := .und, wr := some (id, b) }) (hok : OkV l0 acc.length n0 acc ⟨n, n, [id], idsRead s o.op⟩)
    (h : ExecV P r ns l0 n0 l n ⟨setSlot s.slots o.dst .und, setMem s.mem id b⟩ (acc ++ [⟨n, n, [id], idsRead s o.op⟩]) Q) : ExecV P r ns l0 n0 (o :: l) n s acc Q :=
  ⟨⟨.act .und [id], n, s, n, ⟨setSlot s.slots o.dst .und, setMem s.mem id b⟩, idsRead s o.op⟩, rfl, rfl, ⟨⟨hg, fun D s' hD hsl _ hrd => by
    intro W0 R0 B E a w hin hs hd K1 Q' hK1
    have hw : waits o.op = false := by rw [ho]; rfl
    have hst := step_local (P := P) ((step_plain (P := P) hw).2 hx) hsl hrd (fun _ h => by cases h)
    have hx' := (step_plain (P := P) hw).1 hst
    rw [ho] at hx'
    simp only [aop] at hx'
    split at hx'
    · rename_i i id' rr j v hi h1 h2
      have hr1 := hs.opd h1
      have hD1 : D id' := by
        obtain ⟨u, hu⟩ : ∃ u, a.eval x = u := ⟨_, rfl⟩
        rw [hu] at hr1
        cases hr1 with
        | ptr _ _ _ hd => exact hs.dom _ hd
      obtain ⟨E', w', q2, q3⟩ := store_run (nid := id') hT hs ho hi hr1 (hs.opd h2) hx'
      have hm : (fun i => if i ∈ [id] ∨ New n n i then setMem s.mem id b i else s'.mem i) = setMem s'.mem id b := by
        funext i
        by_cases e : i = id
        · subst e; rw [if_pos (.inl List.mem_cons_self)]; simp [setMem]
        · rw [if_neg (fun h => h.elim (fun h => e (List.mem_singleton.1 h)) fun h => by have := h.1; have := h.2; omega)]; simp [setMem, e]
      have q4 : Sim W0 R0 ns (fun i => D i ∨ New n n i) ⟨s'.slots, setMem s'.mem id b⟩ E' a w' := q2.weak fun i hi => hi.elim (fun e => .inl (e ▸ hD1)) .inl
      refine oper_in (noDefer_spec (aop_noDefer hx) List.mem_cons_self) ?_
      unfold Oper.wp
      rcases q3 with ⟨v, hr, hv⟩ | ⟨hr, hu⟩
      · rw [hr]
        refine hK1 E' _ w' ?_
        rw [hm]
        exact q4.put hd hv
      · rw [hr]
        refine hK1 E' _ w' ?_
        rw [hm]
        exact q4.put hd (Rep.und (E := E') (w := w') undef)
    · exact (by cases hx'), Nat.le_refl _, rfl, fun i hi => by
    have e : ¬ i = id := fun e => hi (.inl (by subst e; exact List.mem_cons_self))
    simp [setMem, e]⟩⟩, hok, h⟩
theorem ExecV.ro {f : FuncId} {svs : List SV} {d : Dat} {x : SV} (rds : List Nat) (hc : RCall P f svs d (only s.mem rds)) (hxd : toD3 x = some d) (hg : guardS l0.toArray ns s o = some true) (h1 : calleeS ns s o.op = some (f, svs)) (hok : OkV l0 acc.length n0 acc ⟨n, n, [], rds⟩)
    (h : ExecV P r ns l0 n0 l n ⟨setSlot s.slots o.dst x, s.mem⟩ (acc ++ [⟨n, n, [], rds⟩]) Q) : ExecV P r ns l0 n0 (o :: l) n s acc Q :=
  ⟨⟨.pure x rds, n, s, n, ⟨setSlot s.slots o.dst x, s.mem⟩, []⟩, rfl, rfl, ⟨⟨hg, fun s' D N hD hsl hme => stepD_ro hc hD (by
    rw [← h1]
    exact calleeS_congr fun x hx => opd_congr fun t ht => hsl t (mem_slotsOf (ht ▸ hx))) (fun i b hb => by
    unfold only at hb
    split at hb
    · rename_i hm
      exact (hme i hm).trans hb
    · cases hb) hxd, rfl, rfl⟩⟩, hok, h⟩
open Classical in
theorem ExecV.calln {f : FuncId} {svs : List SV} {y : SV} {mq m' : Mem} {n' : Nat} (rds : List Nat) (hc : NCall P f svs (only s.mem rds) n n' y mq) (hn : n ≤ n') (hr : ∀ i ∈ rds, (s.mem i).isSome = true ∧ mq i = s.mem i) (hm : ∀ i, (New n n' i → m' i = mq i) ∧ (¬ New n n' i → m' i = s.mem i)) (hg : guardS l0.toArray ns s o = some true) (h1 : calleeS ns s o.op = some (f, svs)) (hok : OkV l0 acc.length n0 acc ⟨n, n', [], rds⟩)
    (h : ExecV P r ns l0 n0 l n' ⟨setSlot s.slots o.dst y, m'⟩ (acc ++ [⟨n, n', [], rds⟩]) Q) : ExecV P r ns l0 n0 (o :: l) n s acc Q :=
  ⟨⟨.act y [], n, s, n', ⟨setSlot s.slots o.dst y, m'⟩, rds⟩, rfl, rfl, ⟨⟨hg, fun D s' hD hsl _ hrd => by
    have hs := stepD_call (r := r) (ns := ns) hc (D := D) (s' := s') (o := o) hD (by
      rw [← h1]
      exact calleeS_congr fun x hx => opd_congr fun t ht => hsl t (mem_slotsOf (ht ▸ hx))) (fun i b hb => by
      unfold only at hb
      split at hb
      · rename_i hm
        exact (hrd i hm).trans hb
      · cases hb)
    have e : behind s'.mem (only s.mem rds) mq n n' = fun i => if i ∈ ([] : List Nat) ∨ New n n' i then m' i else s'.mem i := by
      funext i
      unfold behind
      by_cases hw : New n n' i
      · rw [if_pos (.inr hw), if_pos (.inr hw), (hm i).1 hw]
      · rw [if_neg (show ¬ (i ∈ ([] : List Nat) ∨ New n n' i) from fun h => h.elim (by simp) hw)]
        by_cases hi : i ∈ rds
        · rw [if_pos (.inl (by simp only [only, if_pos hi]; exact (hr i hi).1)), (hr i hi).2]
          exact (hrd i hi).symm
        · rw [if_neg (fun h => h.elim (by simp [only, hi]) hw)]
    rw [e] at hs
    exact hs, hn, rfl, fun i hi => (hm i).2 fun h => hi (.inr h)⟩⟩, hok, h⟩
theorem ExecV.off (hg : guardS l0.toArray ns s o = some false) (h : ExecV P r ns l0 n0 l n ⟨setSlot s.slots o.dst (.tup []), s.mem⟩ (acc ++ [⟨n, n, [], []⟩]) Q) : ExecV P r ns l0 n0 (o :: l) n s acc Q :=
  ⟨⟨.off, n, s, n, ⟨setSlot s.slots o.dst (.tup []), s.mem⟩, []⟩, rfl, rfl, ⟨⟨hg, rfl, rfl⟩⟩, ⟨fun _ h => (by cases h), .inl rfl⟩, h⟩
end
end Go.Proofs.Ytdkneonokbakjaa.Eng

noncomputable section
namespace Go.Proofs.Ytdkneonokbakjaa.Eng
open Go.RowKit
variable {P : Program} {T : Tab} {r : Option Nat} {ns : Nat}
def kindV (op : Op) (out : Out) (Kp : SV → Prop) (Kn : SV → Blk → Prop) (Ks : Nat → Option Blk → Prop) : Prop :=
  match isPure op, out.frz, out.wr, out.nw, out.rds with
  | true, [], none, none, [] => Kp out.res
  | false, [], none, some b, [] => Kn out.res b
  | false, [], some (id, b), none, [] => (out.res = .und ∧ ∃ t x y, op = .store t x y) ∧ Ks id b
  | _, _, _, _, _ => False
section
variable {l0 : List Oper} {n0 : Nat} {o : Oper} {l : List Oper} {n : Nat} {s : St} {acc : List FtV} {Q : Nat → St → Prop}
def ExecVW (P : Program) (r : Option Nat) (ns : Nat) (l0 : List Oper) (n0 : Nat) (l : List Oper) (n : Nat) (s : St) (acc : List FtV) (Q : Nat → St → Prop) : Prop := ExecV P r ns l0 n0 l n s acc Q
theorem ExecV.auto (hT : TabOk P T) (h : match guardS l0.toArray ns s o, waits o.op with
    | some true, false => match aop T s.mem n (opd ns s) o.op with
      | some out => kindV o.op out
          (fun x => OkV l0 acc.length n0 acc ⟨n, n, [], idsRead s o.op⟩ ∧ ExecV P r ns l0 n0 l n ⟨setSlot s.slots o.dst x, s.mem⟩ (acc ++ [⟨n, n, [], idsRead s o.op⟩]) Q)
          (fun y b => OkV l0 acc.length n0 acc ⟨n, n + 1, [], idsRead s o.op⟩ ∧ ExecV P r ns l0 n0 l (n + 1) ⟨setSlot s.slots o.dst y, setMem s.mem n (some b)⟩ (acc ++ [⟨n, n + 1, [], idsRead s o.op⟩]) Q)
          (fun id b => OkV l0 acc.length n0 acc ⟨n, n, [id], idsRead s o.op⟩ ∧ ExecV P r ns l0 n0 l n ⟨setSlot s.slots o.dst .und, setMem s.mem id b⟩ (acc ++ [⟨n, n, [id], idsRead s o.op⟩]) Q)
      | none => False
    | some false, _ => ExecV P r ns l0 n0 l n ⟨setSlot s.slots o.dst (.tup []), s.mem⟩ (acc ++ [⟨n, n, [], []⟩]) Q
    | _, _ => ExecVW P r ns l0 n0 (o :: l) n s acc Q) : ExecV P r ns l0 n0 (o :: l) n s acc Q := by
  split at h
  · rename_i hg hw
    split at h
    · rename_i out hx
      obtain ⟨res, frz, wr, nw, rds⟩ := out
      unfold kindV at h
      split at h
      · rename_i hp h1 h2 h3 h4
        simp only at h1 h2 h3 h4
        subst h1; subst h2; subst h3; subst h4
        exact ExecV.pure hT hg hp hw hx h.1 h.2
      · rename_i b hp h1 h2 h3 h4
        simp only at h1 h2 h3 h4
        subst h1; subst h2; subst h3; subst h4
        exact ExecV.new hT hg hw hx h.1 h.2
      · rename_i id b hp h1 h2 h3 h4
        simp only at h1 h2 h3 h4
        subst h1; subst h2; subst h3; subst h4
        obtain ⟨⟨hu, t, x, y, ho⟩, h5, h6⟩ := h
        have hu : res = .und := hu
        subst hu
        exact ExecV.store hT ho hg hx h5 h6
      · exact h.elim
    · exact h.elim
  · rename_i hg; exact ExecV.off hg h
  · exact h
@[simp] theorem OkV_nil {k n' : Nat} : OkV l0 k n0 acc ⟨n, n', [], []⟩ = True := by
  simp only [eq_iff_iff, iff_true]
  exact ⟨fun _ h => (by cases h), .inl rfl⟩
theorem OkV_old {k n' : Nat} {rd : List Nat} (h1 : ∀ id ∈ rd, id < n0) (hn : n0 ≤ n) (h2 : AllAcc (fun _ a => a.wr = []) 0 acc) : OkV l0 k n0 acc ⟨n, n', [], rd⟩ := by
  refine ⟨fun id hid => ?_, .inl rfl⟩
  have h3 := h1 id (by simpa using hid)
  refine ⟨Nat.lt_of_lt_of_le h3 hn, .inl ⟨h3, ?_⟩⟩
  have gen : ∀ (l : List FtV) (i : Nat), AllAcc (fun _ a => a.wr = []) i l → AllAcc (fun _ a => id ∉ a.wr) i l := by
    intro l
    induction l with
    | nil => intro i _; trivial
    | cons a l ih => intro i h; exact ⟨by have h1 : a.wr = [] := h.1; show id ∉ a.wr; rw [h1]; simp, ih _ h.2⟩
  exact gen acc 0 h2
def putN (m : Mem) (n n' : Nat) (q : Mem) : Mem := fun i => if n ≤ i ∧ i < n' then q i else m i
@[simp] theorem putN_at {m q : Mem} {n n' i : Nat} : putN m n n' q i = if n ≤ i ∧ i < n' then q i else m i := rfl
open Classical in
theorem ExecV.callP {f : FuncId} {svs : List SV} {y : SV} {mq : Mem} {n' : Nat} (rds : List Nat) (hc : NCall P f svs (only s.mem rds) n n' y mq) (hn : n ≤ n') (hr : ∀ i ∈ rds, (s.mem i).isSome = true ∧ mq i = s.mem i) (hg : guardS l0.toArray ns s o = some true) (h1 : calleeS ns s o.op = some (f, svs)) (hok : OkV l0 acc.length n0 acc ⟨n, n', [], rds⟩)
    (h : ExecV P r ns l0 n0 l n' ⟨setSlot s.slots o.dst y, putN s.mem n n' mq⟩ (acc ++ [⟨n, n', [], rds⟩]) Q) : ExecV P r ns l0 n0 (o :: l) n s acc Q :=
  ExecV.calln rds hc hn hr (fun i => ⟨fun hi => if_pos ⟨hi.1, hi.2⟩, fun hi => if_neg fun h => hi ⟨h.1, h.2⟩⟩) hg h1 hok h
end
theorem NCall.of {f : FuncId} {svs : List SV} {n : Nat} {m0 : Mem} {n1 : Nat} {y0 : SV} {mq : Mem} (h : CWp P f svs n m0 fun y n' m' => y0 = y ∧ n1 = n' ∧ mq = m') (hlt : ∀ i b, m0 i = some b → i < n) (hm0 : ∀ i b, m0 i = some b → OfB (fun i => (m0 i).isSome = true) b) (hargs : ∀ x ∈ svs, Of (fun i => (m0 i).isSome = true) x)
    (hq : ∀ i b, mq i = some b → ((m0 i).isSome = true ∨ New n n1 i) ∧ OfB (fun i => (m0 i).isSome = true ∨ New n n1 i) b) (hy : Of (fun i => (m0 i).isSome = true ∨ New n n1 i) y0) : NCall P f svs m0 n n1 y0 mq := ncall_ofM h hlt hm0 hargs hq hy
end Go.Proofs.Ytdkneonokbakjaa.Eng
