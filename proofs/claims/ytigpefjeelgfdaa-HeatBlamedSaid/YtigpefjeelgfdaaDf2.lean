/-
  A part of the texts that the claim builds on: see the last one.
-/
import Derived.Test.YtigpefjeelgfdaaDf1
import Derived.Laws.StructEq
import Derived.Test.YtigpefjeelgfdaaProg
import Derived.Test.YtigpefjeelgfdaaRows
import Derived.Outline
import Derived.LoopTactic
import Derived.Deep.RegionHeld3
import Derived.StillTailTactics
import Derived.BigRegion
set_option linter.unusedSimpArgs false
set_option linter.unusedVariables false
/-
  The engine, part L: calls; one operation in a state; a list of operations in the order of the text. No program is named here.
-/
namespace Go.Proofs.Ytigpefjeelgfdaa.Eng
open Go.RowKit
variable {P : Program} {T : Tab} {W0 : Fix} {R0 : Nat → Prop} {ns : Nat} {D : Nat → Prop} {s : St} {E : Env} {a : Act} {w : World}

/-- A call of this function is a call. -/
def Callable (P : Program) (f : FuncId) : Prop := ∀ (args : Array Value) (w : World), (callFunc f args).run P w = .ok (.enter f args) w
theorem callable_of {P : Program} {f : FuncId} {fn : Func} (h : P.funcs[f]? = some fn) (hn : (fn.name == "runtime.NumGoroutine") = false) (hb : fn.body.isNone = false) : Callable P f := fun args w => by
  unfold callFunc
  simp only [Sem.run_bind, run_program, Result.andThen_ok, h, hn, hb, Bool.false_eq_true, if_false]
  rfl
/-- Called with values that say these data, it returns one that says that, in memory that nobody writes any more, and leaves all else as it is. -/
structure ACall (P : Program) (f : FuncId) (args : List Dat) (r : Dat) : Prop where
  callable : Callable P f
  calls : ∀ (ro : Nat → Prop) (w : World) (vs : Array Value), (∀ b, ro b → b < w.heap.size) → vs.size = args.length → (∀ (i : Nat) d v, args[i]? = some d → vs[i]? = some v → RepD ro w d v) →
    Calls P f vs w fun e w' => ∃ v, e = .returned v ∧ Below w.heap.size w w' ∧ RepD (fun b => ro b ∨ (w.heap.size ≤ b ∧ b < w'.heap.size)) w' r v

def escAll (m : Nat → Option Blk) : List SV → Option (List Dat × List Nat)
  | [] => some ([], [])
  | x :: l => match esc m x, escAll m l with
    | some (d, i), some (ds, is) => some (d :: ds, i ++ is)
    | _, _ => none
theorem escAll_ids {m : Nat → Option Blk} : ∀ {l : List SV} {ds : List Dat} {is : List Nat}, escAll m l = some (ds, is) → ∀ i ∈ is, ∃ t z rows f, m i = some (.row t z rows f)
  | [], ds, is, h => by cases h; simp
  | x :: l, ds, is, h => by
    simp only [escAll] at h
    split at h
    · rename_i h1 h2
      cases h
      intro i hi
      rcases List.mem_append.1 hi with hi | hi
      · exact esc_ids h1 i hi
      · exact escAll_ids h2 i hi
    · cases h
theorem escAll_rep {E : Env} {w : World} {m m0 : Nat → Option Blk} (hm : ∀ i t z rows f, m0 i = some (.row t z rows f) → ∃ f', m i = some (.row t z rows f'))
    (hl : ∀ i b, m i = some b → Holds E w (E.home i) b) : ∀ {xs : List SV} {ds : List Dat} {is : List Nat}, escAll m0 xs = some (ds, is) → (∀ i ∈ is, E.ro (E.home i).blk) →
    ds.length = xs.length ∧ ∀ (j : Nat) x d v, xs[j]? = some x → ds[j]? = some d → Rep E w x v → RepD E.ro w d v
  | [], ds, is, h, _ => by cases h; exact ⟨rfl, by simp⟩
  | x :: l, ds, is, h, hr => by
    simp only [escAll] at h
    split at h
    · rename_i d i ds' is' h1 h2
      cases h
      obtain ⟨k1, k2⟩ := escAll_rep hm hl h2 fun i hi => hr i (List.mem_append_right _ hi)
      refine ⟨by simp [k1], fun j y e v hy he hv => ?_⟩
      match j with
      | 0 =>
        simp only [List.getElem?_cons_zero, Option.some.injEq] at hy he
        subst hy; subst he
        exact esc_rep h1 hm hl (fun i hi => hr i (List.mem_append_left _ hi)) hv
      | j + 1 =>
        simp only [List.getElem?_cons_succ] at hy he
        exact k2 j y e v hy he hv
    · cases h
/-- Which function an operation calls, if it does. -/
def fnOf : Op → Option (FuncId × List Operand)
  | .call c => match c.callee with
    | .value (.func f) => some (f, c.args.toList)
    | _ => none
  | _ => none
def StepF (P : Program) (ev : Operand → Option SV) (m : Nat → Option Blk) (f : FuncId) (args : List Operand) (out : Out) : Prop :=
  ∃ svs ds is r, evList ev args = some svs ∧ escAll m svs = some (ds, is) ∧ ACall P f ds r ∧ out = { res := .d r, frz := is }
/-- One operation in a state. -/
def Step (P : Program) (T : Tab) (ns nid : Nat) (s : St) (o : Op) (out : Out) : Prop :=
  match fnOf o with
  | some (f, args) => StepF P (opd ns s) s.mem f args out
  | none => aop T s.mem nid (opd ns s) o = some out
def putS (s : St) (nid : Nat) (d : Option Tmp) (out : Out) : St := { slots := setSlot s.slots d out.res, mem := memApp s.mem nid out }

theorem fnOf_eq {o : Op} {f : FuncId} {args : List Operand} (h : fnOf o = some (f, args)) : ∃ c, o = .call c ∧ c.callee = .value (.func f) ∧ c.args.toList = args := by
  unfold fnOf at h
  split at h
  · rename_i c
    split at h
    · rename_i hc; cases h; exact ⟨c, rfl, hc, rfl⟩
    · cases h
  · cases h
/-- One operation does what is told of it: the walk goes on from there. -/
theorem step_wp (hT : TabOk P T) (h : Sim W0 R0 ns D s E a w) {nid : Nat} (hD : ¬ D nid) {o : Oper} (hd : ∀ t, o.dst = some t → t < ns) {out : Out} (hs : Step P T ns nid s o.op out) {K : Act → World → Prop} {Q : Exit → Act → World → Prop}
    (hK : ∀ E' a' w', Sim W0 R0 ns (fun k => k = nid ∨ D k) (putS s nid o.dst out) E' a' w' → K a' w') : o.wp P a w K Q := by
  unfold Step at hs
  split at hs
  · rename_i f args hf
    obtain ⟨c, ho, hc, ha⟩ := fnOf_eq hf
    obtain ⟨svs, ds, is, r, h1, h2, h3, rfl⟩ := hs
    obtain ⟨E1, e1, e2, e3, e4, e5⟩ := h.freezes is (escAll_ids h2)
    obtain ⟨p1, p2⟩ := evList_rep (w := w) (E := E) (ev := opd ns s) (ρ := a.eval) (fun x v hx => h.opd hx) h1
    obtain ⟨q1, q2⟩ := escAll_rep (m0 := s.mem) (m := frzM s.mem is) (fun i t z rows f hh => frzM_row hh) (fun i b hb => e2.mem i b hb) h2 e3
    have hex : (execOp a.eval o).run P w = .ok (.enter f (c.args.map a.eval)) w := by
      have hcc := h3.callable (c.args.map a.eval) w
      simp only [execOp, ho, resolve, hc, Act.eval, Deferred.ofValue, invoke, Sem.run_bind, Sem.run_pure, Result.andThen_ok, Array.append_empty, Array.empty_append]
      exact hcc
    unfold Oper.wp
    rw [hex, Oper.upon_enter]
    refine (h3.calls E1.ro w (c.args.map a.eval) e2.rlt (by simp; have := congrArg List.length ha; simp at this; omega) fun i d v hd hv => ?_).mono ?_
    · have hi : i < svs.length := by have := (List.getElem?_eq_some_iff.1 hd).1; omega
      refine q2 i svs[i] d v (List.getElem?_eq_getElem hi) hd ((p2 i svs[i] v (List.getElem?_eq_getElem hi) ?_).keep e1 fun _ _ => rfl)
      rw [← ha]
      simpa using hv
    · rintro e w' ⟨v, rfl, hb, hr⟩
      let E2 : Env := { E1 with ro := fun b => E1.ro b ∨ (w.heap.size ≤ b ∧ b < w'.heap.size) }
      have hE : E1.le E2 := ⟨fun _ h => .inl h, fun _ h => h, fun _ _ => rfl⟩
      have h4 := e2.later (E' := E2) (D' := fun k => k = nid ∨ D k) (e2.kept hb) hE (fun b hb' => hb.block b (e2.rlt b hb')) (fun i b hi => hb.block _ (e2.mem i b hi).lt) (fun b hb' => by
        rcases hb' with h' | ⟨h1, h2⟩
        · exact .inl h'
        · exact .inr ⟨h.fresh h1, h2, fun i c hi e => by have := (e2.mem i c hi).lt; omega⟩) (fun i hi => .inr (e2.dom i hi))
      exact hK E2 _ w' (h4.put hd (.d _ _ hr))
  · obtain ⟨E', w', h1, h2⟩ := aop_run hT h hD hs
    unfold Oper.wp
    rcases h2 with ⟨v, hr, hv⟩ | ⟨hr, hu⟩
    · rw [hr]
      exact hK E' _ w' (h1.put hd hv)
    · rw [hr]
      have := h1.put hd (Rep.und (E := E') (w := w') undef)
      unfold putS at hK
      rw [hu] at hK
      exact hK E' _ w' this

def dstOk (ns : Nat) : Option Nat → Bool
  | none => true
  | some t => decide (t < ns)
/-- Whether an operation is wanted. -/
def guardS (ops : Array Oper) (ns : Nat) (s : St) (o : Oper) : Option Bool :=
  if dstOk ns o.dst = true then match o.guard with
  | none => some true
  | some (j, want) => match (ops[j]?).bind (·.dst) with
    | some t => if t < ns then match s.slots t with
      | .d (.val (.bool b)) => some (b == want)
      | _ => none
      else none
    | none => none
  else none
theorem guardS_dst {ops : Array Oper} {ns : Nat} {s : St} {o : Oper} {b : Bool} (h : guardS ops ns s o = some b) : ∀ t, o.dst = some t → t < ns := fun t ht => by
  unfold guardS at h
  split at h
  · rename_i hd; rw [ht] at hd; exact of_decide_eq_true hd
  · cases h
theorem guard_ok (h : Sim W0 R0 ns D s E a w) {ops : Array Oper} {o : Oper} {b : Bool} (hg : guardS ops ns s o = some b) : Region.wanted o (yielded ops a.tmps) = b := by
  unfold guardS at hg
  rw [if_pos (by by_cases hd : dstOk ns o.dst = true; exact hd; rw [if_neg hd] at hg; cases hg)] at hg
  unfold Region.wanted
  split at hg
  · rename_i hgd; rw [hgd]; cases hg; rfl
  · rename_i j want hgd
    rw [hgd]
    split at hg
    · rename_i t ht
      split at hg
      · rename_i hlt
        split at hg
        · rename_i b' hs
          cases hg
          have hr := h.slot t
          rw [if_pos hlt] at hr
          rw [hs] at hr
          have := rep_bool hr
          have ht' : a.tmps[t]? = some (.bool b') := by
            have hl : t < a.tmps.size := by rw [h.size]; exact hlt
            simp [hl] at this
            simp [hl, this]
          simp only [yielded, ht, Option.bind_some, ht']
          cases b' <;> cases want <;> rfl
        · cases hg
      · cases hg
    · cases hg

/-- The operations one behind the other, in the order of the text; the log says what each one reads and writes (a slot t as 2 * t, a block i as 2 * i + 1). -/
structure Foot where
  rd : List Nat
  wr : List Nat
def idsOf1 : SV → List Nat
  | .own id _ _ => [id]
  | .lin id _ => [id]
  | .ptr id _ _ => [id]
  | _ => []
def idsOf : SV → List Nat
  | .agg cs => cs.flatMap idsOf1
  | x => idsOf1 x
def slotsOf (o : Op) : List Nat := o.operands.toList.filterMap fun
  | .tmp t => some t
  | _ => none
def looks : Op → Bool
  | .load .. | .store .. | .buildSlice .. | .call _ => true
  | _ => false
def idsRead (s : St) (o : Op) : List Nat := if looks o then (slotsOf o).flatMap fun t => idsOf (s.slots t) else []
def guardSlot (ops : Array Oper) (o : Oper) : List Nat := match o.guard with
  | none => []
  | some (j, _) => ((ops[j]?).bind (·.dst)).toList
def idsWritten (nid : Nat) (out : Out) : List Nat := out.frz ++ (match out.wr with | none => [] | some (i, _) => [i]) ++ (match out.nw with | none => [] | some _ => [nid])
def footOf (ops : Array Oper) (nid : Nat) (s : St) (o : Oper) (out : Option Out) : Foot :=
  { rd := (guardSlot ops o).map (2 * ·) ++ (match out with | none => [] | some _ => (slotsOf o.op).map (2 * ·) ++ (idsRead s o.op).map (2 * · + 1)),
    wr := o.dst.toList.map (2 * ·) ++ (match out with | none => [] | some x => (idsWritten nid x).map (2 * · + 1)) }
def Exec (P : Program) (T : Tab) (ops : Array Oper) (ns : Nat) : Nat → List Oper → St → List Foot → (St → List Foot → Prop) → Prop
  | _, [], s, log, Q => Q s log
  | nid, o :: l, s, log, Q => match guardS ops ns s o with
    | some true => ∃ out, Step P T ns nid s o.op out ∧ Exec P T ops ns (nid + 1) l (putS s nid o.dst out) (log ++ [footOf ops nid s o (some out)]) Q
    | some false => Exec P T ops ns (nid + 1) l { s with slots := setSlot s.slots o.dst .und } (log ++ [footOf ops nid s o none]) Q
    | none => False

theorem exec_list (hT : TabOk P T) {ops : Array Oper} {Q : Exit → Act → World → Prop} : ∀ (l : List Oper) (nid : Nat) {s : St} {E : Env} {a : Act} {w : World} {log : List Foot} {Q' : St → List Foot → Prop}, Exec P T ops ns nid l s log Q' →
    Sim W0 R0 ns (· < nid) s E a w → (∀ s' E' a' w' log', Sim W0 R0 ns (· < nid + l.length) s' E' a' w' → Q' s' log' → Q .normal a' w') → wpList P ops Q l a w
  | [], nid, s, E, a, w, log, Q', h, hs, hQ => hQ s E a w log hs h
  | o :: l, nid, s, E, a, w, log, Q', h, hs, hQ => by
    simp only [Exec] at h
    refine wpList_step fun K hK => ?_
    split at h
    · rename_i hg
      rw [guard_ok hs hg, if_pos rfl]
      obtain ⟨out, h1, h2⟩ := h
      refine step_wp hT hs (nid := nid) (by omega) (guardS_dst hg) h1 fun E' a' w' hs' => hK _ _ ?_
      refine exec_list hT l (nid + 1) h2 (hs'.weak fun i hi => by omega) fun s' E' a' w' log' hs2 hq => hQ s' E' a' w' log' ?_ hq
      rw [List.length_cons, show nid + (l.length + 1) = nid + 1 + l.length by omega]
      exact hs2
    · rename_i hg
      rw [guard_ok hs hg, if_neg (by simp)]
      refine hK _ _ (exec_list hT l (nid + 1) h ((hs.put (guardS_dst hg) (.und undef)).weak fun i hi => by omega) fun s' E' a' w' log' hs2 hq => hQ s' E' a' w' log' ?_ hq)
      rw [List.length_cons, show nid + (l.length + 1) = nid + 1 + l.length by omega]
      exact hs2
    · exact h.elim
end Go.Proofs.Ytigpefjeelgfdaa.Eng

/-
  The engine, part M: an operation looks at no more than its log says. No program is named here.
-/
namespace Go.Proofs.Ytigpefjeelgfdaa.Eng
open Go.RowKit
variable {P : Program} {T : Tab} {ns : Nat}

theorem evParts_congr {ev ev' : Operand → Option SV} : ∀ {l : List (Nat × Operand)}, (∀ p ∈ l, ev' p.2 = ev p.2) → evParts ev' l = evParts ev l
  | [], _ => rfl
  | (k, x) :: l, h => by
    simp only [evParts, h (k, x) List.mem_cons_self, evParts_congr fun p hp => h p (List.mem_cons_of_mem _ hp)]
theorem evList_congr {ev ev' : Operand → Option SV} : ∀ {l : List Operand}, (∀ p ∈ l, ev' p = ev p) → evList ev' l = evList ev l
  | [], _ => rfl
  | x :: l, h => by
    simp only [evList, h x List.mem_cons_self, evList_congr fun p hp => h p (List.mem_cons_of_mem _ hp)]
theorem call_congr {m : Nat → Option Blk} {nid : Nat} {ev ev' : Operand → Option SV} (c : Call) (h : ∀ x ∈ c.args.toList, ev' x = ev x) : aop T m nid ev' (.call c) = aop T m nid ev (.call c) := by
  have h1 : aopR T m ev' (.call c) = aopR T m ev (.call c) := by
    simp only [aopR]
    split
    · rename_i x t hc ha ht; rw [h x (by rw [ha]; simp)]
    · rename_i x y hc ha; rw [h x (by rw [ha]; simp), h y (by rw [ha]; simp)]
    · rename_i x y hc ha; rw [h x (by rw [ha]; simp), h y (by rw [ha]; simp)]
    · rfl
  simp only [aop]
  split
  · rename_i sx x t t' hc ha ht
    rw [h sx (by rw [ha]; simp), h x (by rw [ha]; simp)]
  · rw [h1]
theorem aop_congr {m : Nat → Option Blk} {nid : Nat} {ev ev' : Operand → Option SV} (o : Op) (h : ∀ x ∈ o.operands.toList, ev' x = ev x) : aop T m nid ev' o = aop T m nid ev o := by
  cases o with
  | call c =>
    refine call_congr c fun x hx => h x ?_
    simp only [Op.operands, Call.operands, Array.toList_append, List.mem_append]
    exact .inr hx
  | build t ps =>
    have : evParts ev' ps.toList = evParts ev ps.toList := evParts_congr fun p hp => h p.2 (by simp only [Op.operands]; exact List.mem_map_of_mem hp)
    simp only [aop, this]
  | buildSlice t n ps =>
    have : evParts ev' ps.toList = evParts ev ps.toList := evParts_congr fun p hp => h p.2 (by simp only [Op.operands]; exact List.mem_map_of_mem hp)
    simp only [aop, this]
  | slice t x lo hi mx =>
    have h0 := h x (by simp [Op.operands])
    cases mx with
    | some m =>
      have hm := h m (by simp [Op.operands])
      cases lo with
      | none =>
        cases hi with
        | none => simp only [aop, aopR]
        | some hh => have h2 := h hh (by simp [Op.operands]); simp only [aop, aopR, h0, h2, hm]
      | some l => simp only [aop, aopR]
    | none =>
      cases lo with
      | none =>
        cases hi with
        | none => simp only [aop, aopR, h0]
        | some hh => have h2 := h hh (by simp [Op.operands]); simp only [aop, aopR, h0, h2]
      | some l =>
        have h1 := h l (by simp [Op.operands])
        cases hi with
        | none => simp only [aop, aopR, h0, h1]
        | some hh => have h2 := h hh (by simp [Op.operands]); simp only [aop, aopR, h0, h1, h2]
  | pick c x y => have h0 := h c (by simp [Op.operands]); have h1 := h x (by simp [Op.operands]); have h2 := h y (by simp [Op.operands]); simp only [aop, aopR, h0, h1, h2]
  | binOp op t x y yt => have h0 := h x (by simp [Op.operands]); have h1 := h y (by simp [Op.operands]); simp only [aop, aopR, h0, h1]
  | indexAddr t x y => have h0 := h x (by simp [Op.operands]); have h1 := h y (by simp [Op.operands]); simp only [aop, aopR, h0, h1]
  | index t x y => have h0 := h x (by simp [Op.operands]); have h1 := h y (by simp [Op.operands]); simp only [aop, aopR, h0, h1]
  | makeSlice t x y => have h0 := h x (by simp [Op.operands]); have h1 := h y (by simp [Op.operands]); simp only [aop, h0, h1]
  | store t x y => have h0 := h x (by simp [Op.operands]); have h1 := h y (by simp [Op.operands]); simp only [aop, h0, h1]
  | move x => have h0 := h x (by simp [Op.operands]); simp only [aop, aopR, h0]
  | assign x => have h0 := h x (by simp [Op.operands]); simp only [aop, aopR, h0]
  | unOp op t x => have h0 := h x (by simp [Op.operands]); simp only [aop, aopR, h0]
  | convert s d x => have h0 := h x (by simp [Op.operands]); simp only [aop, aopR, h0]
  | nilCheck x => have h0 := h x (by simp [Op.operands]); simp only [aop, aopR, h0]
  | fieldAddr s x f => have h0 := h x (by simp [Op.operands]); simp only [aop, aopR, h0]
  | field s x f => have h0 := h x (by simp [Op.operands]); simp only [aop, aopR, h0]
  | extract x i => have h0 := h x (by simp [Op.operands]); simp only [aop, aopR, h0]
  | load t x => have h0 := h x (by simp [Op.operands]); simp only [aop, aopR, h0]
  | box e x => have h0 := h x (by simp [Op.operands]); simp only [aop, h0]
  | makeFunc fn first captured =>
    have h0 : evList ev' first.toList = evList ev first.toList := evList_congr fun x hx => h x (by simp only [Op.operands, Array.toList_append, List.mem_append]; exact .inl hx)
    have h1 : evList ev' captured.toList = evList ev captured.toList := evList_congr fun x hx => h x (by simp only [Op.operands, Array.toList_append, List.mem_append]; exact .inr hx)
    cases fn <;> simp only [aop, aopR, h0, h1]
  | _ => simp only [aop, aopR]

/-! ### Memory -/
theorem esc1_congr {m m' : Nat → Option Blk} {x : SV} (h : ∀ i ∈ idsOf1 x, m' i = m i) : esc1 m' x = esc1 m x := by
  cases x <;> simp only [esc1]
  rename_i id n z
  rw [h id (by simp [idsOf1])]
theorem escL_congr {m m' : Nat → Option Blk} : ∀ {l : List SV}, (∀ x ∈ l, ∀ i ∈ idsOf1 x, m' i = m i) → escL m' l = escL m l
  | [], _ => rfl
  | x :: l, h => by
    simp only [escL, esc1_congr (h x List.mem_cons_self), escL_congr fun y hy => h y (List.mem_cons_of_mem _ hy)]
theorem idsOf_one {x : SV} (h : ∀ cs, x ≠ .agg cs) : idsOf x = idsOf1 x := by
  cases x <;> first | rfl | exact absurd rfl (h _)
theorem esc_congr {m m' : Nat → Option Blk} {x : SV} (h : ∀ i ∈ idsOf x, m' i = m i) : esc m' x = esc m x := by
  cases x with
  | agg cs =>
    simp only [esc]
    rw [escL_congr fun y hy i hi => h i (List.mem_flatMap.2 ⟨y, hy, hi⟩)]
  | _ => simp only [esc]; exact esc1_congr fun i hi => h i hi
theorem cells_ids {x : SV} {c : SV} (hc : c ∈ x.cells) {i : Nat} (hi : i ∈ idsOf1 c) : i ∈ idsOf x := by
  unfold SV.cells at hc
  split at hc
  · obtain ⟨d, _, rfl⟩ := List.mem_map.1 hc
    simp [idsOf1] at hi
  · exact List.mem_flatMap.2 ⟨c, hc, hi⟩
  · rename_i h1 h2
    rw [List.mem_singleton] at hc
    subst hc
    cases c <;> first | exact hi | exact absurd rfl (h2 _)
theorem escAll_congr {m m' : Nat → Option Blk} : ∀ {l : List SV}, (∀ x ∈ l, ∀ i ∈ idsOf x, m' i = m i) → escAll m' l = escAll m l
  | [], _ => rfl
  | x :: l, h => by
    simp only [escAll, esc_congr (h x List.mem_cons_self), escAll_congr fun y hy => h y (List.mem_cons_of_mem _ hy)]
theorem rowsOf_congr {m m' : Nat → Option Blk} {z : Nat} : ∀ {k : Nat} {l : List (Nat × SV)}, (∀ p ∈ l, ∀ i ∈ idsOf p.2, m' i = m i) → rowsOf m' z k l = rowsOf m z k l
  | _, [], _ => rfl
  | k, (j, x) :: l, h => by
    simp only [rowsOf, escL_congr fun y hy i hi => h (j, x) List.mem_cons_self i (cells_ids hy hi), rowsOf_congr (k := k + 1) fun p hp => h p (List.mem_cons_of_mem _ hp)]
theorem loadSV_congr {m m' : Nat → Option Blk} {i : TI} {x : SV} (h : ∀ i ∈ idsOf x, m' i = m i) : loadSV m' i x = loadSV m i x := by
  cases x <;> simp only [loadSV]
  rename_i id r j
  rw [h id (by simp [idsOf, idsOf1])]
theorem srcRows_congr {m m' : Nat → Option Blk} {z : Nat} {x : SV} (h : ∀ i ∈ idsOf x, m' i = m i) : srcRows m' z x = srcRows m z x := by
  cases x with
  | own id n z' => simp only [srcRows]; rw [h id (by simp [idsOf, idsOf1])]
  | d d => cases d <;> simp only [srcRows]
  | _ => simp only [srcRows]
theorem appendOut_congr {m m' : Nat → Option Blk} {nid : Nat} {e : TypeId} {ie : TI} {x : SV} {xr : List (List Dat)} (h : ∀ i ∈ idsOf x, m' i = m i) : appendOut m' nid e ie x xr = appendOut m nid e ie x xr := by
  cases x <;> simp only [appendOut]
  rename_i id n z
  rw [h id (by simp [idsOf, idsOf1])]
theorem storeOut_congr {m m' : Nat → Option Blk} {i : TI} {id r j : Nat} {v : SV} (h0 : m' id = m id) (h : ∀ i ∈ idsOf v, m' i = m i) : storeOut m' i id r j v = storeOut m i id r j v := by
  unfold storeOut
  rw [h0, escL_congr fun y hy i hi => h i (cells_ids hy hi)]
/-- Every block that an operand names is named by a slot. -/
theorem cSV_ids (v : Value) : idsOf1 (cSV v) = [] := by unfold cSV; split <;> rfl
theorem constSV_ids {v : Value} {x : SV} (h : constSV v = some x) : idsOf x = [] := by
  have key : ∀ v : Value, some (cSV v) = some x → idsOf x = [] := fun v hv => by
    cases hv
    unfold cSV
    split <;> rfl
  cases v with
  | agg cs =>
    simp only [constSV] at h
    split at h
    · cases h
      simp only [idsOf, List.flatMap_eq_nil_iff]
      intro c hc
      obtain ⟨u, _, rfl⟩ := List.mem_map.1 hc
      exact cSV_ids u
    · cases h
  | tuple => cases h
  | _ => exact key _ h
theorem opd_ids {s : St} {x : Operand} {v : SV} (h : opd ns s x = some v) {i : Nat} (hi : i ∈ idsOf v) : ∃ t, x = .tmp t ∧ i ∈ idsOf (s.slots t) := by
  cases x with
  | tmp t =>
    simp only [opd] at h
    split at h
    · cases h; exact ⟨t, rfl, hi⟩
    · cases h
  | const v => rw [constSV_ids h] at hi; cases hi
  | global => cases h
  | func => cases h
theorem opd_congr {s s' : St} {x : Operand} (h : ∀ t, x = .tmp t → s'.slots t = s.slots t) : opd ns s' x = opd ns s x := by
  cases x <;> simp only [opd]
  rename_i t
  rw [h t rfl]
theorem mem_slotsOf {o : Op} {t : Nat} (h : Operand.tmp t ∈ o.operands.toList) : t ∈ slotsOf o := List.mem_filterMap.2 ⟨_, h, rfl⟩
theorem evParts_mem {ev : Operand → Option SV} : ∀ {l : List (Nat × Operand)} {r : List (Nat × SV)}, evParts ev l = some r → ∀ p ∈ r, ∃ x, (p.1, x) ∈ l ∧ ev x = some p.2
  | [], r, h => by cases h; simp
  | (k, x) :: l, r, h => by
    simp only [evParts] at h
    split at h
    · rename_i v r' h1 h2
      cases h
      intro p hp
      rcases List.mem_cons.1 hp with rfl | hp
      · exact ⟨x, List.mem_cons_self, h1⟩
      · obtain ⟨y, h3, h4⟩ := evParts_mem h2 p hp
        exact ⟨y, List.mem_cons_of_mem _ h3, h4⟩
    · cases h
theorem evList_mem {ev : Operand → Option SV} : ∀ {l : List Operand} {r : List SV}, evList ev l = some r → ∀ p ∈ r, ∃ x, x ∈ l ∧ ev x = some p
  | [], r, h => by cases h; simp
  | x :: l, r, h => by
    simp only [evList] at h
    split at h
    · rename_i v r' h1 h2
      cases h
      intro p hp
      rcases List.mem_cons.1 hp with rfl | hp
      · exact ⟨x, List.mem_cons_self, h1⟩
      · obtain ⟨y, h3, h4⟩ := evList_mem h2 p hp
        exact ⟨y, List.mem_cons_of_mem _ h3, h4⟩
    · cases h

/-- An operation goes by what its slots hold, and by the blocks that they name. -/
theorem step_local {nid : Nat} {s s' : St} {o : Op} {out : Out} (h : Step P T ns nid s o out) (h1 : ∀ t ∈ slotsOf o, s'.slots t = s.slots t) (h2 : ∀ i ∈ idsRead s o, s'.mem i = s.mem i) : Step P T ns nid s' o out := by
  have hev : ∀ x ∈ o.operands.toList, opd ns s' x = opd ns s x := fun x hx => opd_congr fun t ht => h1 t (mem_slotsOf (ht ▸ hx))
  have hids : looks o = true → ∀ x ∈ o.operands.toList, ∀ v, opd ns s x = some v → ∀ i ∈ idsOf v, s'.mem i = s.mem i := fun hl x hx v hv i hi => by
    obtain ⟨t, rfl, ht⟩ := opd_ids hv hi
    refine h2 i ?_
    unfold idsRead
    rw [if_pos hl]
    exact List.mem_flatMap.2 ⟨t, mem_slotsOf hx, ht⟩
  unfold Step at h ⊢
  cases hf : fnOf o with
  | some p =>
    obtain ⟨f, args⟩ := p
    rw [hf] at h
    obtain ⟨c, rfl, hc, ha⟩ := fnOf_eq hf
    have hmem : ∀ x ∈ args, x ∈ (Op.call c).operands.toList := fun x hx => by
      simp only [Op.operands, Call.operands, Array.toList_append, List.mem_append]
      exact .inr (ha ▸ hx)
    obtain ⟨svs, ds, is, r, k1, k2, k3, k4⟩ := h
    refine ⟨svs, ds, is, r, ?_, ?_, k3, k4⟩
    · rw [evList_congr fun x hx => hev x (hmem x hx)]; exact k1
    · rw [escAll_congr fun v hv i hi => ?_]
      · exact k2
      · obtain ⟨x, hx, hxv⟩ := evList_mem k1 v hv
        exact hids rfl x (hmem x hx) v hxv i hi
  | none =>
    rw [hf] at h
    show aop T s'.mem nid (opd ns s') o = some out
    have h : aop T s.mem nid (opd ns s) o = some out := h
    rw [aop_congr o hev, ← h]
    have hidx : ∀ {x : Operand} {v : SV}, looks o = true → x ∈ o.operands.toList → opd ns s x = some v → ∀ i ∈ idsOf v, s'.mem i = s.mem i := fun {x v} hl hx hv => hids hl x hx v hv
    cases o with
    | load t x =>
      simp only [aop, aopR]
      cases hi : T t with
      | none => rfl
      | some i =>
        cases hx : opd ns s x with
        | none => rfl
        | some v => simp only; rw [loadSV_congr (hidx rfl (by simp [Op.operands]) hx)]
    | store t x y =>
      simp only [aop]
      cases hi : T t with
      | none => rfl
      | some i =>
        cases hx : opd ns s x with
        | none => rfl
        | some v =>
          cases hy : opd ns s y with
          | none => cases v <;> rfl
          | some u =>
            cases v with
            | ptr id r j => simp only; rw [storeOut_congr (hidx rfl (by simp [Op.operands]) hx id (by simp [idsOf, idsOf1])) (hidx rfl (by simp [Op.operands]) hy)]
            | _ => rfl
    | buildSlice t n ps =>
      simp only [aop]
      cases hi : T t with
      | none => rfl
      | some i =>
        simp only
        cases hk : i.kind with
        | slice e =>
          simp only
          cases hie : T e with
          | none => rfl
          | some ie =>
            cases hl : evParts (opd ns s) ps.toList with
            | none => rfl
            | some l =>
              simp only
              rw [rowsOf_congr fun p hp i hi => ?_]
              obtain ⟨x, hx, hxv⟩ := evParts_mem hl p hp
              exact hidx rfl (by simp only [Op.operands]; exact List.mem_map.2 ⟨(p.1, x), hx, rfl⟩) hxv i hi
        | _ => rfl
    | call c =>
      have hmem : ∀ x ∈ c.args.toList, x ∈ (Op.call c).operands.toList := fun x hx => by
        simp only [Op.operands, Call.operands, Array.toList_append, List.mem_append]
        exact .inr hx
      have hr : aopR T s'.mem (opd ns s) (.call c) = aopR T s.mem (opd ns s) (.call c) := by simp only [aopR]
      simp only [aop]
      split
      · rename_i sx x t t' hc ha ht
        cases hi : T t with
        | none => rfl
        | some i =>
          simp only
          cases hk : i.kind with
          | slice e =>
            simp only
            cases hie : T e with
            | none => rfl
            | some ie =>
              cases hx : opd ns s sx with
              | none => rfl
              | some u =>
                cases hy : opd ns s x with
                | none => rfl
                | some v =>
                  simp only
                  rw [srcRows_congr (hidx rfl (hmem x (by rw [ha]; simp)) hy)]
                  cases srcRows s.mem ie.size v with
                  | none => rfl
                  | some xr => simp only; rw [appendOut_congr (hidx rfl (hmem sx (by rw [ha]; simp)) hx)]
          | _ => rfl
      · rw [hr]
    | slice t x lo hi mx => cases mx <;> cases lo <;> cases hi <;> simp only [aop, aopR]
    | _ => simp only [aop, aopR]
end Go.Proofs.Ytigpefjeelgfdaa.Eng

/-
  The engine, part N: a region that draws its order goes as in the order of the text, if its log says so. No program is named here.
-/
namespace Go.Proofs.Ytigpefjeelgfdaa.Eng
open Go.RowKit
variable {P : Program} {T : Tab} {ns : Nat}

def maskL (l : List Nat) : Nat := l.foldl (fun s x => s ||| 2 ^ x) 0
theorem foldl_mask : ∀ (l : List Nat) (s x : Nat), (s.testBit x = true ∨ x ∈ l) → (l.foldl (fun s x => s ||| 2 ^ x) s).testBit x = true
  | [], s, x, h => by simpa using h
  | y :: l, s, x, h => by
    rw [List.foldl_cons]
    refine foldl_mask l _ x ?_
    rcases h with h | h
    · exact .inl (by simp [Nat.testBit_or, h])
    · rcases List.mem_cons.1 h with rfl | h
      · exact .inl (by simp [Nat.testBit_or, Nat.testBit_two_pow_self])
      · exact .inr h
theorem maskL_mem {l : List Nat} {x : Nat} (h : x ∈ l) : (maskL l).testBit x = true := foldl_mask l 0 x (.inr h)

/-- Operation i comes before operation k in every order. -/
inductive Anc (l : List Oper) : Nat → Nat → Prop
  | one {k : Nat} {o : Oper} {e : Edge} : l[k]? = some o → e ∈ o.after.toList → Region.binds .any e = true → Anc l e.on k
  | more {i k : Nat} {o : Oper} {e : Edge} : l[k]? = some o → e ∈ o.after.toList → Region.binds .any e = true → Anc l i e.on → Anc l i k
def ancOf (acc : List Nat) (es : List Edge) : Nat := es.foldl (fun s e => if Region.binds .any e = true then s ||| 2 ^ e.on ||| acc.getD e.on 0 else s) 0
def ancs : List Oper → List Nat → List Nat
  | [], acc => acc
  | o :: l, acc => ancs l (acc ++ [ancOf acc o.after.toList])
theorem ancOf_bit {acc : List Nat} {i : Nat} : ∀ (es : List Edge) (s : Nat), (es.foldl (fun s e => if Region.binds .any e = true then s ||| 2 ^ e.on ||| acc.getD e.on 0 else s) s).testBit i = true →
    s.testBit i = true ∨ ∃ e ∈ es, Region.binds .any e = true ∧ (i = e.on ∨ (acc.getD e.on 0).testBit i = true)
  | [], s, h => .inl h
  | e :: es, s, h => by
    rw [List.foldl_cons] at h
    rcases ancOf_bit es _ h with h | ⟨e', he, h⟩
    · split at h
      · rename_i hb
        rw [Nat.testBit_or, Nat.testBit_or, Bool.or_eq_true, Bool.or_eq_true] at h
        rcases h with (h | h) | h
        · exact .inl h
        · rw [Nat.testBit_two_pow] at h
          exact .inr ⟨e, List.mem_cons_self, hb, .inl (of_decide_eq_true h).symm⟩
        · exact .inr ⟨e, List.mem_cons_self, hb, .inr h⟩
      · exact .inl h
    · exact .inr ⟨e', List.mem_cons_of_mem _ he, h⟩
theorem ancs_ok {l0 : List Oper} : ∀ (l pre : List Oper) (acc : List Nat), l0 = pre ++ l → acc.length = pre.length → (∀ k i, (acc.getD k 0).testBit i = true → Anc l0 i k) → ∀ k i, ((ancs l acc).getD k 0).testBit i = true → Anc l0 i k
  | [], pre, acc, _, _, h => h
  | o :: l, pre, acc, hl, hlen, h => by
    refine ancs_ok l (pre ++ [o]) _ (by simp [hl]) (by simp [hlen]) fun k i hk => ?_
    by_cases c : k < acc.length
    · rw [List.getD_eq_getElem?_getD, List.getElem?_append_left c, ← List.getD_eq_getElem?_getD] at hk
      exact h k i hk
    · rw [List.getD_eq_getElem?_getD, List.getElem?_append_right (by omega), ← List.getD_eq_getElem?_getD] at hk
      by_cases c2 : k = acc.length
      · subst c2
        rw [Nat.sub_self] at hk
        have ho : l0[acc.length]? = some o := by rw [hl, hlen]; simp
        rcases ancOf_bit _ _ hk with h0 | ⟨e, he, hb, h1⟩
        · simp at h0
        · rcases h1 with rfl | h1
          · exact .one ho he hb
          · exact .more ho he hb (h _ _ h1)
      · have : ([ancOf acc o.after.toList] : List Nat).getD (k - acc.length) 0 = 0 := by
          rw [List.getD_eq_getElem?_getD, List.getElem?_eq_none (by simp; omega)]
          rfl
        rw [this] at hk
        simp at hk
/-- No order changes what is read or written. -/
def okLog (l : List Oper) (log : List Foot) : Bool :=
  let ms := log.map fun f => (maskL f.rd, maskL f.wr)
  let an := ancs l []
  (List.range log.length).all fun k => (List.range k).all fun i =>
    (((ms.getD i (0, 0)).2 &&& ((ms.getD k (0, 0)).1 ||| (ms.getD k (0, 0)).2)) ||| ((ms.getD i (0, 0)).1 &&& (ms.getD k (0, 0)).2)) == 0 || (an.getD k 0).testBit i
theorem and_bit {a b x : Nat} (h : a &&& b = 0) (ha : a.testBit x = true) (hb : b.testBit x = true) : False := by
  have : (a &&& b).testBit x = true := by rw [Nat.testBit_and, ha, hb]; rfl
  rw [h] at this
  simp at this
theorem or_zero {a b : Nat} (h : a ||| b = 0) : a = 0 ∧ b = 0 := by
  constructor
  · apply Nat.eq_of_testBit_eq
    intro i
    have : (a ||| b).testBit i = false := by rw [h]; simp
    rw [Nat.testBit_or, Bool.or_eq_false_iff] at this
    simpa using this.1
  · apply Nat.eq_of_testBit_eq
    intro i
    have : (a ||| b).testBit i = false := by rw [h]; simp
    rw [Nat.testBit_or, Bool.or_eq_false_iff] at this
    simpa using this.2
theorem okLog_anc {l : List Oper} {log : List Foot} (h : okLog l log = true) {i k : Nat} {fi fk : Foot} (hik : i < k) (hi : log[i]? = some fi) (hk : log[k]? = some fk) {x : Nat}
    (hx : (x ∈ fi.wr ∧ (x ∈ fk.rd ∨ x ∈ fk.wr)) ∨ (x ∈ fi.rd ∧ x ∈ fk.wr)) : Anc l i k := by
  unfold okLog at h
  have hkl := (List.getElem?_eq_some_iff.1 hk).1
  have h1 := List.all_eq_true.1 h k (List.mem_range.2 hkl)
  have h2 := List.all_eq_true.1 h1 i (List.mem_range.2 hik)
  rw [Bool.or_eq_true] at h2
  rcases h2 with h2 | h2
  · exfalso
    rw [beq_iff_eq] at h2
    have e1 : (log.map fun f => (maskL f.rd, maskL f.wr)).getD i (0, 0) = (maskL fi.rd, maskL fi.wr) := by rw [List.getD_eq_getElem?_getD, List.getElem?_map, hi]; rfl
    have e2 : (log.map fun f => (maskL f.rd, maskL f.wr)).getD k (0, 0) = (maskL fk.rd, maskL fk.wr) := by rw [List.getD_eq_getElem?_getD, List.getElem?_map, hk]; rfl
    rw [e1, e2] at h2
    obtain ⟨h3, h4⟩ := or_zero h2
    rcases hx with ⟨hx, hx2⟩ | ⟨hx, hx2⟩
    · refine and_bit h3 (maskL_mem hx) ?_
      rw [Nat.testBit_or, Bool.or_eq_true]
      exact hx2.imp maskL_mem maskL_mem
    · exact and_bit h4 (maskL_mem hx) (maskL_mem hx2)
  · exact ancs_ok l [] [] rfl rfl (fun k i hk => by simp at hk) k i h2

/-! ### The trace -/
def stepO (s : St) (nid : Nat) (o : Oper) : Option Out → St
  | none => { s with slots := setSlot s.slots o.dst .und }
  | some x => putS s nid o.dst x
structure Trace (P : Program) (T : Tab) (ops : Array Oper) (ns n0 : Nat) (l : List Oper) (st : Nat → St) (out : Nat → Option Out) (log : List Foot) : Prop where
  len : log.length = l.length
  foot : ∀ k o, l[k]? = some o → log[k]? = some (footOf ops (n0 + k) (st k) o (out k))
  next : ∀ k o, l[k]? = some o → st (k + 1) = stepO (st k) (n0 + k) o (out k)
  step : ∀ k o, l[k]? = some o → (∃ x, out k = some x ∧ guardS ops ns (st k) o = some true ∧ Step P T ns (n0 + k) (st k) o.op x) ∨ (out k = none ∧ guardS ops ns (st k) o = some false)
theorem exec_trace {ops : Array Oper} : ∀ (l : List Oper) (nid : Nat) (s : St) (log : List Foot) {Q : St → List Foot → Prop}, Exec P T ops ns nid l s log Q →
    ∃ st out log', st 0 = s ∧ Trace P T ops ns nid l st out log' ∧ Q (st l.length) (log ++ log')
  | [], nid, s, log, Q, h => ⟨fun _ => s, fun _ => none, [], rfl, ⟨rfl, by simp, by simp, by simp⟩, by simp only [Exec] at h; simpa using h⟩
  | o :: l, nid, s, log, Q, h => by
    have main : ∀ (x : Option Out) (s1 : St), s1 = stepO s nid o x → ((∃ y, x = some y ∧ guardS ops ns s o = some true ∧ Step P T ns nid s o.op y) ∨ (x = none ∧ guardS ops ns s o = some false)) →
        Exec P T ops ns (nid + 1) l s1 (log ++ [footOf ops nid s o x]) Q → ∃ st out log', st 0 = s ∧ Trace P T ops ns nid (o :: l) st out log' ∧ Q (st (o :: l).length) (log ++ log') := by
      intro x s1 hs1 hx h
      obtain ⟨st, out, log', h0, ht, hq⟩ := exec_trace l (nid + 1) s1 _ h
      refine ⟨fun k => match k with | 0 => s | k + 1 => st k, fun k => match k with | 0 => x | k + 1 => out k, footOf ops nid s o x :: log', rfl, ⟨by simp [ht.len], ?_, ?_, ?_⟩, by simpa using hq⟩
      · intro k o' hk
        match k with
        | 0 => simp only [List.getElem?_cons_zero, Option.some.injEq] at hk ⊢; subst hk; rfl
        | k + 1 =>
          simp only [List.getElem?_cons_succ] at hk ⊢
          rw [ht.foot k o' hk, Nat.add_right_comm, Nat.add_assoc]
      · intro k o' hk
        match k with
        | 0 => simp only [List.getElem?_cons_zero, Option.some.injEq] at hk; subst hk; exact h0.trans hs1
        | k + 1 =>
          simp only [List.getElem?_cons_succ] at hk
          have := ht.next k o' hk
          rw [Nat.add_right_comm, Nat.add_assoc] at this
          exact this
      · intro k o' hk
        match k with
        | 0 => simp only [List.getElem?_cons_zero, Option.some.injEq] at hk; subst hk; exact hx
        | k + 1 =>
          simp only [List.getElem?_cons_succ] at hk
          have := ht.step k o' hk
          rw [Nat.add_right_comm, Nat.add_assoc] at this
          exact this
    simp only [Exec] at h
    split at h
    · rename_i hg
      obtain ⟨out, h1, h2⟩ := h
      exact main (some out) _ rfl (.inl ⟨out, rfl, hg, h1⟩) h2
    · rename_i hg
      exact main none _ rfl (.inr ⟨rfl, hg⟩) h
    · exact h.elim

/-! ### Some of the operations -/
theorem stepO_slot (s : St) (nid : Nat) (o : Oper) (x : Option Out) (t : Nat) : (stepO s nid o x).slots t = if o.dst = some t then (match x with | none => .und | some y => y.res) else s.slots t := by
  cases x <;> simp only [stepO, putS] <;> (cases hd : o.dst <;> simp [setSlot, eq_comm])
theorem frzM_far {i : Nat} : ∀ {l : List Nat} {m : Nat → Option Blk}, i ∉ l → frzM m l i = m i
  | [], _, _ => rfl
  | k :: l, m, h => by
    simp only [frzM]
    rw [frzM_far (fun hh => h (List.mem_cons_of_mem _ hh)), setMem, if_neg (fun (e : i = k) => h (e ▸ List.mem_cons_self))]
theorem frzM_same {i : Nat} : ∀ {l : List Nat} {m m' : Nat → Option Blk}, m i = m' i → frzM m l i = frzM m' l i
  | [], _, _, h => h
  | k :: l, m, m', h => by
    simp only [frzM]
    refine frzM_same ?_
    unfold setMem
    by_cases e : i = k
    · subst e; rw [if_pos rfl, if_pos rfl, h]
    · rw [if_neg e, if_neg e, h]
theorem stepO_mem_far {s : St} {nid : Nat} {o : Oper} {x : Option Out} {i : Nat} (h : ∀ y, x = some y → i ∉ idsWritten nid y) : (stepO s nid o x).mem i = s.mem i := by
  cases x with
  | none => rfl
  | some y =>
    have h := h y rfl
    unfold idsWritten at h
    simp only [List.mem_append, not_or] at h
    obtain ⟨⟨h1, h2⟩, h3⟩ := h
    simp only [stepO, putS, memApp]
    have e1 := frzM_far (m := s.mem) h1
    cases hw : y.wr with
    | none =>
      cases hn : y.nw with
      | none => exact e1
      | some b =>
        rw [hn] at h3
        simp only [setMem]
        rw [if_neg (by simpa using h3)]
        exact e1
    | some p =>
      obtain ⟨j, b'⟩ := p
      rw [hw] at h2
      have e2 : setMem (frzM s.mem y.frz) j b' i = s.mem i := by
        unfold setMem
        rw [if_neg (by simpa using h2)]
        exact e1
      cases hn : y.nw with
      | none => exact e2
      | some b =>
        rw [hn] at h3
        simp only
        unfold setMem at e2 ⊢
        rw [if_neg (by simpa using h3)]
        exact e2
theorem stepO_mem_same {s s' : St} {nid : Nat} {o : Oper} {x : Option Out} {i : Nat} (h : s.mem i = s'.mem i) : (stepO s nid o x).mem i = (stepO s' nid o x).mem i := by
  cases x with
  | none => exact h
  | some y =>
    simp only [stepO, putS, memApp]
    have e1 := frzM_same (l := y.frz) h
    have e2 : ∀ (k : Nat) (b : Option Blk) (m m' : Nat → Option Blk), m i = m' i → setMem m k b i = setMem m' k b i := fun k b m m' hm => by
      unfold setMem
      by_cases e : i = k
      · rw [if_pos e, if_pos e]
      · rw [if_neg e, if_neg e, hm]
    cases y.wr with
    | none =>
      cases y.nw with
      | none => exact e1
      | some b => exact e2 _ _ _ _ e1
    | some p =>
      cases y.nw with
      | none => exact e2 _ _ _ _ e1
      | some b => exact e2 _ _ _ _ (e2 _ _ _ _ e1)
def stL (l : List Oper) (n0 : Nat) (out : Nat → Option Out) (s0 : St) (L : Nat → Bool) : Nat → St
  | 0 => s0
  | k + 1 => match l[k]? with
    | some o => if L k = true then stepO (stL l n0 out s0 L k) (n0 + k) o (out k) else stL l n0 out s0 L k
    | none => stL l n0 out s0 L k
section
variable {l : List Oper} {n0 : Nat} {out : Nat → Option Out} {s0 : St}
/-- Two sets of operations agree on what is told of a slot, if they agree on who writes it. -/
theorem stL_slot {L M : Nat → Bool} {t : Nat} (h : ∀ k o, l[k]? = some o → o.dst = some t → L k = M k) : ∀ k, (stL l n0 out s0 L k).slots t = (stL l n0 out s0 M k).slots t
  | 0 => rfl
  | k + 1 => by
    simp only [stL]
    cases ho : l[k]? with
    | none => exact stL_slot h k
    | some o =>
      simp only
      have ih := stL_slot h k
      by_cases hd : o.dst = some t
      · have := h k o ho hd
        rw [this]
        split
        · rw [stepO_slot, stepO_slot, if_pos hd, if_pos hd]
        · exact ih
      · have e : ∀ (s : St) x, (stepO s (n0 + k) o x).slots t = s.slots t := fun s x => by rw [stepO_slot, if_neg hd]
        split
        · split
          · rw [e, e]; exact ih
          · rw [e]; exact ih
        · split
          · rw [e]; exact ih
          · exact ih
theorem stL_mem {L M : Nat → Bool} {i : Nat} (h : ∀ k o y, l[k]? = some o → out k = some y → i ∈ idsWritten (n0 + k) y → L k = M k) : ∀ k, (stL l n0 out s0 L k).mem i = (stL l n0 out s0 M k).mem i
  | 0 => rfl
  | k + 1 => by
    simp only [stL]
    cases ho : l[k]? with
    | none => exact stL_mem h k
    | some o =>
      simp only
      have ih := stL_mem h k
      by_cases hd : ∃ y, out k = some y ∧ i ∈ idsWritten (n0 + k) y
      · obtain ⟨y, hy, hi⟩ := hd
        have := h k o y ho hy hi
        rw [this]
        split
        · exact stepO_mem_same ih
        · exact ih
      · have e : ∀ (s : St), (stepO s (n0 + k) o (out k)).mem i = s.mem i := fun s => stepO_mem_far fun y hy hi => hd ⟨y, hy, hi⟩
        split
        · split
          · rw [e, e]; exact ih
          · rw [e]; exact ih
        · split
          · rw [e]; exact ih
          · exact ih
end

variable {W0 : Fix} {R0 : Nat → Prop}
theorem exec_any (hT : TabOk P T) (hm : P.follows .mixedOrders = true) {id n0 : Nat} {l : List Oper} (hB : backB l.toArray = true) {s0 : St} {Q' : St → Prop} (hE : Exec P T l.toArray ns n0 l s0 [] (fun s' log => okLog l log = true ∧ Q' s'))
    {E : Env} {a : Act} {w : World} (hs : Sim W0 R0 ns (· < n0) s0 E a w) {Q : Exit → Act → World → Prop} (hQ : ∀ s' E' a' w', Sim W0 R0 ns (· < n0 + l.length) s' E' a' w' → Q' s' → Q .normal a' w') : (Code.region id l.toArray true).wp P Q a w := by
  obtain ⟨st, out, log, h0, ht, hlog, hq⟩ := exec_trace l n0 s0 [] hE
  rw [List.nil_append] at hlog
  -- the text's own states
  have text : ∀ (k j : Nat), j ≤ k → k ≤ l.length → stL l n0 out s0 (fun i => decide (i < k)) j = st j := by
    intro k j
    induction j with
    | zero => intro _ _; exact h0.symm
    | succ j ih =>
      intro hj hk
      have hjl : l[j]? = some l[j] := List.getElem?_eq_getElem (by omega)
      simp only [stL, hjl]
      rw [if_pos (by simp; omega), ih (by omega) hk]
      exact (ht.next j _ hjl).symm
  have textE : ∀ (k : Nat), k ≤ l.length → ∀ j, k ≤ j → stL l n0 out s0 (fun i => decide (i < k)) j = st k := by
    intro k hk j
    induction j with
    | zero =>
      intro hj
      obtain rfl : k = 0 := by omega
      exact h0.symm
    | succ j ih =>
      intro hj
      rcases Nat.lt_or_ge j k with h | h
      · obtain rfl : k = j + 1 := by omega
        exact text (j + 1) (j + 1) (Nat.le_refl _) hk
      · simp only [stL]
        cases l[j]? with
        | none => exact ih h
        | some o => simp only; rw [if_neg (by simp; omega)]; exact ih h
  let Closed (L : Nat → Bool) : Prop := ∀ i k, Anc l i k → k < l.length → L k = true → L i = true
  have conf : ∀ {i k : Nat} {oi ok : Oper}, i < k → l[i]? = some oi → l[k]? = some ok → ∀ x, ((x ∈ (footOf l.toArray (n0 + i) (st i) oi (out i)).wr ∧ (x ∈ (footOf l.toArray (n0 + k) (st k) ok (out k)).rd ∨ x ∈ (footOf l.toArray (n0 + k) (st k) ok (out k)).wr)) ∨ (x ∈ (footOf l.toArray (n0 + i) (st i) oi (out i)).rd ∧ x ∈ (footOf l.toArray (n0 + k) (st k) ok (out k)).wr)) → Anc l i k :=
    fun {i k oi ok} hik hi hk x hx => okLog_anc hlog hik (ht.foot i oi hi) (ht.foot k ok hk) hx
  have wr_slot : ∀ {k : Nat} {o : Oper} {t : Nat}, o.dst = some t → 2 * t ∈ (footOf l.toArray (n0 + k) (st k) o (out k)).wr := fun {k o t} hd => by
    simp only [footOf, hd, Option.toList_some, List.map_cons, List.map_nil]
    exact List.mem_append_left _ (List.mem_singleton.2 rfl)
  have wr_mem : ∀ {k : Nat} {o : Oper} {y : Out} {i : Nat}, out k = some y → i ∈ idsWritten (n0 + k) y → 2 * i + 1 ∈ (footOf l.toArray (n0 + k) (st k) o (out k)).wr := fun {k o y i} hy hi => by
    simp only [footOf, hy]
    exact List.mem_append_right _ (List.mem_map.2 ⟨i, hi, rfl⟩)
  -- what operation k sees
  have see : ∀ (L : Nat → Bool) (k : Nat) (o : Oper), l[k]? = some o → L k = false → Closed L → (∀ i, Anc l i k → L i = true) → ∀ x, (x ∈ (footOf l.toArray (n0 + k) (st k) o (out k)).rd ∨ x ∈ (footOf l.toArray (n0 + k) (st k) o (out k)).wr) →
      ∀ i oi, l[i]? = some oi → x ∈ (footOf l.toArray (n0 + i) (st i) oi (out i)).wr → i ≠ k → L i = decide (i < k) := by
    intro L k o hk hLk hC hA x hx i oi hi hw hne
    rcases Nat.lt_or_gt_of_ne hne with h | h
    · rw [decide_eq_true h]
      exact hA i (conf h hi hk x (.inl ⟨hw, hx⟩))
    · rw [decide_eq_false (by omega)]
      have hanc : Anc l k i := conf h hk hi x (by
        rcases hx with hx | hx
        · exact .inr ⟨hx, hw⟩
        · exact .inl ⟨hx, .inr hw⟩)
      cases hLi : L i with
      | false => rfl
      | true =>
        have := hC k i hanc (List.getElem?_eq_some_iff.1 hi).1 hLi
        rw [hLk] at this
        cases this
  have see_slot : ∀ (L : Nat → Bool) (k : Nat) (o : Oper), l[k]? = some o → L k = false → Closed L → (∀ i, Anc l i k → L i = true) → ∀ t, 2 * t ∈ (footOf l.toArray (n0 + k) (st k) o (out k)).rd → (stL l n0 out s0 L l.length).slots t = (st k).slots t := by
    intro L k o hk hLk hC hA t hx
    have hkl := (List.getElem?_eq_some_iff.1 hk).1
    rw [← textE k (by omega) l.length (by omega)]
    refine stL_slot (fun i oi hi hd => ?_) _
    by_cases e : i = k
    · subst e; rw [hLk]; simp
    · exact see L k o hk hLk hC hA _ (.inl hx) i oi hi (wr_slot hd) e
  have see_mem : ∀ (L : Nat → Bool) (k : Nat) (o : Oper), l[k]? = some o → L k = false → Closed L → (∀ i, Anc l i k → L i = true) → ∀ t, (2 * t + 1 ∈ (footOf l.toArray (n0 + k) (st k) o (out k)).rd ∨ 2 * t + 1 ∈ (footOf l.toArray (n0 + k) (st k) o (out k)).wr) → (stL l n0 out s0 L l.length).mem t = (st k).mem t := by
    intro L k o hk hLk hC hA t hx
    have hkl := (List.getElem?_eq_some_iff.1 hk).1
    rw [← textE k (by omega) l.length (by omega)]
    refine stL_mem (fun i oi y hi hy hd => ?_) _
    by_cases e : i = k
    · subst e; rw [hLk]; simp
    · exact see L k o hk hLk hC hA _ hx i oi hi (wr_mem hy hd) e
  -- operation k is met
  have meet : ∀ (L L' : Nat → Bool) (k : Nat) (o : Oper), l[k]? = some o → L k = false → Closed L → (∀ i, Anc l i k → L i = true) → (∀ i, L' i = if i = k then true else L i) → stL l n0 out s0 L' l.length = stepO (stL l n0 out s0 L l.length) (n0 + k) o (out k) := by
    intro L L' k o hk hLk hC hA hL'
    have hkl := (List.getElem?_eq_some_iff.1 hk).1
    have hnext := ht.next k o hk
    have e1 : ∀ t, (stL l n0 out s0 L' l.length).slots t = (stepO (stL l n0 out s0 L l.length) (n0 + k) o (out k)).slots t := by
      intro t
      by_cases hd : o.dst = some t
      · rw [stL_slot (M := fun i => decide (i < k + 1)) (fun i oi hi hdi => ?_) _, textE (k + 1) (by omega) l.length (by omega), hnext, stepO_slot, stepO_slot, if_pos hd, if_pos hd]
        rw [hL']
        by_cases e : i = k
        · subst e; simp
        · rw [if_neg e, see L k o hk hLk hC hA _ (.inr (wr_slot hd)) i oi hi (wr_slot hdi) e]
          by_cases h : i < k
          · rw [decide_eq_true h, decide_eq_true (by omega)]
          · rw [decide_eq_false h, decide_eq_false (by omega)]
      · rw [stepO_slot, if_neg hd]
        refine stL_slot (fun i oi hi hdi => ?_) _
        rw [hL', if_neg]
        rintro rfl
        rw [hk] at hi
        cases hi
        exact hd hdi
    have e2 : ∀ i, (stL l n0 out s0 L' l.length).mem i = (stepO (stL l n0 out s0 L l.length) (n0 + k) o (out k)).mem i := by
      intro t
      by_cases hd : ∃ y, out k = some y ∧ t ∈ idsWritten (n0 + k) y
      · obtain ⟨y, hy, hi⟩ := hd
        have hw : 2 * t + 1 ∈ (footOf l.toArray (n0 + k) (st k) o (out k)).wr := wr_mem hy hi
        rw [stL_mem (M := fun i => decide (i < k + 1)) (fun i oi y' hi' hy' hdi => ?_) _, textE (k + 1) (by omega) l.length (by omega), hnext]
        · exact (stepO_mem_same (see_mem L k o hk hLk hC hA t (.inr hw))).symm
        · rw [hL']
          by_cases e : i = k
          · subst e; simp
          · rw [if_neg e, see L k o hk hLk hC hA _ (.inr hw) i oi hi' (wr_mem hy' hdi) e]
            by_cases h : i < k
            · rw [decide_eq_true h, decide_eq_true (by omega)]
            · rw [decide_eq_false h, decide_eq_false (by omega)]
      · rw [stepO_mem_far fun y hy hi => hd ⟨y, hy, hi⟩]
        refine stL_mem (fun i oi y hi hy hdi => ?_) _
        rw [hL', if_neg]
        rintro rfl
        exact hd ⟨y, hy, hdi⟩
    have := St.mk.injEq (stL l n0 out s0 L' l.length).slots (stL l n0 out s0 L' l.length).mem (stepO (stL l n0 out s0 L l.length) (n0 + k) o (out k)).slots (stepO (stL l n0 out s0 L l.length) (n0 + k) o (out k)).mem
    exact this.mpr ⟨funext e1, funext e2⟩
  let DL (L : Nat → Bool) (i : Nat) : Prop := i < n0 ∨ ∃ k, k < l.length ∧ L k = true ∧ i = n0 + k
  have key : ∀ (fuel : Nat) (listed : Array Bool) (E : Env) (a : Act) (w : World), listed.size = l.toArray.size → leftOf l.toArray.size listed ≤ fuel → Closed (fun i => listed.getD i true) →
      Sim W0 R0 ns (DL fun i => listed.getD i true) (stL l n0 out s0 (fun i => listed.getD i true) l.length) E a w → wpAny P .any l.toArray Q fuel listed a w := by
    have fin : ∀ (listed : Array Bool) (E : Env) (a : Act) (w : World), listed.size = l.toArray.size → Sim W0 R0 ns (DL fun i => listed.getD i true) (stL l n0 out s0 (fun i => listed.getD i true) l.length) E a w → Region.ready .any l.toArray listed = [] → Q .normal a w := by
      intro listed E a w hsz hsim hr
      have hall := all_listed hsz hB hr
      have e : stL l n0 out s0 (fun i => listed.getD i true) l.length = st l.length := by
        rw [← text l.length l.length (Nat.le_refl _) (Nat.le_refl _)]
        have q1 : ∀ t, (stL l n0 out s0 (fun i => listed.getD i true) l.length).slots t = (stL l n0 out s0 (fun i => decide (i < l.length)) l.length).slots t := fun t => stL_slot (fun i oi hi _ => by
          have hil := (List.getElem?_eq_some_iff.1 hi).1
          rw [hall i (by simpa using hil), decide_eq_true hil]) _
        have q2 : ∀ t, (stL l n0 out s0 (fun i => listed.getD i true) l.length).mem t = (stL l n0 out s0 (fun i => decide (i < l.length)) l.length).mem t := fun t => stL_mem (fun i oi y hi _ _ => by
          have hil := (List.getElem?_eq_some_iff.1 hi).1
          rw [hall i (by simpa using hil), decide_eq_true hil]) _
        have := St.mk.injEq (stL l n0 out s0 (fun i => listed.getD i true) l.length).slots (stL l n0 out s0 (fun i => listed.getD i true) l.length).mem (stL l n0 out s0 (fun i => decide (i < l.length)) l.length).slots (stL l n0 out s0 (fun i => decide (i < l.length)) l.length).mem
        exact this.mpr ⟨funext q1, funext q2⟩
      rw [e] at hsim
      exact hQ _ E a w (hsim.weak fun i hi => by
        rcases hi with hi | ⟨k, hk, _, rfl⟩ <;> omega) hq
    intro fuel
    induction fuel with
    | zero =>
      intro listed E a w hsz hl hC hsim
      have hr : Region.ready .any l.toArray listed = [] := by
        rw [List.eq_nil_iff_forall_not_mem]
        intro i hi
        have h1 := (mem_ready.1 hi).1
        have h2 : i ∈ (List.range l.toArray.size).filter fun j => !listed.getD j true := by
          rw [List.mem_filter]
          refine ⟨List.mem_range.2 ?_, by rw [h1]; rfl⟩
          obtain ⟨o, ho, _⟩ := (mem_ready.1 hi).2
          exact (Array.getElem?_eq_some_iff.1 ho).1
        unfold leftOf at hl
        rw [List.length_eq_zero_iff.1 (Nat.le_zero.1 hl)] at h2
        cases h2
      exact ⟨hr, fin listed E a w hsz hsim hr⟩
    | succ fuel ih =>
      intro listed E a w hsz hl hC hsim
      refine ⟨fun hr => fin listed E a w hsz hsim hr, fun k hk => ?_⟩
      obtain ⟨hun, o, ho, hdep⟩ := mem_ready.1 hk
      have hkl : k < l.length := by have := (Array.getElem?_eq_some_iff.1 ho).1; simpa using this
      have hlk : l[k]? = some o := by simpa using ho
      have hA : ∀ i, Anc l i k → listed.getD i true = true := by
        intro i hi
        cases hi with
        | one h1 h2 h3 =>
          rw [hlk] at h1
          cases h1
          have h4 := hdep _ (by simpa using h2) h3
          rename_i e
          rcases Nat.lt_or_ge e.on listed.size with h5 | h5
          · simp [h5] at h4 ⊢; exact h4
          · simp [Array.getElem?_eq_none h5] at h4
        | more h1 h2 h3 h4 =>
          rw [hlk] at h1
          cases h1
          rename_i e
          have h5 := hdep _ (by simpa using h2) h3
          rcases Nat.lt_or_ge e.on listed.size with h6 | h6
          · refine hC i e.on h4 (by simpa [hsz] using h6) ?_
            simp [h6] at h5 ⊢; exact h5
          · simp [Array.getElem?_eq_none h6] at h5
      have hL' : ∀ i, (listed.setIfInBounds k true).getD i true = if i = k then true else listed.getD i true := fun i => by
        by_cases e : i = k
        · subst e; rw [if_pos rfl]; simp [hsz, hkl]
        · rw [if_neg e]; exact getD_set_ne true (Ne.symm e)
      have hmeet := meet (fun i => listed.getD i true) (fun i => (listed.setIfInBounds k true).getD i true) k o hlk hun hC hA hL'
      have hC' : Closed (fun i => (listed.setIfInBounds k true).getD i true) := by
        intro i j hij hj hLj
        have hLj := (hL' j).symm.trans hLj
        refine (hL' i).trans ?_
        split
        · rfl
        · rename_i hne
          by_cases e : j = k
          · subst e; exact hA i hij
          · rw [if_neg e] at hLj; exact hC i j hij hj hLj
      have hD' : ∀ i, (i = n0 + k ∨ DL (fun i => listed.getD i true) i) → DL (fun i => (listed.setIfInBounds k true).getD i true) i := by
        rintro i (rfl | hi | ⟨j, hj, hLj, rfl⟩)
        · exact .inr ⟨k, hkl, (hL' k).trans (if_pos rfl), rfl⟩
        · exact .inl hi
        · refine .inr ⟨j, hj, (hL' j).trans ?_, rfl⟩
          split
          · rfl
          · exact hLj
      have hDn : ¬ DL (fun i => listed.getD i true) (n0 + k) := by
        rintro (hi | ⟨j, hj, hLj, he⟩)
        · omega
        · obtain rfl : j = k := by omega
          have hLj := hun.symm.trans hLj
          cases hLj
      have hstep := ht.step k o hlk
      have hseeS : ∀ t, 2 * t ∈ (footOf l.toArray (n0 + k) (st k) o (out k)).rd → (stL l n0 out s0 (fun i => listed.getD i true) l.length).slots t = (st k).slots t := see_slot _ k o hlk hun hC hA
      have hgs : ∀ b, guardS l.toArray ns (st k) o = some b → guardS l.toArray ns (stL l n0 out s0 (fun i => listed.getD i true) l.length) o = some b := by
        intro b hb
        unfold guardS at hb ⊢
        have hdo : dstOk ns o.dst = true := by by_cases hd : dstOk ns o.dst = true; exact hd; rw [if_neg hd] at hb; cases hb
        rw [if_pos hdo] at hb ⊢
        cases hgd : o.guard with
        | none => rw [hgd] at hb; exact hb
        | some p =>
          obtain ⟨j, want⟩ := p
          rw [hgd] at hb
          simp only at hb ⊢
          cases hj : (l.toArray[j]?).bind (·.dst) with
          | none => rw [hj] at hb; cases hb
          | some t =>
            rw [hj] at hb
            simp only at hb ⊢
            rw [hseeS t]
            · exact hb
            · simp only [footOf, guardSlot, hgd, hj]
              exact List.mem_append_left _ (by simp)
      refine wpOp_of ho fun K' hK' => ?_
      have hlf := leftOf_set hsz hun fuel hl
      rcases hstep with ⟨x, hx, hg, hst⟩ | ⟨hx, hg⟩
      · rw [guard_ok hsim (hgs _ hg), if_pos rfl]
        have hloc : Step P T ns (n0 + k) (stL l n0 out s0 (fun i => listed.getD i true) l.length) o.op x := by
          refine step_local hst (fun t htt => hseeS t ?_) fun i hi => see_mem _ k o hlk hun hC hA i (.inl ?_)
          · simp only [footOf, hx]
            exact List.mem_append_right _ (List.mem_append_left _ (List.mem_map.2 ⟨t, htt, rfl⟩))
          · simp only [footOf, hx]
            exact List.mem_append_right _ (List.mem_append_right _ (List.mem_map.2 ⟨i, hi, rfl⟩))
        refine step_wp hT hsim hDn (guardS_dst hg) hloc fun E' a' w' hs' => hK' _ _ ?_
        refine ih _ E' a' w' (by simpa using hsz) hlf hC' ?_
        rw [hmeet, hx]
        exact hs'.weak hD'
      · rw [guard_ok hsim (hgs _ hg), if_neg (by simp)]
        refine hK' _ _ (ih _ E _ w (by simpa using hsz) hlf hC' ?_)
        rw [hmeet, hx]
        exact (hsim.put (guardS_dst hg) (.und undef)).weak fun i hi => hD' i (.inr hi)
  refine wp_region_any hm ?_
  have hL0 : ∀ i, i < l.length → (Array.replicate l.toArray.size false).getD i true = false := fun i hi => by simp [hi]
  have e0 : stL l n0 out s0 (fun i => (Array.replicate l.toArray.size false).getD i true) l.length = s0 := by
    refine Eq.trans ?_ ((textE 0 (Nat.zero_le _) l.length (Nat.zero_le _)).trans h0)
    have q1 : ∀ t, (stL l n0 out s0 (fun i => (Array.replicate l.toArray.size false).getD i true) l.length).slots t = (stL l n0 out s0 (fun i => decide (i < 0)) l.length).slots t := fun t =>
      stL_slot (fun i oi hi _ => by rw [hL0 i (List.getElem?_eq_some_iff.1 hi).1]; rfl) _
    have q2 : ∀ t, (stL l n0 out s0 (fun i => (Array.replicate l.toArray.size false).getD i true) l.length).mem t = (stL l n0 out s0 (fun i => decide (i < 0)) l.length).mem t := fun t =>
      stL_mem (fun i oi y hi _ _ => by rw [hL0 i (List.getElem?_eq_some_iff.1 hi).1]; rfl) _
    have := St.mk.injEq (stL l n0 out s0 (fun i => (Array.replicate l.toArray.size false).getD i true) l.length).slots (stL l n0 out s0 (fun i => (Array.replicate l.toArray.size false).getD i true) l.length).mem (stL l n0 out s0 (fun i => decide (i < 0)) l.length).slots (stL l n0 out s0 (fun i => decide (i < 0)) l.length).mem
    exact this.mpr ⟨funext q1, funext q2⟩
  refine key l.toArray.size _ E a _ (by simp) (by unfold leftOf; exact Nat.le_trans (List.length_filter_le _ _) (by simp)) (fun i k hik hk hLk => by have hLk := (hL0 k hk).symm.trans hLk; cases hLk) ?_
  rw [e0]
  exact hs.drew.weak fun i hi => .inl hi
end Go.Proofs.Ytigpefjeelgfdaa.Eng

/-
  The engine, part O: control, loops, functions. No program is named here.
-/
namespace Go.Proofs.Ytigpefjeelgfdaa.Eng
open Go.RowKit
variable {P : Program} {T : Tab} {tp : Bool} {ns : Nat}

abbrev Post := Exit → Nat → St → Prop
/-- From this state on, the code comes to an end as told; n: names of own blocks that are free from there on. -/
def AWp (P : Program) (tp : Bool) (ns : Nat) (c : Code) (n : Nat) (s : St) (Q : Post) : Prop :=
  ∀ (W0 : Fix) (R0 : Nat → Prop) (E : Env) (a : Act) (w : World), (tp = true → ∀ b, W0.U b → R0 b) → Sim W0 R0 ns (· < n) s E a w → c.wp P (fun e a' w' => ∃ n' s' E', Sim W0 R0 ns (· < n') s' E' a' w' ∧ Q e n' s') a w
theorem AWp.mono {c : Code} {n : Nat} {s : St} {Q Q' : Post} (h : AWp P tp ns c n s Q) (hq : ∀ e n s, Q e n s → Q' e n s) : AWp P tp ns c n s Q' :=
  fun W0 R0 E a w ht hs => wp_mono (h W0 R0 E a w ht hs) fun _ _ _ ⟨n', s', E', h1, h2⟩ => ⟨n', s', E', h1, hq _ _ _ h2⟩
def thenP (k : Nat → St → Prop) (Q : Post) : Post
  | .normal, n, s => k n s
  | e, n, s => Q e n s
def blockP (id : Nat) (Q : Post) : Post
  | .exit id', n, s => if id' = id then Q .normal n s else Q (.exit id') n s
  | e, n, s => Q e n s
theorem AWp.seq {x y : Code} {n : Nat} {s : St} {Q : Post} (h : AWp P tp ns x n s (thenP (fun n s => AWp P tp ns y n s Q) Q)) : AWp P tp ns (.seq x y) n s Q := fun W0 R0 E a w ht hs => by
  refine wp_seq (wp_mono (h W0 R0 E a w ht hs) ?_)
  rintro e a' w' ⟨n', s', E', h1, h2⟩
  cases e with
  | normal => exact h2 W0 R0 E' a' w' ht h1
  | _ => exact ⟨n', s', E', h1, h2⟩
theorem AWp.skip {n : Nat} {s : St} {Q : Post} (h : Q .normal n s) : AWp P tp ns .skip n s Q := fun _ _ E _ _ _ hs => wp_skip ⟨n, s, E, hs, h⟩
theorem AWp.exit {id n : Nat} {s : St} {Q : Post} (h : Q (.exit id) n s) : AWp P tp ns (.exit id) n s Q := fun _ _ E _ _ _ hs => wp_exit ⟨n, s, E, hs, h⟩
theorem AWp.ret {n : Nat} {s : St} {Q : Post} (h : Q .ret n s) : AWp P tp ns .ret n s Q := fun _ _ E _ _ _ hs => wp_ret ⟨n, s, E, hs, h⟩
theorem AWp.block {id n : Nat} {c : Code} {s : St} {Q : Post} (h : AWp P tp ns c n s (blockP id Q)) : AWp P tp ns (.block id c) n s Q := fun W0 R0 E a w ht hs => by
  refine wp_block (wp_mono (h W0 R0 E a w ht hs) ?_)
  rintro e a' w' ⟨n', s', E', h1, h2⟩
  cases e with
  | exit id' =>
    simp only [blockP] at h2
    simp only [Exit.inBlock]
    split at h2
    · rename_i e; rw [if_pos e]; exact ⟨n', s', E', h1, h2⟩
    · rename_i e; rw [if_neg e]; exact ⟨n', s', E', h1, h2⟩
  | _ => exact ⟨n', s', E', h1, h2⟩
theorem AWp.scope {c : Code} {n : Nat} {s : St} {Q : Post} (h : AWp P tp ns c n s (fun e n s => (∀ l, e ≠ .goto l) ∧ Q e n s)) : AWp P tp ns (.scope c) n s Q := fun W0 R0 E a w ht hs => by
  refine wp_scope_straight (wp_mono (h W0 R0 E a w ht hs) ?_)
  rintro e a' w' ⟨n', s', E', h1, h2, h3⟩
  cases e with
  | goto l => exact absurd rfl (h2 l)
  | _ => exact ⟨n', s', E', h1, h3⟩
theorem AWp.cond {c : Operand} {x y : Code} {n : Nat} {s : St} {Q : Post} {t : Bool} (hc : opd ns s c = some (.d (.val (.bool t)))) (h1 : t = true → AWp P tp ns x n s Q) (h2 : t = false → AWp P tp ns y n s Q) : AWp P tp ns (.cond c x y) n s Q :=
  fun W0 R0 E a w ht hs => wp_cond_split (rep_bool (hs.opd hc)) (fun h => h1 h W0 R0 E a w ht hs) (fun h => h2 h W0 R0 E a w ht hs)
theorem AWp.region (hT : TabOk P T) {id n : Nat} {l : List Oper} {s : St} {Q : Post} (h : Exec P T l.toArray ns n l s [] (fun s' _ => Q .normal (n + l.length) s')) : AWp P tp ns (.region id l.toArray false) n s Q :=
  fun _ _ _ _ _ _ hs => wp_region_lit (exec_list hT l n h hs fun s' E' _ _ _ h1 h2 => ⟨_, s', E', h1, h2⟩)
theorem AWp.draws (hT : TabOk P T) (hm : P.follows .mixedOrders = true) {id n : Nat} {l : List Oper} {s : St} {Q : Post} (hB : backB l.toArray = true) (h : Exec P T l.toArray ns n l s [] (fun s' log => okLog l log = true ∧ Q .normal (n + l.length) s')) : AWp P tp ns (.region id l.toArray true) n s Q :=
  fun _ _ _ _ _ _ hs => exec_any hT hm hB h hs fun s' E' _ _ h1 h2 => ⟨_, s', E', h1, h2⟩

/-! ### Loops -/
theorem wp_loop_ix {ι : Type} {Q : Exit → Act → World → Prop} {a : Act} {w : World} {c : Code} (I : ι → Act → World → Prop) (μ : ι → Nat) {i : ι} (h₀ : I i a w)
    (round : ∀ i a w, I i a w → c.wp P (Exit.then (fun a' w' => ∃ j, I j a' w' ∧ μ j < μ i) Q) a w) : (Code.loop c).wp P Q a w := by
  intro b k cs
  have key : ∀ n i a w, μ i = n → I i a w →
      ∃ e a' w', Q e a' w' ∧ Arrives P (lone (b.at a (.code c :: .inLoop c :: k)) cs w) b k cs e a' w' := by
    intro n
    induction n using Nat.strongRecOn with
    | _ n ih =>
      intro i a w hn hI
      obtain ⟨e, a₁, w₁, hq, harr⟩ := round i a w hI b (.inLoop c :: k) cs
      cases e with
      | normal =>
        obtain ⟨j, hI₁, hlt⟩ := hq
        obtain ⟨e₂, a₂, w₂, hq₂, harr₂⟩ := ih (μ j) (hn ▸ hlt) j a₁ w₁ rfl hI₁
        exact ⟨e₂, a₂, w₂, hq₂, .of_steps (Steps.trans harr (.one step_inLoop)) harr₂⟩
      | exit id => exact ⟨_, a₁, w₁, hq, .pass (x := .inLoop c) rfl (fun _ _ => .inl (by simp)) harr⟩
      | goto l => exact ⟨_, a₁, w₁, hq, .pass (x := .inLoop c) rfl (fun _ _ => .inl (by simp)) harr⟩
      | ret => exact ⟨_, a₁, w₁, hq, .pass (x := .inLoop c) rfl (fun _ _ => .inl (by simp)) harr⟩
      | panic ch => exact ⟨_, a₁, w₁, hq, .pass (x := .inLoop c) rfl (fun _ _ => .inl (by simp)) harr⟩
      | outgrown => exact ⟨_, a₁, w₁, hq, .pass (x := .inLoop c) rfl (fun _ _ => .inl (by simp)) harr⟩
  obtain ⟨e, a', w', hq, harr⟩ := key _ i a w rfl h₀
  exact ⟨e, a', w', hq, .of_steps (.one step_loop) harr⟩

/-! ### What is told of a state, told less, with other names for the own blocks -/
def ren0 (n : Nat) (σ : Nat → Nat) : SV → Option SV
  | .d x => some (.d x)
  | .nilS => some .nilS
  | .lin i k => if i < n then some (.lin (σ i) k) else none
  | .own i k z => if i < n then some (.own (σ i) k z) else none
  | .rptr cs => some (.rptr cs)
  | .ptr i r j => if i < n then some (.ptr (σ i) r j) else none
  | _ => none
def ren0s (n : Nat) (σ : Nat → Nat) : List SV → Option (List SV)
  | [] => some []
  | c :: l => match ren0 n σ c, ren0s n σ l with
    | some d, some r => some (d :: r)
    | _, _ => none
def renC (n : Nat) (σ : Nat → Nat) : SV → Option SV
  | .d x => some (.d x)
  | .nilS => some .nilS
  | .lin i k => if i < n then some (.lin (σ i) k) else none
  | .own i k z => if i < n then some (.own (σ i) k z) else none
  | .rptr cs => some (.rptr cs)
  | .ptr i r j => if i < n then some (.ptr (σ i) r j) else none
  | .fn f xs ys => match ren0s n σ xs, ren0s n σ ys with
    | some a, some b => some (.fn f a b)
    | _, _ => none
  | _ => none
def renCs (n : Nat) (σ : Nat → Nat) : List SV → Option (List SV)
  | [] => some []
  | c :: l => match renC n σ c, renCs n σ l with
    | some d, some r => some (d :: r)
    | _, _ => none
def renS (n : Nat) (σ : Nat → Nat) : SV → Option SV
  | .agg cs => match renCs n σ cs with
    | some l => some (.agg l)
    | none => none
  | x => renC n σ x
def renB (n : Nat) (σ : Nat → Nat) : Blk → Option Blk
  | .box t cs f => match renCs n σ cs with
    | some l => some (.box t l f)
    | none => none
  | .row t z rows f => some (.row t z rows f)
def Env.ren (E : Env) (n : Nat) (σ : Nat → Nat) : Env := { ro := E.ro, dom := fun i => i < n ∧ E.dom (σ i), home := fun i => E.home (σ i) }
theorem ren0_rep {E : Env} {w : World} {n : Nat} {σ : Nat → Nat} {x y : SV} {v : Value} (h : ren0 n σ x = some y) (hy : Rep E w y v) : Rep (E.ren n σ) w x v := by
  unfold ren0 at h
  split at h
  · cases h; cases hy with | d _ _ h => exact .d _ _ h
  · cases h; cases hy; exact .nilS
  · split at h
    · rename_i hi
      cases h
      cases hy with | lin _ _ h1 h2 h3 => exact Rep.lin (E := E.ren n σ) _ _ ⟨hi, h1⟩ h2 h3
    · cases h
  · split at h
    · rename_i hi
      cases h
      cases hy with | own _ _ _ h1 h2 => exact Rep.own (E := E.ren n σ) _ _ _ ⟨hi, h1⟩ h2
    · cases h
  · cases h; cases hy with | rptr _ b off f h1 h2 h3 h4 => exact .rptr _ b off f h1 h2 h3 h4
  · split at h
    · rename_i hi
      cases h
      cases hy with | ptr _ _ _ h1 => exact Rep.ptr (E := E.ren n σ) _ _ _ ⟨hi, h1⟩
    · cases h
  · cases h
theorem ren0s_spec {n : Nat} {σ : Nat → Nat} : ∀ {l r : List SV}, ren0s n σ l = some r → r.length = l.length ∧ ∀ (i : Nat) x, l[i]? = some x → ∃ y, r[i]? = some y ∧ ren0 n σ x = some y
  | [], r, h => by cases h; simp
  | c :: l, r, h => by
    simp only [ren0s] at h
    split at h
    · rename_i d r' h1 h2
      cases h
      obtain ⟨k1, k2⟩ := ren0s_spec h2
      refine ⟨by simp [k1], fun i x hx => ?_⟩
      match i with
      | 0 => simp only [List.getElem?_cons_zero, Option.some.injEq] at hx; subst hx; exact ⟨d, rfl, h1⟩
      | i + 1 => exact k2 i x (by simpa using hx)
    · cases h
theorem renC_rep {E : Env} {w : World} {n : Nat} {σ : Nat → Nat} {x y : SV} {v : Value} (h : renC n σ x = some y) (hy : Rep E w y v) : Rep (E.ren n σ) w x v := by
  cases x with
  | fn f xs ys =>
    simp only [renC] at h
    split at h
    · rename_i a b h1 h2
      cases h
      obtain ⟨k1, k2⟩ := ren0s_spec h1
      obtain ⟨l1, l2⟩ := ren0s_spec h2
      cases hy with
      | fn _ _ _ us vs u1 u2 u3 u4 =>
        refine .fn f xs ys us vs (u1.trans k1) (u2.trans l1) (fun i c v hc hv => ?_) fun i c v hc hv => ?_
        · obtain ⟨y, hy, hr⟩ := k2 i c hc
          exact ren0_rep hr (u3 i y v hy hv)
        · obtain ⟨y, hy, hr⟩ := l2 i c hc
          exact ren0_rep hr (u4 i y v hy hv)
    · cases h
  | und => exact ren0_rep h hy
  | d x => exact ren0_rep h hy
  | agg cs => exact ren0_rep h hy
  | nilS => exact ren0_rep h hy
  | lin i k => exact ren0_rep h hy
  | own i k z => exact ren0_rep h hy
  | rptr cs => exact ren0_rep h hy
  | ptr i r j => exact ren0_rep h hy
  | full rows => exact ren0_rep h hy
theorem renC_one {n : Nat} {σ : Nat → Nat} {x y : SV} (h : renC n σ x = some y) : x.one = y.one := by
  unfold renC at h
  split at h <;> first | (cases h; rfl) | (split at h <;> first | (cases h; rfl) | cases h) | cases h
theorem renCs_spec {n : Nat} {σ : Nat → Nat} : ∀ {l r : List SV}, renCs n σ l = some r → r.length = l.length ∧ ∀ (i : Nat) x, l[i]? = some x → ∃ y, r[i]? = some y ∧ renC n σ x = some y
  | [], r, h => by cases h; simp
  | c :: l, r, h => by
    simp only [renCs] at h
    split at h
    · rename_i d r' h1 h2
      cases h
      obtain ⟨k1, k2⟩ := renCs_spec h2
      refine ⟨by simp [k1], fun i x hx => ?_⟩
      match i with
      | 0 => simp only [List.getElem?_cons_zero, Option.some.injEq] at hx; subst hx; exact ⟨d, rfl, h1⟩
      | i + 1 => exact k2 i x (by simpa using hx)
    · cases h
theorem renS_rep {E : Env} {w : World} {n : Nat} {σ : Nat → Nat} {x y : SV} {v : Value} (h : renS n σ x = some y) (hy : Rep E w y v) : Rep (E.ren n σ) w x v := by
  unfold renS at h
  split at h
  · rename_i cs
    split at h
    · rename_i l hl
      cases h
      obtain ⟨k1, k2⟩ := renCs_spec hl
      cases hy with
      | agg _ vs h1 h2 h3 =>
        refine .agg _ _ (h1.trans k1) (fun c hc => ?_) fun i c v hc hv => ?_
        · obtain ⟨i, hi, rfl⟩ := List.getElem_of_mem hc
          obtain ⟨y, hy, hr⟩ := k2 i _ (List.getElem?_eq_getElem hi)
          rw [renC_one hr]
          exact h2 y (List.mem_of_getElem? hy)
        · obtain ⟨y, hy, hr⟩ := k2 i c hc
          exact renC_rep hr (h3 i y v hy hv)
    · cases h
  · exact renC_rep h hy
theorem renB_holds {E : Env} {w : World} {n : Nat} {σ : Nat → Nat} {b b' : Blk} {h : Home} (hb : renB n σ b = some b') (hh : Holds E w h b') : Holds (E.ren n σ) w h b ∧ b.frz = b'.frz := by
  unfold renB at hb
  split at hb
  · rename_i t cs f
    split at hb
    · rename_i l hl
      cases hb
      obtain ⟨k1, k2⟩ := renCs_spec hl
      cases hh with
      | box _ _ _ cur h1 h2 h3 h4 =>
        refine ⟨.box _ _ _ cur h1 (h2.trans k1) (fun c hc => ?_) fun i c v hc hv => ?_, rfl⟩
        · obtain ⟨i, hi, rfl⟩ := List.getElem_of_mem hc
          obtain ⟨y, hy, hr⟩ := k2 i _ (List.getElem?_eq_getElem hi)
          rw [renC_one hr]
          exact h3 y (List.mem_of_getElem? hy)
        · obtain ⟨y, hy, hr⟩ := k2 i c hc
          exact renC_rep hr (h4 i y v hy hv)
    · cases hb
  · cases hb
    cases hh with
    | row _ _ _ _ cur h1 h2 h3 h4 h5 h6 h7 h8 => exact ⟨.row _ _ _ _ cur h1 h2 h3 h4 h5 h6 h7 h8, rfl⟩

def mkSlots : List (Nat × SV) → Nat → SV
  | [] => fun _ => .und
  | (t, x) :: l => fun k => if k = t then x else mkSlots l k
def mkMem : List (Nat × Blk) → Nat → Option Blk
  | [] => fun _ => none
  | (t, x) :: l => fun k => if k = t then some x else mkMem l k
def mkSt (l : List (Nat × SV)) (m : List (Nat × Blk)) : St := ⟨mkSlots l, mkMem m⟩
/-- What a state says of the slots and blocks in a list; σ: which block has which name from now on. -/
structure Fits (n : Nat) (l : List (Nat × SV)) (m : List (Nat × Blk)) (σ : List Nat) (s : St) : Prop where
  len : σ.length = n
  slots : ∀ p ∈ l, renS n (fun i => σ.getD i 0) p.2 = some (s.slots p.1)
  mem : ∀ p ∈ m, p.1 < n ∧ ∃ b, s.mem (σ.getD p.1 0) = some b ∧ renB n (fun i => σ.getD i 0) p.2 = some b
  inj : σ.Nodup
theorem mkSlots_mem {l : List (Nat × SV)} {t : Nat} : mkSlots l t = .und ∨ ∃ p ∈ l, p.1 = t ∧ mkSlots l t = p.2 := by
  induction l with
  | nil => exact .inl rfl
  | cons p l ih =>
    obtain ⟨k, x⟩ := p
    simp only [mkSlots]
    by_cases e : t = k
    · exact .inr ⟨(k, x), List.mem_cons_self, e.symm, if_pos e⟩
    · rw [if_neg e]
      rcases ih with h | ⟨p, hp, h1, h2⟩
      · exact .inl h
      · exact .inr ⟨p, List.mem_cons_of_mem _ hp, h1, h2⟩
theorem mkMem_mem {l : List (Nat × Blk)} {t : Nat} {b : Blk} (h : mkMem l t = some b) : ∃ p ∈ l, p.1 = t ∧ b = p.2 := by
  induction l with
  | nil => cases h
  | cons p l ih =>
    obtain ⟨k, x⟩ := p
    simp only [mkMem] at h
    split at h
    · rename_i e; cases h; exact ⟨(k, b), List.mem_cons_self, e.symm, rfl⟩
    · obtain ⟨p, hp, h1, h2⟩ := ih h
      exact ⟨p, List.mem_cons_of_mem _ hp, h1, h2⟩
theorem Sim.fitsE {W0 : Fix} {R0 : Nat → Prop} {D : Nat → Prop} {s : St} {E : Env} {a : Act} {w : World} (h : Sim W0 R0 ns D s E a w) {n : Nat} {l : List (Nat × SV)} {m : List (Nat × Blk)} {σ : List Nat} (hf : Fits n l m σ s) :
    Sim W0 R0 ns (· < n) (mkSt l m) (E.ren n (fun i => σ.getD i 0)) a w := by
  refine ⟨h.below, h.ro0, h.ro1, h.rlt, h.size, h.dfr, fun t => ?_, fun i hi => hi.1, fun i b hi => ?_, fun i b hi => ?_, fun i b hi => ?_, fun i b hi => ?_, fun i j b c hi hj hij => ?_⟩
  · rcases mkSlots_mem (l := l) (t := t) with e | ⟨p, hp, rfl, e⟩
    · simp only [mkSt]; rw [e]; exact .und _
    · simp only [mkSt]; rw [e]; exact renS_rep (hf.slots p hp) (h.slot p.1)
  · obtain ⟨p, hp, rfl, rfl⟩ := mkMem_mem hi
    obtain ⟨h1, b, h2, h3⟩ := hf.mem p hp
    exact ⟨h1, h.live _ b h2⟩
  · obtain ⟨p, hp, rfl, rfl⟩ := mkMem_mem hi
    obtain ⟨h1, b, h2, h3⟩ := hf.mem p hp
    exact (renB_holds h3 (h.mem _ b h2)).1
  · obtain ⟨p, hp, rfl, rfl⟩ := mkMem_mem hi
    obtain ⟨h1, b, h2, h3⟩ := hf.mem p hp
    exact h.base _ b h2
  · obtain ⟨p, hp, rfl, rfl⟩ := mkMem_mem hi
    obtain ⟨h1, b, h2, h3⟩ := hf.mem p hp
    rw [(renB_holds h3 (h.mem _ b h2)).2]
    exact h.frz _ b h2
  · obtain ⟨p, hp, rfl, rfl⟩ := mkMem_mem hi
    obtain ⟨q, hq, rfl, rfl⟩ := mkMem_mem hj
    obtain ⟨h1, b, h2, h3⟩ := hf.mem p hp
    obtain ⟨k1, c, k2, k3⟩ := hf.mem q hq
    refine h.inj _ _ b c h2 k2 fun e => hij ?_
    have e1 : p.1 < σ.length := by rw [hf.len]; exact h1
    have e2 : q.1 < σ.length := by rw [hf.len]; exact k1
    have e : σ.getD p.1 0 = σ.getD q.1 0 := e
    rw [List.getD_eq_getElem?_getD, List.getD_eq_getElem?_getD, List.getElem?_eq_getElem e1, List.getElem?_eq_getElem e2] at e
    exact (List.getElem_inj hf.inj).1 e
theorem Sim.fits {W0 : Fix} {R0 : Nat → Prop} {D : Nat → Prop} {s : St} {E : Env} {a : Act} {w : World} (h : Sim W0 R0 ns D s E a w) {n : Nat} {l : List (Nat × SV)} {m : List (Nat × Blk)} {σ : List Nat} (hf : Fits n l m σ s) :
    ∃ E', Sim W0 R0 ns (· < n) (mkSt l m) E' a w := ⟨_, h.fitsE hf⟩
theorem AWp.fits {c : Code} {n n' : Nat} {s : St} {Q : Post} {l : List (Nat × SV)} {m : List (Nat × Blk)} {σ : List Nat} (hf : Fits n l m σ s) (h : AWp P tp ns c n (mkSt l m) Q) : AWp P tp ns c n' s Q := fun W0 R0 E a w ht hs => by
  obtain ⟨E', h1⟩ := hs.fits hf
  exact h W0 R0 E' a w ht h1
/-- A loop: at the head of round i it is in state i, as the lists say. -/
theorem AWp.loop {ι : Type} {c : Code} {n n0 : Nat} {s : St} {Q : Post} (l : ι → List (Nat × SV)) (m : ι → List (Nat × Blk)) (μ : ι → Nat) (i0 : ι) {σ : List Nat} (h0 : Fits n (l i0) (m i0) σ s)
    (round : ∀ i, AWp P tp ns c n (mkSt (l i) (m i)) (thenP (fun _ s' => ∃ j σ, Fits n (l j) (m j) σ s' ∧ μ j < μ i) Q)) : AWp P tp ns (.loop c) n0 s Q := fun W0 R0 E a w ht hs => by
  obtain ⟨E0, h1⟩ := hs.fits h0
  refine wp_loop_ix (fun i a w => ∃ E, Sim W0 R0 ns (· < n) (mkSt (l i) (m i)) E a w) μ (i := i0) ⟨E0, h1⟩ ?_
  rintro i a w ⟨E, hs⟩
  refine wp_mono (round i W0 R0 E a w ht hs) ?_
  rintro e a' w' ⟨n', s', E', h1, h2⟩
  cases e with
  | normal =>
    obtain ⟨j, σ, h3, h4⟩ := h2
    obtain ⟨E2, h5⟩ := h1.fits h3
    exact ⟨j, ⟨E2, h5⟩, h4⟩
  | _ => exact ⟨n', s', E', h1, h2⟩

/-! ### Functions -/
def startS (args : List Dat) : Nat → SV := fun t => match args[t]? with
  | some d => .d d
  | none => .und
/-- What a function returns. -/
def resSlot (T : Tab) (s : St) : ResultVar → Option SV
  | .tmp t => some (s.slots t)
  | .cell t ty => match T ty, s.slots t with
    | some i, .ptr id r j => loadSV s.mem i (.ptr id r j)
    | _, _ => none
def resSlots (T : Tab) (s : St) : List ResultVar → Option (List SV)
  | [] => some []
  | r :: rs => match resSlot T s r, resSlots T s rs with
    | some x, some l => some (x :: l)
    | _, _ => none
def resOk (rs : List ResultVar) (ns : Nat) : Bool := rs.all fun
  | .tmp t => decide (t < ns)
  | .cell t _ => decide (t < ns)
def resD : List Dat → Dat
  | [d] => d
  | ds => .tup ds
def Returns (T : Tab) (rs : List ResultVar) (s : St) (r : Dat) : Prop := ∃ xs ds is, resSlots T s rs = some xs ∧ escAll s.mem xs = some (ds, is) ∧ resD ds = r
def wrapRes : List Value → Value
  | [v] => v
  | vs => .tuple vs.toArray
def resGo (tmps : Array Value) : ResultVar → Sem Value
  | .tmp t => pure (tmps.getD t undef)
  | .cell a t => do loadVar t (← asAddr (tmps.getD a undef))
theorem resGo_run {W0 : Fix} {R0 : Nat → Prop} {D : Nat → Prop} {s : St} {E : Env} {a : Act} {w : World} (hT : TabOk P T) (h : Sim W0 R0 ns D s E a w) {r : ResultVar} (hr : resOk [r] ns = true) {x : SV} (hx : resSlot T s r = some x) : ∃ v, (resGo a.tmps r).run P w = .ok v w ∧ Rep E w x v := by
  cases r with
  | tmp t =>
    have ht : t < ns := by simpa [resOk] using hr
    cases hx
    have := h.slot t
    rw [if_pos ht] at this
    exact ⟨_, rfl, this⟩
  | cell t ty =>
    have ht : t < ns := by simpa [resOk] using hr
    simp only [resSlot] at hx
    split at hx
    · rename_i i id r' j hi hs
      have hp := h.slot t
      rw [if_pos ht, hs] at hp
      obtain ⟨z, hz, hrep⟩ := load_run hT h.mem hi hx hp
      obtain ⟨u, hu⟩ : ∃ u, a.tmps.getD t undef = u := ⟨_, rfl⟩
      rw [hu] at hp hz
      cases hp with
      | ptr _ _ _ hd =>
        refine ⟨z, ?_, hrep⟩
        simp only [resGo, hu]
        simpa [Instr.loadAt, Instr.sureAddr, asAddr] using hz
    · cases hx
theorem results_run {W0 : Fix} {R0 : Nat → Prop} {D : Nat → Prop} {s : St} {E : Env} {a : Act} {w : World} (hT : TabOk P T) (h : Sim W0 R0 ns D s E a w) {fn : Func} (hr : resOk fn.results.toList ns = true) {xs : List SV} (hx : resSlots T s fn.results.toList = some xs) :
    ∃ vs, (results fn a.tmps).run P w = .ok (wrapRes vs) w ∧ vs.length = xs.length ∧ ∀ (j : Nat) x v, xs[j]? = some x → vs[j]? = some v → Rep E w x v := by
  have key : ∀ (rs : List ResultVar) (xs : List SV), resOk rs ns = true → resSlots T s rs = some xs → ∃ vs, (rs.mapM (resGo a.tmps)).run P w = .ok vs w ∧ vs.length = xs.length ∧ ∀ (j : Nat) x v, xs[j]? = some x → vs[j]? = some v → Rep E w x v := by
    intro rs
    induction rs with
    | nil => intro xs _ hx; cases hx; exact ⟨[], by simp, rfl, by simp⟩
    | cons r rs ih =>
      intro xs hr hx
      simp only [resSlots] at hx
      split at hx
      · rename_i x l h1 h2
        cases hx
        have hr' : resOk [r] ns = true ∧ resOk rs ns = true := by simpa [resOk] using hr
        obtain ⟨v, hv, hrep⟩ := resGo_run hT h hr'.1 h1
        obtain ⟨vs, k1, k2, k3⟩ := ih l hr'.2 h2
        refine ⟨v :: vs, by simp only [List.mapM_cons, Sem.run_bind, hv, Result.andThen_ok, k1, Sem.run_pure], by simp [k2], fun j y u hy hu => ?_⟩
        match j with
        | 0 => simp at hy hu; subst hy; subst hu; exact hrep
        | j + 1 => exact k3 j y u (by simpa using hy) (by simpa using hu)
      · cases hx
  obtain ⟨vs, k1, k2, k3⟩ := key _ xs hr hx
  refine ⟨vs, ?_, k2, k3⟩
  have e : results fn a.tmps = (do let vs ← fn.results.mapM (resGo a.tmps); pure (if h : vs.size = 1 then vs[0] else .tuple vs)) := by
    unfold results
    congr 1
  rw [e, Array.mapM_eq_mapM_toList]
  simp only [Sem.run_bind, Sem.run_map, k1]
  match vs with
  | [] => rfl
  | [v] => rfl
  | v :: u :: l => simp [wrapRes]
/-- A function by its body. -/
theorem calls_core (hT : TabOk P T) {f : FuncId} {fn : Func} {c : Code} (hf : P.funcs[f]? = some fn) (hb : fn.body = some c) (args : List Dat) (r : Dat) (hl : args.length ≤ fn.ntmps) (hr : resOk fn.results.toList fn.ntmps = true)
    (h : AWp P tp fn.ntmps c 0 ⟨startS args, fun _ => none⟩ (fun e _ s => (e = .normal ∨ e = .ret) ∧ Returns T fn.results.toList s r)) (ro : Nat → Prop) (w : World) (vs : Array Value) (hro : ∀ b, ro b → b < w.heap.size) (htop : tp = true → ∀ b, b < w.heap.size → ro b)
    (hsz : vs.size = args.length) (hrep : ∀ (i : Nat) d v, args[i]? = some d → vs[i]? = some v → RepD ro w d v) :
    Calls P f vs w fun e w' => ∃ v, e = .returned v ∧ Below w.heap.size w w' ∧ RepD (fun b => ro b ∨ (w.heap.size ≤ b ∧ b < w'.heap.size)) w' r v := by
  refine calls_of_wp hf hb ?_
  have hs0 : Sim (fixOf w) ro fn.ntmps (· < 0) ⟨startS args, fun _ => none⟩ ⟨ro, fun _ => False, fun _ => ⟨0, 0, 0⟩⟩ { tmps := vs ++ Array.replicate (fn.ntmps - vs.size) undef, defers := [] } w := by
    refine ⟨Kept.refl _ _, fun b h => h, fun b h => .inl h, hro, by simp; omega, rfl, fun t => ?_, fun i h => h.elim, (fun i b h => by cases h), (fun i b h => by cases h), (fun i b h => by cases h), (fun i b h => by cases h), (fun i j b c h => by cases h)⟩
    simp only [startS]
    cases hd : args[t]? with
    | none => exact .und _
    | some d =>
      have hlt : t < vs.size := by have := (List.getElem?_eq_some_iff.1 hd).1; omega
      have e : (vs ++ Array.replicate (fn.ntmps - vs.size) undef).getD t undef = vs[t] := by simp [Array.getElem?_append, hlt]
      rw [if_pos (by omega), e]
      exact .d _ _ (hrep t d _ hd (Array.getElem?_eq_getElem hlt))
  refine wp_mono (h (fixOf w) ro _ _ w htop hs0) ?_
  rintro e a' w' ⟨n', s', E', hs, he, xs, ds, is, hxs, h1, h2⟩
  have fin : a'.defers = [] ∧ ∃ v, (results fn a'.tmps).run P w' = .ok v w' ∧ ∃ v', Ending.returned v = .returned v' ∧ Below w.heap.size w w' ∧ RepD (fun b => ro b ∨ (w.heap.size ≤ b ∧ b < w'.heap.size)) w' r v' := by
    obtain ⟨vs', r1, r2, r3⟩ := results_run hT hs hr hxs
    refine ⟨hs.dfr, _, r1, _, rfl, hs.below.below, ?_⟩
    obtain ⟨E1, e1, e2, e3, e4, e5⟩ := hs.freezes is (escAll_ids h1)
    obtain ⟨q1, q2⟩ := escAll_rep (m0 := s'.mem) (m := frzM s'.mem is) (fun i t z rows f hh => frzM_row hh) (fun i b hb => e2.mem i b hb) h1 e3
    have hD : ∀ (j : Nat) d v, ds[j]? = some d → vs'[j]? = some v → RepD (fun b => ro b ∨ (w.heap.size ≤ b ∧ b < w'.heap.size)) w' d v := by
      intro j d v hd hv
      have hj : j < xs.length := by rw [← r2]; exact (List.getElem?_eq_some_iff.1 hv).1
      refine (q2 j _ d v (List.getElem?_eq_getElem hj) hd ((r3 j _ v (List.getElem?_eq_getElem hj) hv).keep e1 fun _ _ => rfl)).keep (fun b hb => ?_) fun _ _ => rfl
      rcases e2.ro1 b hb with h | h
      · exact .inl h
      · exact .inr ⟨Nat.le_of_not_lt h, e2.rlt b hb⟩
    have hvl : vs'.length = ds.length := by rw [r2, q1]
    subst h2
    match ds, vs', hvl, hD with
    | [], [], _, _ => exact .tup _ _ rfl (by simp)
    | [d], [v], _, hD => exact hD 0 d v rfl rfl
    | d :: d' :: ds, v :: v' :: vs', hvl, hD => exact .tup _ _ (by simpa using hvl) fun i c v hc hv => hD i c v hc (by simpa using hv)
  rcases he with rfl | rfl
  · exact fin
  · exact fin
theorem acall_of (hT : TabOk P T) {f : FuncId} {fn : Func} {c : Code} (hf : P.funcs[f]? = some fn) (hn : (fn.name == "runtime.NumGoroutine") = false) (hb : fn.body = some c) (args : List Dat) (r : Dat) (hl : args.length ≤ fn.ntmps) (hr : resOk fn.results.toList fn.ntmps = true)
    (h : AWp P false fn.ntmps c 0 ⟨startS args, fun _ => none⟩ (fun e _ s => (e = .normal ∨ e = .ret) ∧ Returns T fn.results.toList s r)) : ACall P f args r :=
  ⟨callable_of hf hn (by rw [hb]; rfl), fun ro w vs hro hsz hrep => calls_core hT hf hb args r hl hr h ro w vs hro (fun h => by cases h) hsz hrep⟩
end Go.Proofs.Ytigpefjeelgfdaa.Eng

/-
  The engine, part P: entries of a table of types. No program is named here.
-/
namespace Go.Proofs.Ytigpefjeelgfdaa.Eng
open Go.RowKit
variable {P : Program}

theorem tiOk_mk {t : TypeId} {i : TI} {z : Value} (h : (P.info? t).map (fun i => (i.zero, i.size, i.bytes)) = some (some z, i.size, i.bytes)) (hz : z.cells = i.zero.toArray) (h1 : i.zero.all Value.oneCell' = true) (hl : i.zero.length = i.size) (hp : 0 < i.size)
    (und : match i.kind with
      | .int k => P.underlying t = some (.int k)
      | .bool => P.underlying t = some .bool
      | .cell => ∃ d, P.underlying t = some d ∧ (∀ fs, d ≠ .struct fs) ∧ ∀ n e, d ≠ .array n e
      | .slice e => P.underlying t = some (.slice e)
      | .struct fs => ∃ fields, P.underlying t = some (.struct fields) ∧ fields.toList.map (fun f => (f.offset, f.type)) = fs
      | .array n e => P.underlying t = some (.array n e))
    (hs : (i.kind.agg || i.size == 1) = true)
    (eqs : i.eqk ≠ [] → ∀ (w : World) (x y : Operand) (m n : List Int), m.length = i.eqk.length → n.length = i.eqk.length →
      (do eqGuard .eql t x y (aggInts i.eqk m) (aggInts i.eqk n); binOp .eql t (aggInts i.eqk m) (aggInts i.eqk n) : Sem Value).run P w = .ok (.bool (decide (m = n))) w ∧
      (do eqGuard .neq t x y (aggInts i.eqk m) (aggInts i.eqk n); binOp .neq t (aggInts i.eqk m) (aggInts i.eqk n) : Sem Value).run P w = .ok (.bool (decide (m ≠ n))) w) : TiOk P t i := by
  refine ⟨?_, fun v hv => List.all_eq_true.1 h1 v hv, hl, hp, und, fun ha => ?_, eqs⟩
  · rw [Option.map_eq_some_iff] at h
    obtain ⟨inf, h2, h3⟩ := h
    simp only [Prod.mk.injEq] at h3
    exact ⟨inf, z, h2, h3.2.1, h3.2.2, h3.1, hz⟩
  · rw [ha, Bool.false_or, beq_iff_eq] at hs
    exact hs

theorem agg_eq_run {t : TypeId} (w : World) (x y : Operand) (xs ys : Array Value) (b : Bool) (hg : P.eqGuardType P.depth t = false) (h : (Op.equal t (.agg xs) (.agg ys)).run P w = .ok b w) :
    (do eqGuard .eql t x y (.agg xs) (.agg ys); binOp .eql t (.agg xs) (.agg ys) : Sem Value).run P w = .ok (.bool b) w ∧
    (do eqGuard .neq t x y (.agg xs) (.agg ys); binOp .neq t (.agg xs) (.agg ys) : Sem Value).run P w = .ok (.bool (!b)) w := by
  have e1 : binOp .eql t (.agg xs) (.agg ys) = (do pure (.bool (← Op.equal t (.agg xs) (.agg ys)))) := rfl
  have e2 : binOp .neq t (.agg xs) (.agg ys) = (do pure (.bool (!(← Op.equal t (.agg xs) (.agg ys))))) := rfl
  have g1 : (eqGuard .eql t x y (.agg xs) (.agg ys)).run P w = .ok () w := by simp [eqGuard, hg]
  have g2 : (eqGuard .neq t x y (.agg xs) (.agg ys)).run P w = .ok () w := by simp [eqGuard, hg]
  rw [e1, e2]
  simp only [Sem.run_bind, g1, g2, h, Result.andThen_ok, Sem.run_pure, and_self]
theorem fieldsOf_eq {t : TypeId} {fs : Array Field} (h : P.underlying t = some (.struct fs)) : P.fieldsOf t = fs := by simp [Program.fieldsOf, h]
theorem part_int {t : TypeId} {k : IntKind} (h : P.underlying t = some (.int k)) (w : World) (cs : Array Value) (i : Nat) (v : Value) (hv : cs[i]? = some v) : (part t cs i).run P w = .ok v w := by
  simp [part, isAgg, run_underlying h, hv]
theorem decide_not_eq (p : Prop) [Decidable p] : (!decide p) = decide (¬ p) := by by_cases h : p <;> simp [h]
theorem eqs_by_1 {t t0 : TypeId} {f0 : Field} {k0 : IntKind} (w : World) (x y : Operand) {m n : List Int} (hm : m.length = 1) (hn : n.length = 1) (hg : P.eqGuardType P.depth t = false) (hs : P.stoodInHeld t = false) (hu : P.underlying t = some (.struct #[f0])) (h0 : P.underlying t0 = some (.int k0))
    (hf : f0.type = t0 ∧ f0.offset = 0 ∧ f0.name ≠ "_") :
    (do eqGuard .eql t x y (aggInts [k0] m) (aggInts [k0] n); binOp .eql t (aggInts [k0] m) (aggInts [k0] n) : Sem Value).run P w = .ok (.bool (decide (m = n))) w ∧
    (do eqGuard .neq t x y (aggInts [k0] m) (aggInts [k0] n); binOp .neq t (aggInts [k0] m) (aggInts [k0] n) : Sem Value).run P w = .ok (.bool (decide (m ≠ n))) w := by
  match m, n, hm, hn with
  | [a], [b], _, _ =>
    obtain ⟨rfl, o0, n0⟩ := hf
    have he : (Op.equal t (aggInts [k0] [a]) (aggInts [k0] [b])).run P w = .ok (decide ([a] = [b])) w := by
      unfold Op.equal aggInts
      rw [show Op.maxDepth = 9998 + 1 + 1 from rfl, run_equalIn_struct w _ t _ _ (by rw [fieldsOf_eq hu]; exact hu) hs, fieldsOf_eq hu]
      by_cases c : a = b
      · subst c; simp [Op.eqFields, n0, o0, part_int h0, run_equalIn_int w _ _ k0 k0 _ _ h0]
      · simp [Op.eqFields, n0, o0, part_int h0, run_equalIn_int w _ _ k0 k0 _ _ h0, c]
    have := agg_eq_run w x y _ _ _ hg he
    rw [decide_not_eq] at this
    exact this
theorem eqs_by_2 {t t0 t1 : TypeId} {f0 f1 : Field} {k0 k1 : IntKind} (w : World) (x y : Operand) {m n : List Int} (hm : m.length = 2) (hn : n.length = 2) (hg : P.eqGuardType P.depth t = false) (hs : P.stoodInHeld t = false) (hu : P.underlying t = some (.struct #[f0, f1])) (h0 : P.underlying t0 = some (.int k0)) (h1 : P.underlying t1 = some (.int k1))
    (hf : f0.type = t0 ∧ f0.offset = 0 ∧ f0.name ≠ "_" ∧ f1.type = t1 ∧ f1.offset = 1 ∧ f1.name ≠ "_") :
    (do eqGuard .eql t x y (aggInts [k0, k1] m) (aggInts [k0, k1] n); binOp .eql t (aggInts [k0, k1] m) (aggInts [k0, k1] n) : Sem Value).run P w = .ok (.bool (decide (m = n))) w ∧
    (do eqGuard .neq t x y (aggInts [k0, k1] m) (aggInts [k0, k1] n); binOp .neq t (aggInts [k0, k1] m) (aggInts [k0, k1] n) : Sem Value).run P w = .ok (.bool (decide (m ≠ n))) w := by
  match m, n, hm, hn with
  | [a, c], [b, d], _, _ =>
    obtain ⟨rfl, o0, n0, rfl, o1, n1⟩ := hf
    have he : (Op.equal t (aggInts [k0, k1] [a, c]) (aggInts [k0, k1] [b, d])).run P w = .ok (decide ([a, c] = [b, d])) w := by
      unfold Op.equal aggInts
      rw [show Op.maxDepth = 9998 + 1 + 1 from rfl, run_equalIn_struct w _ t _ _ (by rw [fieldsOf_eq hu]; exact hu) hs, fieldsOf_eq hu]
      by_cases q : a = b
      · subst q
        by_cases q : c = d
        · subst q; simp [Op.eqFields, n0, o0, n1, o1, part_int h0, part_int h1, run_equalIn_int w _ _ k0 k0 _ _ h0, run_equalIn_int w _ _ k1 k1 _ _ h1]
        · simp [Op.eqFields, n0, o0, n1, o1, part_int h0, part_int h1, run_equalIn_int w _ _ k0 k0 _ _ h0, run_equalIn_int w _ _ k1 k1 _ _ h1, q]
      · simp [Op.eqFields, n0, o0, n1, o1, part_int h0, part_int h1, run_equalIn_int w _ _ k0 k0 _ _ h0, run_equalIn_int w _ _ k1 k1 _ _ h1, q]
    have := agg_eq_run w x y _ _ _ hg he
    rw [decide_not_eq] at this
    exact this
theorem eqs_by_3 {t t0 t1 t2 : TypeId} {f0 f1 f2 : Field} {k0 k1 k2 : IntKind} (w : World) (x y : Operand) {m n : List Int} (hm : m.length = 3) (hn : n.length = 3) (hg : P.eqGuardType P.depth t = false) (hs : P.stoodInHeld t = false) (hu : P.underlying t = some (.struct #[f0, f1, f2])) (h0 : P.underlying t0 = some (.int k0)) (h1 : P.underlying t1 = some (.int k1)) (h2 : P.underlying t2 = some (.int k2))
    (hf : f0.type = t0 ∧ f0.offset = 0 ∧ f0.name ≠ "_" ∧ f1.type = t1 ∧ f1.offset = 1 ∧ f1.name ≠ "_" ∧ f2.type = t2 ∧ f2.offset = 2 ∧ f2.name ≠ "_") :
    (do eqGuard .eql t x y (aggInts [k0, k1, k2] m) (aggInts [k0, k1, k2] n); binOp .eql t (aggInts [k0, k1, k2] m) (aggInts [k0, k1, k2] n) : Sem Value).run P w = .ok (.bool (decide (m = n))) w ∧
    (do eqGuard .neq t x y (aggInts [k0, k1, k2] m) (aggInts [k0, k1, k2] n); binOp .neq t (aggInts [k0, k1, k2] m) (aggInts [k0, k1, k2] n) : Sem Value).run P w = .ok (.bool (decide (m ≠ n))) w := by
  match m, n, hm, hn with
  | [a, c, e], [b, d, f], _, _ =>
    obtain ⟨rfl, o0, n0, rfl, o1, n1, rfl, o2, n2⟩ := hf
    have he : (Op.equal t (aggInts [k0, k1, k2] [a, c, e]) (aggInts [k0, k1, k2] [b, d, f])).run P w = .ok (decide ([a, c, e] = [b, d, f])) w := by
      unfold Op.equal aggInts
      rw [show Op.maxDepth = 9998 + 1 + 1 from rfl, run_equalIn_struct w _ t _ _ (by rw [fieldsOf_eq hu]; exact hu) hs, fieldsOf_eq hu]
      by_cases q : a = b
      · subst q
        by_cases q : c = d
        · subst q
          by_cases q : e = f
          · subst q; simp [Op.eqFields, n0, o0, n1, o1, n2, o2, part_int h0, part_int h1, part_int h2, run_equalIn_int w _ _ k0 k0 _ _ h0, run_equalIn_int w _ _ k1 k1 _ _ h1, run_equalIn_int w _ _ k2 k2 _ _ h2]
          · simp [Op.eqFields, n0, o0, n1, o1, n2, o2, part_int h0, part_int h1, part_int h2, run_equalIn_int w _ _ k0 k0 _ _ h0, run_equalIn_int w _ _ k1 k1 _ _ h1, run_equalIn_int w _ _ k2 k2 _ _ h2, q]
        · simp [Op.eqFields, n0, o0, n1, o1, n2, o2, part_int h0, part_int h1, part_int h2, run_equalIn_int w _ _ k0 k0 _ _ h0, run_equalIn_int w _ _ k1 k1 _ _ h1, run_equalIn_int w _ _ k2 k2 _ _ h2, q]
      · simp [Op.eqFields, n0, o0, n1, o1, n2, o2, part_int h0, part_int h1, part_int h2, run_equalIn_int w _ _ k0 k0 _ _ h0, run_equalIn_int w _ _ k1 k1 _ _ h1, run_equalIn_int w _ _ k2 k2 _ _ h2, q]
    have := agg_eq_run w x y _ _ _ hg he
    rw [decide_not_eq] at this
    exact this

/-! ### Regions whose order is the text's; calls of which less is known -/
/-- Called with values that say these data, wherever they lie, it returns one that says that, somewhere, and leaves what was there as it is. -/
structure WCall (P : Program) (f : FuncId) (args : List Dat) (r : Dat) : Prop where
  callable : Callable P f
  calls : ∀ (w : World) (vs : Array Value), vs.size = args.length → (∀ (i : Nat) d v, args[i]? = some d → vs[i]? = some v → RepD (· < w.heap.size) w d v) →
    Calls P f vs w fun e w' => ∃ v, e = .returned v ∧ Below w.heap.size w w' ∧ RepD (· < w'.heap.size) w' r v
theorem ACall.weak {f : FuncId} {args : List Dat} {r : Dat} (h : ACall P f args r) : WCall P f args r :=
  ⟨h.callable, fun w vs hs hr => (h.calls (· < w.heap.size) w vs (fun _ h => h) hs hr).mono fun e w' ⟨v, he, hb, hv⟩ => ⟨v, he, hb, hv.keep (fun b hb' => by
    rcases hb' with h | h
    · exact Nat.lt_of_lt_of_le h hb.size
    · exact h.2) fun _ _ => rfl⟩⟩
theorem wcall_of {T : Tab} (hT : TabOk P T) {f : FuncId} {fn : Func} {c : Code} (hf : P.funcs[f]? = some fn) (hn : (fn.name == "runtime.NumGoroutine") = false) (hb : fn.body = some c) (args : List Dat) (r : Dat) (hl : args.length ≤ fn.ntmps) (hr : resOk fn.results.toList fn.ntmps = true)
    (h : AWp P true fn.ntmps c 0 ⟨startS args, fun _ => none⟩ (fun e _ s => (e = .normal ∨ e = .ret) ∧ Returns T fn.results.toList s r)) : WCall P f args r :=
  ⟨callable_of hf hn (by rw [hb]; rfl), fun w vs hsz hrep => (calls_core hT hf hb args r hl hr h (· < w.heap.size) w vs (fun _ h => h) (fun _ _ h => h) hsz hrep).mono fun e w' ⟨v, he, hb, hv⟩ => ⟨v, he, hb, hv.keep (fun b hb' => by
    rcases hb' with h | h
    · exact Nat.lt_of_lt_of_le h hb.size
    · exact h.2) fun _ _ => rfl⟩⟩
/-- Data without memory behind them. -/
inductive Flat : Dat → Prop
  | val (v) : Flat (.val v)
  | agg (cs : List Dat) : (∀ c ∈ cs, ∃ v, c = .val v) → Flat (.agg cs)
  | tup (cs : List Dat) : (∀ c ∈ cs, ∃ v, c = .val v) → Flat (.tup cs)
theorem flat_any {ro ro' : Nat → Prop} {w w' : World} {x : Dat} {v : Value} (hf : Flat x) (h : RepD ro w x v) : RepD ro' w' x v := by
  have key : ∀ {c : Dat} {u : Value}, (∃ v, c = .val v) → RepD ro w c u → RepD ro' w' c u := fun {c u} ⟨v, e⟩ hr => by subst e; cases hr with | val _ h => exact .val _ h
  cases hf with
  | val => exact key ⟨_, rfl⟩ h
  | agg cs hc => cases h with | agg _ vs h1 h2 h3 => exact .agg _ _ h1 h2 fun i c v hc' hv => key (hc c (List.mem_of_getElem? hc')) (h3 i c v hc' hv)
  | tup cs hc => cases h with | tup _ vs h1 h3 => exact .tup _ _ h1 fun i c v hc' hv => key (hc c (List.mem_of_getElem? hc')) (h3 i c v hc' hv)
/-- What returns no memory is known whole. -/
theorem WCall.strong {f : FuncId} {args : List Dat} {r : Dat} (h : WCall P f args r) (hf : Flat r) : ACall P f args r :=
  ⟨h.callable, fun ro w vs hro hs hr => (h.calls w vs hs fun i d v hd hv => (hr i d v hd hv).keep hro fun _ _ => rfl).mono fun e w' ⟨v, he, hb, hv⟩ => ⟨v, he, hb, flat_any hf hv⟩⟩
/-- All own blocks are read for good. -/
def AllFrz (m : Nat → Option Blk) : Prop := ∀ i b, m i = some b → b.frz = true
/-- As a weak call, but what it returns is one of some data. -/
structure ECall (P : Program) (f : FuncId) (args : List Dat) (R : Dat → Prop) : Prop where
  callable : Callable P f
  calls : ∀ (w : World) (vs : Array Value), vs.size = args.length → (∀ (i : Nat) d v, args[i]? = some d → vs[i]? = some v → RepD (· < w.heap.size) w d v) →
    Calls P f vs w fun e w' => ∃ r v, R r ∧ e = .returned v ∧ Below w.heap.size w w' ∧ RepD (· < w'.heap.size) w' r v
theorem WCall.one {f : FuncId} {args : List Dat} {r : Dat} (h : WCall P f args r) : ECall P f args (· = r) :=
  ⟨h.callable, fun w vs hs hr => (h.calls w vs hs hr).mono fun e w' ⟨v, h1, h2, h3⟩ => ⟨r, v, rfl, h1, h2, h3⟩⟩
def StepW (P : Program) (ev : Operand → Option SV) (m : Nat → Option Blk) (o : Op) (R : Dat → Prop) : Prop :=
  ∃ f args svs ds, fnOf o = some (f, args) ∧ evList ev args = some svs ∧ escAll m svs = some (ds, []) ∧ ECall P f ds R ∧ AllFrz m
variable {W0 : Fix} {R0 : Nat → Prop} {T : Tab} {ns : Nat} {D : Nat → Prop} {s : St} {E : Env} {a : Act} {w : World}
theorem stepW_wp (h : Sim W0 R0 ns D s E a w) (htop : ∀ b, W0.U b → R0 b) {nid : Nat} {o : Oper} (hd : ∀ t, o.dst = some t → t < ns) {R : Dat → Prop} (hs : StepW P (opd ns s) s.mem o.op R) {K : Act → World → Prop} {Q : Exit → Act → World → Prop}
    (hK : ∀ r, R r → ∀ E' a' w', Sim W0 R0 ns (fun k => k = nid ∨ D k) (putS s nid o.dst { res := .d r }) E' a' w' → K a' w') : o.wp P a w K Q := by
  obtain ⟨f, args, svs, ds, hf, h1, h2, h3, h4⟩ := hs
  obtain ⟨c, ho, hc, ha⟩ := fnOf_eq hf
  obtain ⟨p1, p2⟩ := evList_rep (w := w) (E := E) (ev := opd ns s) (ρ := a.eval) (fun x v hx => h.opd hx) h1
  obtain ⟨q1, q2⟩ := escAll_rep (m0 := s.mem) (m := s.mem) (fun i t z rows f hh => ⟨f, hh⟩) (fun i b hb => h.mem i b hb) h2 (by simp)
  have hex : (execOp a.eval o).run P w = .ok (.enter f (c.args.map a.eval)) w := by
    have hcc := h3.callable (c.args.map a.eval) w
    simp only [execOp, ho, resolve, hc, Act.eval, Deferred.ofValue, invoke, Sem.run_bind, Sem.run_pure, Result.andThen_ok, Array.append_empty, Array.empty_append]
    exact hcc
  unfold Oper.wp
  rw [hex, Oper.upon_enter]
  refine (h3.calls w (c.args.map a.eval) (by simp; have := congrArg List.length ha; simp at this; omega) fun i d v hd hv => ?_).mono ?_
  · have hi : i < svs.length := by have := (List.getElem?_eq_some_iff.1 hd).1; omega
    refine (q2 i svs[i] d v (List.getElem?_eq_getElem hi) hd (p2 i svs[i] v (List.getElem?_eq_getElem hi) ?_)).keep h.rlt fun _ _ => rfl
    rw [← ha]
    simpa using hv
  · rintro e w' ⟨r, v, hR, rfl, hb, hr⟩
    let E2 : Env := { E with ro := fun b => b < w'.heap.size }
    have hE : E.le E2 := ⟨fun b hb' => Nat.lt_of_lt_of_le (h.rlt b hb') hb.size, fun _ h => h, fun _ _ => rfl⟩
    have hw : ∀ b, E.ro b → w'.heap[b]? = w.heap[b]? := fun b hb' => hb.block b (h.rlt b hb')
    have h5 : Sim W0 R0 ns (fun k => k = nid ∨ D k) s E2 a w' := by
      refine ⟨h.below.trans (h.kept hb), fun b hb' => hE.ro b (h.ro0 b hb'), fun b hb' => ?_, fun b hb' => hb', h.size, h.dfr, fun t => (h.slot t).keep hE hw, fun i hi => .inr (h.dom i hi), h.live, fun i b hi => (h.mem i b hi).keep hE hw (hb.block _ (h.mem i b hi).lt), h.base, fun i b hi => ?_, h.inj⟩
      · rcases Classical.em (W0.U b) with h | h
        · exact .inl (htop b h)
        · exact .inr h
      · exact ⟨fun _ => Nat.lt_of_lt_of_le (h.mem i b hi).lt hb.size, fun _ => h4 i b hi⟩
    exact hK r hR E2 _ w' (h5.put hd (.d _ _ hr))

/-- After this operation one goes on in one of some states. -/
def StepG (P : Program) (tp : Bool) (ns nid : Nat) (s : St) (o : Oper) (G : St → Prop) : Prop :=
  ∀ (W0 : Fix) (R0 : Nat → Prop) (D : Nat → Prop) (E : Env) (a : Act) (w : World), (tp = true → ∀ b, W0.U b → R0 b) → Sim W0 R0 ns D s E a w → ¬ D nid → (∀ t, o.dst = some t → t < ns) →
    ∀ (K : Act → World → Prop) (Q : Exit → Act → World → Prop), (∀ s' E' a' w', G s' → Sim W0 R0 ns (fun k => k = nid ∨ D k) s' E' a' w' → K a' w') → o.wp P a w K Q
theorem stepG_w {tp : Bool} (ht : tp = true) {ns nid : Nat} {s : St} {o : Oper} {R : Dat → Prop} (hs : StepW P (opd ns s) s.mem o.op R) : StepG P tp ns nid s o fun s' => ∃ r, R r ∧ s' = putS s nid o.dst { res := .d r } :=
  fun _ _ _ _ _ _ htop h _ hd _ _ hK => stepW_wp h (htop ht) hd hs fun r hr _ _ _ h' => hK _ _ _ _ ⟨r, hr, rfl⟩ h'
/-- Operations that call a Go function. -/
def waits : Op → Bool
  | .call c => match c.callee with
    | .builtin _ => false
    | _ => true
  | _ => false
theorem waits_fnOf {o : Op} (h : waits o = false) : fnOf o = none := by
  cases hf : fnOf o with
  | none => rfl
  | some x =>
    obtain ⟨f, args⟩ := x
    obtain ⟨c, rfl, hc, _⟩ := fnOf_eq hf
    simp [waits, hc] at h
/-- The operations one behind the other, without a log. -/
def Exec0 (P : Program) (tp : Bool) (T : Tab) (ops : Array Oper) (ns : Nat) : Nat → List Oper → St → (St → Prop) → Prop
  | _, [], s, Q => Q s
  | nid, o :: l, s, Q => match guardS ops ns s o with
    | some true => (∃ out, Step P T ns nid s o.op out ∧ Exec0 P tp T ops ns (nid + 1) l (putS s nid o.dst out) Q) ∨
      (waits o.op = true ∧ ∃ G, StepG P tp ns nid s o G ∧ ∀ s', G s' → Exec0 P tp T ops ns (nid + 1) l s' Q)
    | some false => Exec0 P tp T ops ns (nid + 1) l { s with slots := setSlot s.slots o.dst .und } Q
    | none => False
theorem exec0_list {tp : Bool} (hT : TabOk P T) (htop : tp = true → ∀ b, W0.U b → R0 b) {ops : Array Oper} {Q : Exit → Act → World → Prop} : ∀ (l : List Oper) (nid : Nat) {s : St} {E : Env} {a : Act} {w : World} {Q' : St → Prop}, Exec0 P tp T ops ns nid l s Q' →
    Sim W0 R0 ns (· < nid) s E a w → (∀ s' E' a' w', Sim W0 R0 ns (· < nid + l.length) s' E' a' w' → Q' s' → Q .normal a' w') → wpList P ops Q l a w
  | [], nid, s, E, a, w, Q', h, hs, hQ => hQ s E a w hs h
  | o :: l, nid, s, E, a, w, Q', h, hs, hQ => by
    simp only [Exec0] at h
    refine wpList_step fun K hK => ?_
    split at h
    · rename_i hg
      rw [guard_ok hs hg, if_pos rfl]
      have fin : ∀ s1, Exec0 P tp T ops ns (nid + 1) l s1 Q' → ∀ E' a' w', Sim W0 R0 ns (fun k => k = nid ∨ k < nid) s1 E' a' w' → K a' w' := fun s1 h2 E' a' w' hs' => hK _ _ (by
        refine exec0_list hT htop l (nid + 1) h2 (hs'.weak fun i hi => by omega) fun s' E' a' w' hs2 hq => hQ s' E' a' w' ?_ hq
        rw [List.length_cons, show nid + (l.length + 1) = nid + 1 + l.length by omega]
        exact hs2)
      rcases h with ⟨out, h1, h2⟩ | ⟨_, G, h1, h2⟩
      · exact step_wp hT hs (nid := nid) (by omega) (guardS_dst hg) h1 (fin _ h2)
      · exact h1 W0 R0 _ E a w htop hs (by omega) (guardS_dst hg) _ _ fun s' E' a' w' hG h' => fin s' (h2 s' hG) E' a' w' h'
    · rename_i hg
      rw [guard_ok hs hg, if_neg (by simp)]
      refine hK _ _ (exec0_list hT htop l (nid + 1) h ((hs.put (guardS_dst hg) (.und undef)).weak fun i hi => by omega) fun s' E' a' w' hs2 hq => hQ s' E' a' w' ?_ hq)
      rw [List.length_cons, show nid + (l.length + 1) = nid + 1 + l.length by omega]
      exact hs2
    · exact h.elim
theorem AWp.reg {tp : Bool} (hT : TabOk P T) {id n : Nat} {l : List Oper} {s : St} {Q : Post} (h : Exec0 P tp T l.toArray ns n l s (fun s' => Q .normal (n + l.length) s')) : AWp P tp ns (.region id l.toArray false) n s Q :=
  fun _ _ _ _ _ ht hs => wp_region_lit (exec0_list hT ht l n h hs fun s' E' _ _ h1 h2 => ⟨_, s', E', h1, h2⟩)
/-- All own blocks are read for good from here on. -/
theorem Sim.sealL : ∀ (ids : List Nat) {s : St} {E : Env}, Sim W0 R0 ns D s E a w → ∃ E', E.le E' ∧ Sim W0 R0 ns D { s with mem := frzM s.mem ids } E' a w
  | [], s, E, h => ⟨E, Env.le.refl E, h⟩
  | i :: l, s, E, h => by
    cases hi : s.mem i with
    | none =>
      obtain ⟨E1, e1, h1⟩ := Sim.sealL l h
      refine ⟨E1, e1, ?_⟩
      have : frzM s.mem (i :: l) = frzM s.mem l := by
        simp only [frzM, hi, Option.map_none]
        congr 1
        funext k
        unfold setMem
        split
        · rename_i e; rw [e, hi]
        · rfl
      rw [this]
      exact h1
    | some b =>
      obtain ⟨E1, e1, h1, _⟩ := h.freeze hi
      obtain ⟨E2, e2, h2⟩ := Sim.sealL l h1
      refine ⟨E2, e1.trans e2, ?_⟩
      simp only [frzM, hi, Option.map_some]
      exact h2
theorem frzM_get (i : Nat) : ∀ (ids : List Nat) (m : Nat → Option Blk), frzM m ids i = if i ∈ ids then (m i).map frzB else m i
  | [], m => by simp [frzM]
  | k :: l, m => by
    simp only [frzM]
    rw [frzM_get i l]
    by_cases e : i = k
    · subst e
      have e1 : setMem m i ((m i).map frzB) i = (m i).map frzB := if_pos rfl
      rw [e1, if_pos List.mem_cons_self]
      split
      · cases m i with
        | none => rfl
        | some b => cases b <;> rfl
      · rfl
    · have e1 : setMem m k ((m k).map frzB) i = m i := if_neg e
      rw [e1]
      simp only [List.mem_cons, e, false_or]
theorem mkMem_frz (i : Nat) : ∀ (m : List (Nat × Blk)), (mkMem m i).map frzB = mkMem (m.map fun p => (p.1, frzB p.2)) i
  | [] => rfl
  | (k, b) :: m => by
    simp only [mkMem, List.map_cons]
    by_cases e : i = k
    · rw [if_pos e, if_pos e]; rfl
    · rw [if_neg e, if_neg e]
      exact mkMem_frz i m
theorem AWp.frost {tp : Bool} {c : Code} {n : Nat} {l : List (Nat × SV)} {m : List (Nat × Blk)} {Q : Post} (h : AWp P tp ns c n (mkSt l (m.map fun p => (p.1, frzB p.2))) Q) : AWp P tp ns c n (mkSt l m) Q := fun W0 R0 E a w ht hs => by
  obtain ⟨E', _, h1⟩ := hs.sealL (m.map (·.1))
  refine h W0 R0 E' a w ht ?_
  have e : frzM (mkSt l m).mem (m.map (·.1)) = (mkSt l (m.map fun p => (p.1, frzB p.2))).mem := by
    funext i
    rw [frzM_get]
    simp only [mkSt]
    split
    · exact mkMem_frz i m
    · rename_i hn
      rw [← mkMem_frz]
      cases hb : mkMem m i with
      | none => rfl
      | some b =>
        obtain ⟨p, hp, rfl, _⟩ := mkMem_mem hb
        exact absurd (List.mem_map_of_mem hp) hn
  have e' : ({ mkSt l m with mem := frzM (mkSt l m).mem (m.map (·.1)) } : St) = mkSt l (m.map fun p => (p.1, frzB p.2)) := by
    rw [e]; rfl
  rw [← e']
  exact h1
theorem AllFrz_mk {l : List (Nat × Blk)} (h : ∀ p ∈ l, p.2.frz = true) : AllFrz (mkMem l) := fun i b hb => by
  obtain ⟨p, hp, _, rfl⟩ := mkMem_mem hb
  exact h p hp
end Go.Proofs.Ytigpefjeelgfdaa.Eng

/-
  The engine, part Q: the rules of control with what follows under one name, and what is computed by simp. No program is named here.
-/
namespace Go.Proofs.Ytigpefjeelgfdaa.Eng
open Go.RowKit
variable {P : Program} {tp : Bool} {ns : Nat}

/-- What follows, under a name: code. -/
structure KK (P : Program) (tp : Bool) (ns : Nat) (y : Code) (Q : Post) where
  K : Nat → St → Prop
  h : ∀ n s, AWp P tp ns y n s Q → K n s
theorem KK.go {y : Code} {Q : Post} {k : KK P tp ns y Q} {n : Nat} {s : St} (h : AWp P tp ns y n s Q) : k.K n s := k.h n s h
/-- What follows, under a name: behind a block. -/
structure BB (id : Nat) (Q : Post) where
  B : Post
  h : ∀ e n s, blockP id Q e n s → B e n s
theorem BB.go {id : Nat} {Q : Post} {b : BB id Q} {e : Exit} {n : Nat} {s : St} (h : blockP id Q e n s) : b.B e n s := b.h e n s h
/-- What follows, under a name: a function's end. -/
structure RR (T : Tab) (rs : List ResultVar) (r : Dat) where
  R : Post
  h : ∀ e n s, (e = .normal ∨ e = .ret) → Returns T rs s r → R e n s
theorem RR.ret {T : Tab} {rs : List ResultVar} {r : Dat} {q : RR T rs r} {n : Nat} {s : St} (h : Returns T rs s r) : q.R .ret n s := q.h _ n s (.inr rfl) h
theorem RR.normal {T : Tab} {rs : List ResultVar} {r : Dat} {q : RR T rs r} {n : Nat} {s : St} (h : Returns T rs s r) : q.R .normal n s := q.h _ n s (.inl rfl) h
/-- What follows, under a name: the next round. -/
structure LL (ι : Type) (n : Nat) (l : ι → List (Nat × SV)) (m : ι → List (Nat × Blk)) (μ : ι → Nat) (i : ι) where
  L : Nat → St → Prop
  h : ∀ n' s', (∃ j σ, Fits n (l j) (m j) σ s' ∧ μ j < μ i) → L n' s'
theorem LL.go {ι : Type} {n : Nat} {l : ι → List (Nat × SV)} {m : ι → List (Nat × Blk)} {μ : ι → Nat} {i : ι} {k : LL ι n l m μ i} {n' : Nat} {s' : St} (j : ι) (σ : List Nat) (h : Fits n (l j) (m j) σ s') (hm : μ j < μ i) : k.L n' s' := k.h n' s' ⟨j, σ, h, hm⟩

/-- What follows, under a name: behind what has labels. -/
structure SS (Q : Post) where
  S : Post
  h : ∀ e n s, (∀ l, e ≠ .goto l) → Q e n s → S e n s
theorem SS.go {Q : Post} {k : SS Q} {e : Exit} {n : Nat} {s : St} (h1 : ∀ l, e ≠ .goto l) (h2 : Q e n s) : k.S e n s := k.h e n s h1 h2
theorem AWp.scopeK {n : Nat} {c : Code} {s : St} {Q : Post} (h : ∀ k : SS Q, AWp P tp ns c n s k.S) : AWp P tp ns (.scope c) n s Q := AWp.scope (h ⟨fun e n s => (∀ l, e ≠ .goto l) ∧ Q e n s, fun _ _ _ h1 h2 => ⟨h1, h2⟩⟩)
theorem AWp.seqK {x y : Code} {n : Nat} {s : St} {Q : Post} (h : ∀ k : KK P tp ns y Q, AWp P tp ns x n s (thenP k.K Q)) : AWp P tp ns (.seq x y) n s Q := AWp.seq (h ⟨fun n s => AWp P tp ns y n s Q, fun _ _ h => h⟩)
theorem AWp.blockK {id n : Nat} {c : Code} {s : St} {Q : Post} (h : ∀ b : BB id Q, AWp P tp ns c n s b.B) : AWp P tp ns (.block id c) n s Q := AWp.block (h ⟨blockP id Q, fun _ _ _ h => h⟩)
def CondG (v : Option SV) (A B : Prop) : Prop := match v with
  | some (.d (.val (.bool t))) => if t = true then A else B
  | _ => False
theorem AWp.condK {c : Operand} {x y : Code} {n : Nat} {s : St} {Q : Post} (h : ∀ (kx : KK P tp ns x Q) (ky : KK P tp ns y Q), CondG (opd ns s c) (kx.K n s) (ky.K n s)) : AWp P tp ns (.cond c x y) n s Q := by
  have h := h ⟨fun n s => AWp P tp ns x n s Q, fun _ _ h => h⟩ ⟨fun n s => AWp P tp ns y n s Q, fun _ _ h => h⟩
  unfold CondG at h
  split at h
  · rename_i t ht
    refine AWp.cond ht (fun e => ?_) fun e => ?_
    · rw [if_pos e] at h; exact h
    · rw [if_neg (by rw [e]; simp)] at h; exact h
  · exact h.elim
theorem AWp.loopK {ι : Type} {c : Code} {n n0 : Nat} {s : St} {Q : Post} (l : ι → List (Nat × SV)) (m : ι → List (Nat × Blk)) (μ : ι → Nat) (i0 : ι) (σ : List Nat) (h0 : Fits n (l i0) (m i0) σ s)
    (round : ∀ i, ∀ k : LL ι n l m μ i, AWp P tp ns c n (mkSt (l i) (m i)) (thenP k.L Q)) : AWp P tp ns (.loop c) n0 s Q :=
  AWp.loop l m μ i0 h0 fun i => round i ⟨fun _ s' => ∃ j σ, Fits n (l j) (m j) σ s' ∧ μ j < μ i, fun _ _ h => h⟩
theorem acallK {T : Tab} (hT : TabOk P T) {f : FuncId} {fn : Func} {c : Code} (hf : P.funcs[f]? = some fn) (hn : (fn.name == "runtime.NumGoroutine") = false) (hb : fn.body = some c) {args : List Dat} {r : Dat} (hl : args.length ≤ fn.ntmps) (hr : resOk fn.results.toList fn.ntmps = true)
    (h : ∀ q : RR T fn.results.toList r, AWp P false fn.ntmps c 0 ⟨startS args, fun _ => none⟩ q.R) : ACall P f args r :=
  acall_of hT hf hn hb args r hl hr (h ⟨fun e _ s => (e = .normal ∨ e = .ret) ∧ Returns T fn.results.toList s r, fun _ _ _ h1 h2 => ⟨h1, h2⟩⟩)

@[simp] theorem setSlot_app (f : Nat → SV) (d : Nat) (x : SV) (t : Nat) : setSlot f (some d) x t = if t = d then x else f t := rfl
@[simp] theorem setSlot_none (f : Nat → SV) (x : SV) : setSlot f none x = f := rfl
@[simp] theorem setMem_app (f : Nat → Option Blk) (d : Nat) (x : Option Blk) (t : Nat) : setMem f d x t = if t = d then x else f t := rfl
@[simp] theorem mkSlots_nil (t : Nat) : mkSlots [] t = .und := rfl
@[simp] theorem mkSlots_cons (k : Nat) (x : SV) (l : List (Nat × SV)) (t : Nat) : mkSlots ((k, x) :: l) t = if t = k then x else mkSlots l t := rfl
@[simp] theorem mkMem_nil (t : Nat) : mkMem [] t = none := rfl
@[simp] theorem mkMem_cons (k : Nat) (x : Blk) (l : List (Nat × Blk)) (t : Nat) : mkMem ((k, x) :: l) t = if t = k then some x else mkMem l t := rfl
@[simp] theorem startS_app (l : List Dat) (t : Nat) : startS l t = match l[t]? with | some d => .d d | none => .und := rfl
theorem wcallK {T : Tab} (hT : TabOk P T) {f : FuncId} {fn : Func} {c : Code} (hf : P.funcs[f]? = some fn) (hn : (fn.name == "runtime.NumGoroutine") = false) (hb : fn.body = some c) {args : List Dat} {r : Dat} (hl : args.length ≤ fn.ntmps) (hr : resOk fn.results.toList fn.ntmps = true)
    (h : ∀ q : RR T fn.results.toList r, AWp P true fn.ntmps c 0 ⟨startS args, fun _ => none⟩ q.R) : WCall P f args r :=
  wcall_of hT hf hn hb args r hl hr (h ⟨fun e _ s => (e = .normal ∨ e = .ret) ∧ Returns T fn.results.toList s r, fun _ _ _ h1 h2 => ⟨h1, h2⟩⟩)
/-- What lies at a place, under short names for simp. -/
theorem z0 {α : Type} (a : α) (l : List α) : (a :: l)[0]? = some a := List.getElem?_cons_zero
theorem z1 {α : Type} (a : α) (l : List α) (i : Nat) : (a :: l)[i + 1]? = l[i]? := List.getElem?_cons_succ
theorem z2 {α : Type} (i : Nat) : ([] : List α)[i]? = none := List.getElem?_nil
/-- A list of the call's own that grows, from nothing. -/
def gS (id z : Nat) : List (List Dat) → SV
  | [] => .nilS
  | r :: l => .own id (l.length + 1) z
def gM (id : Nat) (ty : TypeId) (z : Nat) : List (List Dat) → List (Nat × Blk)
  | [] => []
  | r :: l => [(id, .row ty z (r :: l) false)]
@[simp] theorem gS_app (id z : Nat) (l : List (List Dat)) (x : List Dat) : gS id z (l ++ [x]) = .own id (l.length + 1) z := by cases l <;> simp [gS]
@[simp] theorem gM_app (id : Nat) (ty : TypeId) (z : Nat) (l : List (List Dat)) (x : List Dat) : gM id ty z (l ++ [x]) = [(id, .row ty z (l ++ [x]) false)] := by cases l <;> simp [gM]
@[simp] theorem gS_nil (id z : Nat) : gS id z [] = .nilS := rfl
@[simp] theorem gM_nil (id : Nat) (ty : TypeId) (z : Nat) : gM id ty z [] = [] := rfl
@[simp] theorem gS_cons (id z : Nat) (r : List Dat) (l : List (List Dat)) : gS id z (r :: l) = .own id (l.length + 1) z := rfl
@[simp] theorem gM_cons (id : Nat) (ty : TypeId) (z : Nat) (r : List Dat) (l : List (List Dat)) : gM id ty z (r :: l) = [(id, .row ty z (r :: l) false)] := rfl
theorem gS_ne {id z : Nat} {l : List (List Dat)} (h : l ≠ []) : gS id z l = .own id l.length z := by cases l with | nil => exact absurd rfl h | cons => rfl
theorem ren_gS {n id : Nat} (σ : Nat → Nat) (z : Nat) (l : List (List Dat)) (h : id < n) : renS n σ (gS id z l) = some (gS (σ id) z l) := by cases l <;> simp [gS, renS, renC, h]
attribute [simp] ren_gS
@[simp] theorem len_gS (id z : Nat) (l : List (List Dat)) : lenSV (gS id z l) = some l.length := by cases l <;> rfl
@[simp] theorem mkMem_app (a b : List (Nat × Blk)) (k : Nat) : mkMem (a ++ b) k = match mkMem a k with | some x => some x | none => mkMem b k := by
  induction a with
  | nil => rfl
  | cons p a ih =>
    obtain ⟨t, x⟩ := p
    simp only [List.cons_append, mkMem]
    split
    · rfl
    · exact ih
@[simp] theorem gM_mem {id : Nat} {ty : TypeId} {z : Nat} {l : List (List Dat)} {a : Nat} {b : Blk} : (a, b) ∈ gM id ty z l ↔ a = id ∧ b = .row ty z l false ∧ l ≠ [] := by cases l <;> simp [gM]
@[simp] theorem mkMem_gM (id : Nat) (ty : TypeId) (z : Nat) (l : List (List Dat)) (k : Nat) : mkMem (gM id ty z l) k = if k = id ∧ l ≠ [] then some (.row ty z l false) else none := by cases l <;> simp [gM, mkMem]
theorem gM_fit {id n : Nat} {ty : TypeId} {z : Nat} {l : List (List Dat)} {σ : Nat → Nat} {m : Nat → Option Blk} (h : id < n) (hm : ∀ r o, l = r :: o → m (σ id) = some (.row ty z l false)) : ∀ p ∈ gM id ty z l, p.1 < n ∧ ∃ b, m (σ p.1) = some b ∧ renB n σ p.2 = some b := by
  cases l with
  | nil => simp [gM]
  | cons r o =>
    intro p hp
    simp only [gM, List.mem_singleton] at hp
    subst hp
    exact ⟨h, _, hm r o rfl, rfl⟩
theorem gM_get (id : Nat) (ty : TypeId) (z : Nat) (r : List Dat) (o : List (List Dat)) (m : List (Nat × Blk)) {l : List (List Dat)} (h : l = r :: o) : mkMem (gM id ty z l ++ m) id = some (.row ty z l false) := by subst h; simp [gM, mkMem]
theorem gM_get' (id : Nat) (ty : TypeId) (z : Nat) (r : List Dat) (o : List (List Dat)) {l : List (List Dat)} (h : l = r :: o) : mkMem (gM id ty z l) id = some (.row ty z l false) := by subst h; simp [gM, mkMem]
theorem wrap64_in {x : Int} (h : -9223372036854775808 ≤ x ∧ x ≤ 9223372036854775807) : IntKind.i64.wrap x = x := by rw [IntKind.wrap_i64]; omega
abbrev iD (n : Int) : Dat := .val (.int .i64 n)
abbrev bD (b : Bool) : Dat := .val (.bool b)
/-- Rows of one integer. -/
def iRows (l : List Int) : List (List Dat) := l.map fun n => [iD n]
abbrev intL (l : List Int) : Dat := .list (iRows l)
@[simp] theorem iRows_nil : iRows [] = [] := rfl
@[simp] theorem iRows_app (l m : List Int) : iRows (l ++ m) = iRows l ++ iRows m := List.map_append
@[simp] theorem iRows_one (n : Int) : iRows [n] = [[iD n]] := rfl
@[simp] theorem iRows_len (l : List Int) : (iRows l).length = l.length := List.length_map _
@[simp] theorem iRows_get (l : List Int) (i : Nat) : (iRows l)[i]? = (l[i]?).map fun n => [iD n] := List.getElem?_map
@[simp] theorem iRows_mem (l : List Int) (p : List Dat → Prop) : (∀ r ∈ iRows l, p r) ↔ ∀ n ∈ l, p [iD n] := by simp [iRows]
@[simp] theorem iRows_set (l : List Int) (i : Nat) (n : Int) : (iRows l).set i [iD n] = iRows (l.set i n) := by simp [iRows, List.map_set]
@[simp] theorem ren_und (n : Nat) (σ : Nat → Nat) : renS n σ .und = none := rfl
@[simp] theorem ren_d (n : Nat) (σ : Nat → Nat) (x : Dat) : renS n σ (.d x) = some (.d x) := rfl
@[simp] theorem ren_nilS (n : Nat) (σ : Nat → Nat) : renS n σ .nilS = some .nilS := rfl
@[simp] theorem ren_own (n : Nat) (σ : Nat → Nat) (i k z : Nat) : renS n σ (.own i k z) = if i < n then some (.own (σ i) k z) else none := rfl
@[simp] theorem ren_lin (n : Nat) (σ : Nat → Nat) (i k : Nat) : renS n σ (.lin i k) = if i < n then some (.lin (σ i) k) else none := rfl
@[simp] theorem ren_ptr (n : Nat) (σ : Nat → Nat) (i r j : Nat) : renS n σ (.ptr i r j) = if i < n then some (.ptr (σ i) r j) else none := rfl
@[simp] theorem ren_rptr (n : Nat) (σ : Nat → Nat) (x : List Dat) : renS n σ (.rptr x) = some (.rptr x) := rfl
@[simp] theorem ren_agg (n : Nat) (σ : Nat → Nat) (x : List SV) : renS n σ (.agg x) = match renCs n σ x with | some l => some (.agg l) | none => none := rfl
theorem esc_gS {m : Nat → Option Blk} {id z : Nat} {l : List (List Dat)} {ty : TypeId} {z' : Nat} {f : Bool} (h : ∀ r o, l = r :: o → m id = some (.row ty z' l f)) : ∃ is, esc m (gS id z l) = some (.list l, is) := by
  cases l with
  | nil => exact ⟨[], rfl⟩
  | cons r o => exact ⟨[id], by simp [gS, esc, esc1, h r o rfl]⟩
/-- A function that returns a list of its own. -/
theorem RR.list {t : Tmp} {l : List (List Dat)} {T : Tab} {q : RR T [.tmp t] (.list l)} {n : Nat} {s : St} {id z : Nat} (hs : s.slots t = gS id z l) (h : ∀ r o, l = r :: o → ∃ ty z' f, s.mem id = some (.row ty z' l f)) : q.R .ret n s := by
  refine RR.ret ?_
  have : ∃ is, esc s.mem (gS id z l) = some (.list l, is) := by
    cases l with
    | nil => exact ⟨[], rfl⟩
    | cons r o =>
      obtain ⟨ty, z', f, h⟩ := h r o rfl
      exact ⟨[id], by simp [gS, esc, esc1, h]⟩
  obtain ⟨is, hi⟩ := this
  refine ⟨[gS id z l], [.list l], is ++ [], ?_, ?_, rfl⟩
  · simp only [resSlots, resSlot, hs]
  · simp only [escAll, hi]
section
variable {T : Tab} {ops : Array Oper} {nid : Nat} {o : Oper} {l : List Oper} {s : St} {Q : St → Prop}
@[simp] theorem Exec0_nil : Exec0 P tp T ops ns nid [] s Q = Q s := rfl
/-- The same, where it waits for a call. -/
def ExecC (P : Program) (tp : Bool) (T : Tab) (ops : Array Oper) (ns : Nat) (nid : Nat) (l : List Oper) (s : St) (Q : St → Prop) : Prop := Exec0 P tp T ops ns nid l s Q
@[simp] theorem Exec0_cons : Exec0 P tp T ops ns nid (o :: l) s Q = match guardS ops ns s o, waits o.op with
    | some true, false => match aop T s.mem nid (opd ns s) o.op with
      | some out => Exec0 P tp T ops ns (nid + 1) l (putS s nid o.dst out) Q
      | none => False
    | some false, _ => Exec0 P tp T ops ns (nid + 1) l { s with slots := setSlot s.slots o.dst .und } Q
    | _, _ => ExecC P tp T ops ns nid (o :: l) s Q := by
  split
  · rename_i hg hf
    simp only [Exec0, hg, Step, waits_fnOf hf, hf]
    cases aop T s.mem nid (opd ns s) o.op <;> simp
  · rename_i hg; simp only [Exec0, hg]
  · rfl
theorem Exec0.callG {G : St → Prop} (hg : guardS ops ns s o = some true) (hw : waits o.op = true) (hG : StepG P tp ns nid s o G) (h : ∀ s', G s' → Exec0 P tp T ops ns (nid + 1) l s' Q) : ExecC P tp T ops ns nid (o :: l) s Q := by
  show Exec0 P tp T ops ns nid (o :: l) s Q
  simp only [Exec0, hg]
  exact .inr ⟨hw, G, hG, h⟩
theorem waits_of {op : Op} {f : FuncId} {args : List Operand} (h : fnOf op = some (f, args)) : waits op = true := by
  cases hw : waits op with
  | true => rfl
  | false => rw [waits_fnOf hw] at h; cases h
theorem Exec0.call {f : FuncId} {args : List Operand} {ds : List Dat} {r : Dat} (is : List Nat) (h3 : ACall P f ds r) (hg : guardS ops ns s o = some true) (hf : fnOf o.op = some (f, args)) (h12 : (evList (opd ns s) args).bind (escAll s.mem) = some (ds, is))
    (h : Exec0 P tp T ops ns (nid + 1) l (putS s nid o.dst { res := .d r, frz := is }) Q) : ExecC P tp T ops ns nid (o :: l) s Q := by
  show Exec0 P tp T ops ns nid (o :: l) s Q
  simp only [Exec0, hg]
  rw [Option.bind_eq_some_iff] at h12
  obtain ⟨svs, h1, h2⟩ := h12
  refine .inl ⟨_, ?_, h⟩
  unfold Step
  rw [hf]
  exact ⟨svs, ds, is, r, h1, h2, h3, rfl⟩
theorem Exec0.callE {f : FuncId} {args : List Operand} {ds : List Dat} {R : Dat → Prop} (h3 : ECall P f ds R) (ht : tp = true) (hg : guardS ops ns s o = some true) (hf : fnOf o.op = some (f, args)) (h12 : (evList (opd ns s) args).bind (escAll s.mem) = some (ds, [])) (hz : AllFrz s.mem)
    (h : ∀ r, R r → Exec0 P tp T ops ns (nid + 1) l (putS s nid o.dst { res := .d r }) Q) : ExecC P tp T ops ns nid (o :: l) s Q := by
  rw [Option.bind_eq_some_iff] at h12
  obtain ⟨svs, h1, h2⟩ := h12
  exact Exec0.callG hg (waits_of hf) (stepG_w ht ⟨f, args, svs, ds, hf, h1, h2, h3, hz⟩) fun s' ⟨r, hr, e⟩ => e ▸ h r hr
theorem Exec0.callW {f : FuncId} {args : List Operand} {ds : List Dat} {r : Dat} (h3 : WCall P f ds r) (ht : tp = true) (hg : guardS ops ns s o = some true) (hf : fnOf o.op = some (f, args)) (h12 : (evList (opd ns s) args).bind (escAll s.mem) = some (ds, [])) (hz : AllFrz s.mem)
    (h : Exec0 P tp T ops ns (nid + 1) l (putS s nid o.dst { res := .d r }) Q) : ExecC P tp T ops ns nid (o :: l) s Q :=
  Exec0.callE h3.one ht hg hf h12 hz fun _ e => e ▸ h
variable {log : List Foot} {Q2 : St → List Foot → Prop}
@[simp] theorem Exec_nil : Exec P T ops ns nid [] s log Q2 = Q2 s log := rfl
def ExecD (P : Program) (T : Tab) (ops : Array Oper) (ns : Nat) (nid : Nat) (l : List Oper) (s : St) (log : List Foot) (Q : St → List Foot → Prop) : Prop := Exec P T ops ns nid l s log Q
@[simp] theorem Exec_cons : Exec P T ops ns nid (o :: l) s log Q2 = match guardS ops ns s o, fnOf o.op with
    | some true, none => match aop T s.mem nid (opd ns s) o.op with
      | some out => Exec P T ops ns (nid + 1) l (putS s nid o.dst out) (log ++ [footOf ops nid s o (some out)]) Q2
      | none => False
    | some false, _ => Exec P T ops ns (nid + 1) l { s with slots := setSlot s.slots o.dst .und } (log ++ [footOf ops nid s o none]) Q2
    | _, _ => ExecD P T ops ns nid (o :: l) s log Q2 := by
  split
  · rename_i hg hf
    simp only [Exec, hg, Step, hf]
    cases aop T s.mem nid (opd ns s) o.op <;> simp
  · rename_i hg; simp only [Exec, hg]
  · rfl
theorem Exec.call {f : FuncId} {args : List Operand} {ds : List Dat} {r : Dat} (is : List Nat) (h3 : ACall P f ds r) (hg : guardS ops ns s o = some true) (hf : fnOf o.op = some (f, args)) (h12 : (evList (opd ns s) args).bind (escAll s.mem) = some (ds, is))
    (h : Exec P T ops ns (nid + 1) l (putS s nid o.dst { res := .d r, frz := is }) (log ++ [footOf ops nid s o (some { res := .d r, frz := is })]) Q2) : ExecD P T ops ns nid (o :: l) s log Q2 := by
  show Exec P T ops ns nid (o :: l) s log Q2
  simp only [Exec, hg]
  rw [Option.bind_eq_some_iff] at h12
  obtain ⟨svs, h1, h2⟩ := h12
  refine ⟨_, ?_, h⟩
  unfold Step
  rw [hf]
  exact ⟨svs, ds, is, r, h1, h2, h3, rfl⟩
end
theorem maxLen_small {n : Nat} (h : n ≤ 1000000) : n ≤ maxLen := by simp only [maxLen]; omega
attribute [simp] footOf guardSlot idsRead looks slotsOf idsOf idsOf1 idsWritten Op.operands Call.operands
@[simp] theorem len_list (rows : List (List Dat)) : lenSV (.d (.list rows)) = some rows.length := rfl
@[simp] theorem len_own (i n z : Nat) : lenSV (.own i n z) = some n := rfl
@[simp] theorem len_nilS : lenSV .nilS = some 0 := rfl
@[simp] theorem len_lin (i n : Nat) : lenSV (.lin i n) = some n := rfl
attribute [simp] ren0 ren0s
attribute [simp] isNilL
attribute [simp] maxLen_small fitsB_small guardS dstOk waits fnOf aop aopR opd putS memApp frzM constSV cSV cD SV.fit SV.cells SV.one Dat.one binSV intBin intsOf fieldOf loadSV indexSV partSV intOp boundOr sliceSV mk mkD
  evParts rowsOf spliceD splice srcRows storeOut appendOut esc1 escL esc frzB placeOf fillSV knownB evList escAll TK.agg CondG thenP blockP mkSt resSlots resSlot resD Returns renCs renC renB
end Go.Proofs.Ytigpefjeelgfdaa.Eng

/-
  The types of this seat as a table, each entry held against the program.
-/
namespace Go.Proofs.Ytigpefjeelgfdaa.Eng
open Go.RowKit

theorem info2 : (Try.prog.info? 2).map (fun i => (i.zero, i.size, i.bytes)) = some (some (.int .i64 0), 1, 8) := by kernel_rfl
theorem ti2 : TiOk Try.prog 2 { size := 1, bytes := 8, zero := [.int .i64 0], kind := .int .i64 } := tiOk_mk info2 rfl rfl rfl (by decide) (Try.underlying2) (by decide) (fun h => absurd rfl h)
theorem info3 : (Try.prog.info? 3).map (fun i => (i.zero, i.size, i.bytes)) = some (some (.int .i64 0), 1, 8) := by kernel_rfl
theorem ti3 : TiOk Try.prog 3 { size := 1, bytes := 8, zero := [.int .i64 0], kind := .int .i64 } := tiOk_mk info3 rfl rfl rfl (by decide) (Try.underlying3) (by decide) (fun h => absurd rfl h)
theorem info4 : (Try.prog.info? 4).map (fun i => (i.zero, i.size, i.bytes)) = some (some (.bool false), 1, 1) := by kernel_rfl
theorem ti4 : TiOk Try.prog 4 { size := 1, bytes := 1, zero := [.bool false], kind := .bool } := tiOk_mk info4 rfl rfl rfl (by decide) (Try.underlying4) (by decide) (fun h => absurd rfl h)
theorem info5 : (Try.prog.info? 5).map (fun i => (i.zero, i.size, i.bytes)) = some (some (.int .u8 0), 1, 1) := by kernel_rfl
theorem ti5 : TiOk Try.prog 5 { size := 1, bytes := 1, zero := [.int .u8 0], kind := .int .u8 } := tiOk_mk info5 rfl rfl rfl (by decide) (Try.underlying5) (by decide) (fun h => absurd rfl h)
theorem info6 : (Try.prog.info? 6).map (fun i => (i.zero, i.size, i.bytes)) = some (some (.int .u8 0), 1, 1) := by kernel_rfl
theorem ti6 : TiOk Try.prog 6 { size := 1, bytes := 1, zero := [.int .u8 0], kind := .int .u8 } := tiOk_mk info6 rfl rfl rfl (by decide) (Try.underlying6) (by decide) (fun h => absurd rfl h)
theorem info7 : (Try.prog.info? 7).map (fun i => (i.zero, i.size, i.bytes)) = some (some (.agg #[.int .i64 0, .int .i64 0, .bool false, .int .u8 0]), 4, 24) := by kernel_rfl
theorem ti7 : TiOk Try.prog 7 { size := 4, bytes := 24, zero := [.int .i64 0, .int .i64 0, .bool false, .int .u8 0], kind := .struct [(0, 2), (1, 3), (2, 4), (3, 6)] } := tiOk_mk info7 rfl rfl rfl (by decide) (⟨_, Try.underlying7, rfl⟩) (by decide) (fun h => absurd rfl h)
theorem info8 : (Try.prog.info? 8).map (fun i => (i.zero, i.size, i.bytes)) = some (some (.agg #[.int .i64 0, .int .i64 0, .bool false, .int .u8 0]), 4, 24) := by kernel_rfl
theorem ti8 : TiOk Try.prog 8 { size := 4, bytes := 24, zero := [.int .i64 0, .int .i64 0, .bool false, .int .u8 0], kind := .struct [(0, 2), (1, 3), (2, 4), (3, 6)] } := tiOk_mk info8 rfl rfl rfl (by decide) (⟨_, Try.underlying8, rfl⟩) (by decide) (fun h => absurd rfl h)
theorem info12 : (Try.prog.info? 12).map (fun i => (i.zero, i.size, i.bytes)) = some (some (.int .u64 0), 1, 8) := by kernel_rfl
theorem ti12 : TiOk Try.prog 12 { size := 1, bytes := 8, zero := [.int .u64 0], kind := .int .u64 } := tiOk_mk info12 rfl rfl rfl (by decide) (Try.underlying12) (by decide) (fun h => absurd rfl h)
theorem info21 : (Try.prog.info? 21).map (fun i => (i.zero, i.size, i.bytes)) = some (some (.int .i32 0), 1, 4) := by kernel_rfl
theorem ti21 : TiOk Try.prog 21 { size := 1, bytes := 4, zero := [.int .i32 0], kind := .int .i32 } := tiOk_mk info21 rfl rfl rfl (by decide) (Try.underlying21) (by decide) (fun h => absurd rfl h)
theorem info22 : (Try.prog.info? 22).map (fun i => (i.zero, i.size, i.bytes)) = some (some (.slice none 0 0), 1, 24) := by kernel_rfl
theorem ti22 : TiOk Try.prog 22 { size := 1, bytes := 24, zero := [.slice none 0 0], kind := .slice 33 } := tiOk_mk info22 rfl rfl rfl (by decide) (Try.underlying22) (by decide) (fun h => absurd rfl h)
theorem info23 : (Try.prog.info? 23).map (fun i => (i.zero, i.size, i.bytes)) = some (some (.slice none 0 0), 1, 24) := by kernel_rfl
theorem ti23 : TiOk Try.prog 23 { size := 1, bytes := 24, zero := [.slice none 0 0], kind := .slice 88 } := tiOk_mk info23 rfl rfl rfl (by decide) (Try.underlying23) (by decide) (fun h => absurd rfl h)
theorem info24 : (Try.prog.info? 24).map (fun i => (i.zero, i.size, i.bytes)) = some (some (.agg #[.slice none 0 0, .slice none 0 0]), 2, 48) := by kernel_rfl
theorem ti24 : TiOk Try.prog 24 { size := 2, bytes := 48, zero := [.slice none 0 0, .slice none 0 0], kind := .struct [(0, 22), (1, 23)] } := tiOk_mk info24 rfl rfl rfl (by decide) (⟨_, Try.underlying24, rfl⟩) (by decide) (fun h => absurd rfl h)
theorem info25 : (Try.prog.info? 25).map (fun i => (i.zero, i.size, i.bytes)) = some (some (.agg #[.slice none 0 0, .slice none 0 0]), 2, 48) := by kernel_rfl
theorem ti25 : TiOk Try.prog 25 { size := 2, bytes := 48, zero := [.slice none 0 0, .slice none 0 0], kind := .struct [(0, 22), (1, 23)] } := tiOk_mk info25 rfl rfl rfl (by decide) (⟨_, Try.underlying25, rfl⟩) (by decide) (fun h => absurd rfl h)
theorem info26 : (Try.prog.info? 26).map (fun i => (i.zero, i.size, i.bytes)) = some (some (.slice none 0 0), 1, 24) := by kernel_rfl
theorem ti26 : TiOk Try.prog 26 { size := 1, bytes := 24, zero := [.slice none 0 0], kind := .slice 93 } := tiOk_mk info26 rfl rfl rfl (by decide) (Try.underlying26) (by decide) (fun h => absurd rfl h)
theorem info27 : (Try.prog.info? 27).map (fun i => (i.zero, i.size, i.bytes)) = some (some (.agg #[.slice none 0 0]), 1, 24) := by kernel_rfl
theorem ti27 : TiOk Try.prog 27 { size := 1, bytes := 24, zero := [.slice none 0 0], kind := .struct [(0, 26)] } := tiOk_mk info27 rfl rfl rfl (by decide) (⟨_, Try.underlying27, rfl⟩) (by decide) (fun h => absurd rfl h)
theorem info28 : (Try.prog.info? 28).map (fun i => (i.zero, i.size, i.bytes)) = some (some (.agg #[.slice none 0 0]), 1, 24) := by kernel_rfl
theorem ti28 : TiOk Try.prog 28 { size := 1, bytes := 24, zero := [.slice none 0 0], kind := .struct [(0, 26)] } := tiOk_mk info28 rfl rfl rfl (by decide) (⟨_, Try.underlying28, rfl⟩) (by decide) (fun h => absurd rfl h)
theorem info32 : (Try.prog.info? 32).map (fun i => (i.zero, i.size, i.bytes)) = some (some (.agg #[.int .i64 0, .int .i64 0]), 2, 16) := by kernel_rfl
theorem eqs32 (w : World) (x y : Operand) (m n : List Int) (hm : m.length = 2) (hn : n.length = 2) :
    (do eqGuard .eql 32 x y (aggInts [.i64, .i64] m) (aggInts [.i64, .i64] n); binOp .eql 32 (aggInts [.i64, .i64] m) (aggInts [.i64, .i64] n) : Sem Value).run Try.prog w = .ok (.bool (decide (m = n))) w ∧
    (do eqGuard .neq 32 x y (aggInts [.i64, .i64] m) (aggInts [.i64, .i64] n); binOp .neq 32 (aggInts [.i64, .i64] m) (aggInts [.i64, .i64] n) : Sem Value).run Try.prog w = .ok (.bool (decide (m ≠ n))) w := by
  exact eqs_by_2 w x y hm hn (by kernel_rfl) (by kernel_rfl) Try.underlying32 Try.underlying2 Try.underlying2 (by decide)
theorem ti32 : TiOk Try.prog 32 { size := 2, bytes := 16, zero := [.int .i64 0, .int .i64 0], kind := .struct [(0, 2), (1, 2)], eqk := [.i64, .i64] } := tiOk_mk info32 rfl rfl rfl (by decide) (⟨_, Try.underlying32, rfl⟩) (by decide) (fun _ => eqs32)
theorem info33 : (Try.prog.info? 33).map (fun i => (i.zero, i.size, i.bytes)) = some (some (.agg #[.int .i64 0, .int .i64 0]), 2, 16) := by kernel_rfl
theorem eqs33 (w : World) (x y : Operand) (m n : List Int) (hm : m.length = 2) (hn : n.length = 2) :
    (do eqGuard .eql 33 x y (aggInts [.i64, .i64] m) (aggInts [.i64, .i64] n); binOp .eql 33 (aggInts [.i64, .i64] m) (aggInts [.i64, .i64] n) : Sem Value).run Try.prog w = .ok (.bool (decide (m = n))) w ∧
    (do eqGuard .neq 33 x y (aggInts [.i64, .i64] m) (aggInts [.i64, .i64] n); binOp .neq 33 (aggInts [.i64, .i64] m) (aggInts [.i64, .i64] n) : Sem Value).run Try.prog w = .ok (.bool (decide (m ≠ n))) w := by
  exact eqs_by_2 w x y hm hn (by kernel_rfl) (by kernel_rfl) Try.underlying33 Try.underlying2 Try.underlying2 (by decide)
theorem ti33 : TiOk Try.prog 33 { size := 2, bytes := 16, zero := [.int .i64 0, .int .i64 0], kind := .struct [(0, 2), (1, 2)], eqk := [.i64, .i64] } := tiOk_mk info33 rfl rfl rfl (by decide) (⟨_, Try.underlying33, rfl⟩) (by decide) (fun _ => eqs33)
theorem info34 : (Try.prog.info? 34).map (fun i => (i.zero, i.size, i.bytes)) = some (some (.int .i64 0), 1, 8) := by kernel_rfl
theorem ti34 : TiOk Try.prog 34 { size := 1, bytes := 8, zero := [.int .i64 0], kind := .int .i64 } := tiOk_mk info34 rfl rfl rfl (by decide) (Try.underlying34) (by decide) (fun h => absurd rfl h)
theorem info40 : (Try.prog.info? 40).map (fun i => (i.zero, i.size, i.bytes)) = some (some (.slice none 0 0), 1, 24) := by kernel_rfl
theorem ti40 : TiOk Try.prog 40 { size := 1, bytes := 24, zero := [.slice none 0 0], kind := .slice 3 } := tiOk_mk info40 rfl rfl rfl (by decide) (Try.underlying40) (by decide) (fun h => absurd rfl h)
theorem info41 : (Try.prog.info? 41).map (fun i => (i.zero, i.size, i.bytes)) = some (some (.agg #[.int .i64 0, .slice none 0 0]), 2, 32) := by kernel_rfl
theorem ti41 : TiOk Try.prog 41 { size := 2, bytes := 32, zero := [.int .i64 0, .slice none 0 0], kind := .struct [(0, 3), (1, 40)] } := tiOk_mk info41 rfl rfl rfl (by decide) (⟨_, Try.underlying41, rfl⟩) (by decide) (fun h => absurd rfl h)
theorem info42 : (Try.prog.info? 42).map (fun i => (i.zero, i.size, i.bytes)) = some (some (.agg #[.int .i64 0, .slice none 0 0]), 2, 32) := by kernel_rfl
theorem ti42 : TiOk Try.prog 42 { size := 2, bytes := 32, zero := [.int .i64 0, .slice none 0 0], kind := .struct [(0, 3), (1, 40)] } := tiOk_mk info42 rfl rfl rfl (by decide) (⟨_, Try.underlying42, rfl⟩) (by decide) (fun h => absurd rfl h)
theorem info43 : (Try.prog.info? 43).map (fun i => (i.zero, i.size, i.bytes)) = some (some (.slice none 0 0), 1, 24) := by kernel_rfl
theorem ti43 : TiOk Try.prog 43 { size := 1, bytes := 24, zero := [.slice none 0 0], kind := .slice 2 } := tiOk_mk info43 rfl rfl rfl (by decide) (Try.underlying43) (by decide) (fun h => absurd rfl h)
theorem info56 : (Try.prog.info? 56).map (fun i => (i.zero, i.size, i.bytes)) = some (some (.slice none 0 0), 1, 24) := by kernel_rfl
theorem ti56 : TiOk Try.prog 56 { size := 1, bytes := 24, zero := [.slice none 0 0], kind := .slice 40 } := tiOk_mk info56 rfl rfl rfl (by decide) (Try.underlying56) (by decide) (fun h => absurd rfl h)
theorem info66 : (Try.prog.info? 66).map (fun i => (i.zero, i.size, i.bytes)) = some (some (.slice none 0 0), 1, 24) := by kernel_rfl
theorem ti66 : TiOk Try.prog 66 { size := 1, bytes := 24, zero := [.slice none 0 0], kind := .slice 5 } := tiOk_mk info66 rfl rfl rfl (by decide) (Try.underlying66) (by decide) (fun h => absurd rfl h)
theorem info67 : (Try.prog.info? 67).map (fun i => (i.zero, i.size, i.bytes)) = some (some (.slice none 0 0), 1, 24) := by kernel_rfl
theorem ti67 : TiOk Try.prog 67 { size := 1, bytes := 24, zero := [.slice none 0 0], kind := .slice 126 } := tiOk_mk info67 rfl rfl rfl (by decide) (Try.underlying67) (by decide) (fun h => absurd rfl h)
theorem info68 : (Try.prog.info? 68).map (fun i => (i.zero, i.size, i.bytes)) = some (some (.int .u16 0), 1, 2) := by kernel_rfl
theorem ti68 : TiOk Try.prog 68 { size := 1, bytes := 2, zero := [.int .u16 0], kind := .int .u16 } := tiOk_mk info68 rfl rfl rfl (by decide) (Try.underlying68) (by decide) (fun h => absurd rfl h)
theorem info75 : (Try.prog.info? 75).map (fun i => (i.zero, i.size, i.bytes)) = some (some (.agg #[.int .u8 0, .int .u8 0]), 2, 2) := by kernel_rfl
theorem ti75 : TiOk Try.prog 75 { size := 2, bytes := 2, zero := [.int .u8 0, .int .u8 0], kind := .array 2 5 } := tiOk_mk info75 rfl rfl rfl (by decide) (Try.underlying75) (by decide) (fun h => absurd rfl h)
theorem info77 : (Try.prog.info? 77).map (fun i => (i.zero, i.size, i.bytes)) = some (some (.slice none 0 0), 1, 24) := by kernel_rfl
theorem ti77 : TiOk Try.prog 77 { size := 1, bytes := 24, zero := [.slice none 0 0], kind := .slice 42 } := tiOk_mk info77 rfl rfl rfl (by decide) (Try.underlying77) (by decide) (fun h => absurd rfl h)
theorem info80 : (Try.prog.info? 80).map (fun i => (i.zero, i.size, i.bytes)) = some (some (.agg #[.int .u16 0, .int .u16 0]), 2, 4) := by kernel_rfl
theorem ti80 : TiOk Try.prog 80 { size := 2, bytes := 4, zero := [.int .u16 0, .int .u16 0], kind := .array 2 68 } := tiOk_mk info80 rfl rfl rfl (by decide) (Try.underlying80) (by decide) (fun h => absurd rfl h)
theorem info86 : (Try.prog.info? 86).map (fun i => (i.zero, i.size, i.bytes)) = some (some (.slice none 0 0), 1, 24) := by kernel_rfl
theorem ti86 : TiOk Try.prog 86 { size := 1, bytes := 24, zero := [.slice none 0 0], kind := .slice 28 } := tiOk_mk info86 rfl rfl rfl (by decide) (Try.underlying86) (by decide) (fun h => absurd rfl h)
theorem info87 : (Try.prog.info? 87).map (fun i => (i.zero, i.size, i.bytes)) = some (some (.agg #[.slice none 0 0]), 1, 24) := by kernel_rfl
theorem ti87 : TiOk Try.prog 87 { size := 1, bytes := 24, zero := [.slice none 0 0], kind := .struct [(0, 86)] } := tiOk_mk info87 rfl rfl rfl (by decide) (⟨_, Try.underlying87, rfl⟩) (by decide) (fun h => absurd rfl h)
theorem info88 : (Try.prog.info? 88).map (fun i => (i.zero, i.size, i.bytes)) = some (some (.agg #[.slice none 0 0]), 1, 24) := by kernel_rfl
theorem ti88 : TiOk Try.prog 88 { size := 1, bytes := 24, zero := [.slice none 0 0], kind := .struct [(0, 86)] } := tiOk_mk info88 rfl rfl rfl (by decide) (⟨_, Try.underlying88, rfl⟩) (by decide) (fun h => absurd rfl h)
theorem info92 : (Try.prog.info? 92).map (fun i => (i.zero, i.size, i.bytes)) = some (some (.agg #[.int .i64 0, .int .i64 0, .int .i64 0]), 3, 24) := by kernel_rfl
theorem ti92 : TiOk Try.prog 92 { size := 3, bytes := 24, zero := [.int .i64 0, .int .i64 0, .int .i64 0], kind := .struct [(0, 2), (1, 33)] } := tiOk_mk info92 rfl rfl rfl (by decide) (⟨_, Try.underlying92, rfl⟩) (by decide) (fun h => absurd rfl h)
theorem info93 : (Try.prog.info? 93).map (fun i => (i.zero, i.size, i.bytes)) = some (some (.agg #[.int .i64 0, .int .i64 0, .int .i64 0]), 3, 24) := by kernel_rfl
theorem ti93 : TiOk Try.prog 93 { size := 3, bytes := 24, zero := [.int .i64 0, .int .i64 0, .int .i64 0], kind := .struct [(0, 2), (1, 33)] } := tiOk_mk info93 rfl rfl rfl (by decide) (⟨_, Try.underlying93, rfl⟩) (by decide) (fun h => absurd rfl h)
theorem info126 : (Try.prog.info? 126).map (fun i => (i.zero, i.size, i.bytes)) = some (some (.int .u32 0), 1, 4) := by kernel_rfl
theorem ti126 : TiOk Try.prog 126 { size := 1, bytes := 4, zero := [.int .u32 0], kind := .int .u32 } := tiOk_mk info126 rfl rfl rfl (by decide) (Try.underlying126) (by decide) (fun h => absurd rfl h)
theorem info130 : (Try.prog.info? 130).map (fun i => (i.zero, i.size, i.bytes)) = some (some (.slice none 0 0), 1, 24) := by kernel_rfl
theorem ti130 : TiOk Try.prog 130 { size := 1, bytes := 24, zero := [.slice none 0 0], kind := .slice 134 } := tiOk_mk info130 rfl rfl rfl (by decide) (Try.underlying130) (by decide) (fun h => absurd rfl h)
theorem info131 : (Try.prog.info? 131).map (fun i => (i.zero, i.size, i.bytes)) = some (some (.agg #[.slice none 0 0, .slice none 0 0, .int .i64 0, .slice none 0 0, .slice none 0 0]), 5, 104) := by kernel_rfl
theorem ti131 : TiOk Try.prog 131 { size := 5, bytes := 104, zero := [.slice none 0 0, .slice none 0 0, .int .i64 0, .slice none 0 0, .slice none 0 0], kind := .struct [(0, 25), (2, 42), (4, 130)] } := tiOk_mk info131 rfl rfl rfl (by decide) (⟨_, Try.underlying131, rfl⟩) (by decide) (fun h => absurd rfl h)
theorem info132 : (Try.prog.info? 132).map (fun i => (i.zero, i.size, i.bytes)) = some (some (.agg #[.slice none 0 0, .slice none 0 0, .int .i64 0, .slice none 0 0, .slice none 0 0]), 5, 104) := by kernel_rfl
theorem ti132 : TiOk Try.prog 132 { size := 5, bytes := 104, zero := [.slice none 0 0, .slice none 0 0, .int .i64 0, .slice none 0 0, .slice none 0 0], kind := .struct [(0, 25), (2, 42), (4, 130)] } := tiOk_mk info132 rfl rfl rfl (by decide) (⟨_, Try.underlying132, rfl⟩) (by decide) (fun h => absurd rfl h)
theorem info137 : (Try.prog.info? 137).map (fun i => (i.zero, i.size, i.bytes)) = some (some (.slice none 0 0), 1, 24) := by kernel_rfl
theorem ti137 : TiOk Try.prog 137 { size := 1, bytes := 24, zero := [.slice none 0 0], kind := .slice 141 } := tiOk_mk info137 rfl rfl rfl (by decide) (Try.underlying137) (by decide) (fun h => absurd rfl h)
theorem info140 : (Try.prog.info? 140).map (fun i => (i.zero, i.size, i.bytes)) = some (some (.agg #[.int .i64 0, .int .i64 0, .int .i64 0, .int .i64 0]), 4, 32) := by kernel_rfl
theorem ti140 : TiOk Try.prog 140 { size := 4, bytes := 32, zero := [.int .i64 0, .int .i64 0, .int .i64 0, .int .i64 0], kind := .struct [(0, 33), (2, 33)] } := tiOk_mk info140 rfl rfl rfl (by decide) (⟨_, Try.underlying140, rfl⟩) (by decide) (fun h => absurd rfl h)
theorem info141 : (Try.prog.info? 141).map (fun i => (i.zero, i.size, i.bytes)) = some (some (.agg #[.int .i64 0, .int .i64 0, .int .i64 0, .int .i64 0]), 4, 32) := by kernel_rfl
theorem ti141 : TiOk Try.prog 141 { size := 4, bytes := 32, zero := [.int .i64 0, .int .i64 0, .int .i64 0, .int .i64 0], kind := .struct [(0, 33), (2, 33)] } := tiOk_mk info141 rfl rfl rfl (by decide) (⟨_, Try.underlying141, rfl⟩) (by decide) (fun h => absurd rfl h)
theorem info149 : (Try.prog.info? 149).map (fun i => (i.zero, i.size, i.bytes)) = some (some (.agg #[.int .i64 0, .int .i64 0]), 2, 16) := by kernel_rfl
theorem eqs149 (w : World) (x y : Operand) (m n : List Int) (hm : m.length = 2) (hn : n.length = 2) :
    (do eqGuard .eql 149 x y (aggInts [.i64, .i64] m) (aggInts [.i64, .i64] n); binOp .eql 149 (aggInts [.i64, .i64] m) (aggInts [.i64, .i64] n) : Sem Value).run Try.prog w = .ok (.bool (decide (m = n))) w ∧
    (do eqGuard .neq 149 x y (aggInts [.i64, .i64] m) (aggInts [.i64, .i64] n); binOp .neq 149 (aggInts [.i64, .i64] m) (aggInts [.i64, .i64] n) : Sem Value).run Try.prog w = .ok (.bool (decide (m ≠ n))) w := by
  exact eqs_by_2 w x y hm hn (by kernel_rfl) (by kernel_rfl) Try.underlying149 Try.underlying3 Try.underlying3 (by decide)
theorem ti149 : TiOk Try.prog 149 { size := 2, bytes := 16, zero := [.int .i64 0, .int .i64 0], kind := .struct [(0, 3), (1, 3)], eqk := [.i64, .i64] } := tiOk_mk info149 rfl rfl rfl (by decide) (⟨_, Try.underlying149, rfl⟩) (by decide) (fun _ => eqs149)
theorem info150 : (Try.prog.info? 150).map (fun i => (i.zero, i.size, i.bytes)) = some (some (.agg #[.int .i64 0, .int .i64 0]), 2, 16) := by kernel_rfl
theorem eqs150 (w : World) (x y : Operand) (m n : List Int) (hm : m.length = 2) (hn : n.length = 2) :
    (do eqGuard .eql 150 x y (aggInts [.i64, .i64] m) (aggInts [.i64, .i64] n); binOp .eql 150 (aggInts [.i64, .i64] m) (aggInts [.i64, .i64] n) : Sem Value).run Try.prog w = .ok (.bool (decide (m = n))) w ∧
    (do eqGuard .neq 150 x y (aggInts [.i64, .i64] m) (aggInts [.i64, .i64] n); binOp .neq 150 (aggInts [.i64, .i64] m) (aggInts [.i64, .i64] n) : Sem Value).run Try.prog w = .ok (.bool (decide (m ≠ n))) w := by
  exact eqs_by_2 w x y hm hn (by kernel_rfl) (by kernel_rfl) Try.underlying150 Try.underlying3 Try.underlying3 (by decide)
theorem ti150 : TiOk Try.prog 150 { size := 2, bytes := 16, zero := [.int .i64 0, .int .i64 0], kind := .struct [(0, 3), (1, 3)], eqk := [.i64, .i64] } := tiOk_mk info150 rfl rfl rfl (by decide) (⟨_, Try.underlying150, rfl⟩) (by decide) (fun _ => eqs150)
theorem info163 : (Try.prog.info? 163).map (fun i => (i.zero, i.size, i.bytes)) = some (some (.int .u8 0), 1, 1) := by kernel_rfl
theorem ti163 : TiOk Try.prog 163 { size := 1, bytes := 1, zero := [.int .u8 0], kind := .int .u8 } := tiOk_mk info163 rfl rfl rfl (by decide) (Try.underlying163) (by decide) (fun h => absurd rfl h)
theorem info164 : (Try.prog.info? 164).map (fun i => (i.zero, i.size, i.bytes)) = some (some (.int .u8 0), 1, 1) := by kernel_rfl
theorem ti164 : TiOk Try.prog 164 { size := 1, bytes := 1, zero := [.int .u8 0], kind := .int .u8 } := tiOk_mk info164 rfl rfl rfl (by decide) (Try.underlying164) (by decide) (fun h => absurd rfl h)
theorem info167 : (Try.prog.info? 167).map (fun i => (i.zero, i.size, i.bytes)) = some (some (.int .i32 0), 1, 4) := by kernel_rfl
theorem ti167 : TiOk Try.prog 167 { size := 1, bytes := 4, zero := [.int .i32 0], kind := .int .i32 } := tiOk_mk info167 rfl rfl rfl (by decide) (Try.underlying167) (by decide) (fun h => absurd rfl h)
theorem info168 : (Try.prog.info? 168).map (fun i => (i.zero, i.size, i.bytes)) = some (some (.int .i32 0), 1, 4) := by kernel_rfl
theorem ti168 : TiOk Try.prog 168 { size := 1, bytes := 4, zero := [.int .i32 0], kind := .int .i32 } := tiOk_mk info168 rfl rfl rfl (by decide) (Try.underlying168) (by decide) (fun h => absurd rfl h)
def TB : Tab
  | 2 => some { size := 1, bytes := 8, zero := [.int .i64 0], kind := .int .i64 }
  | 3 => some { size := 1, bytes := 8, zero := [.int .i64 0], kind := .int .i64 }
  | 4 => some { size := 1, bytes := 1, zero := [.bool false], kind := .bool }
  | 5 => some { size := 1, bytes := 1, zero := [.int .u8 0], kind := .int .u8 }
  | 6 => some { size := 1, bytes := 1, zero := [.int .u8 0], kind := .int .u8 }
  | 7 => some { size := 4, bytes := 24, zero := [.int .i64 0, .int .i64 0, .bool false, .int .u8 0], kind := .struct [(0, 2), (1, 3), (2, 4), (3, 6)] }
  | 8 => some { size := 4, bytes := 24, zero := [.int .i64 0, .int .i64 0, .bool false, .int .u8 0], kind := .struct [(0, 2), (1, 3), (2, 4), (3, 6)] }
  | 12 => some { size := 1, bytes := 8, zero := [.int .u64 0], kind := .int .u64 }
  | 21 => some { size := 1, bytes := 4, zero := [.int .i32 0], kind := .int .i32 }
  | 22 => some { size := 1, bytes := 24, zero := [.slice none 0 0], kind := .slice 33 }
  | 23 => some { size := 1, bytes := 24, zero := [.slice none 0 0], kind := .slice 88 }
  | 24 => some { size := 2, bytes := 48, zero := [.slice none 0 0, .slice none 0 0], kind := .struct [(0, 22), (1, 23)] }
  | 25 => some { size := 2, bytes := 48, zero := [.slice none 0 0, .slice none 0 0], kind := .struct [(0, 22), (1, 23)] }
  | 26 => some { size := 1, bytes := 24, zero := [.slice none 0 0], kind := .slice 93 }
  | 27 => some { size := 1, bytes := 24, zero := [.slice none 0 0], kind := .struct [(0, 26)] }
  | 28 => some { size := 1, bytes := 24, zero := [.slice none 0 0], kind := .struct [(0, 26)] }
  | 32 => some { size := 2, bytes := 16, zero := [.int .i64 0, .int .i64 0], kind := .struct [(0, 2), (1, 2)], eqk := [.i64, .i64] }
  | 33 => some { size := 2, bytes := 16, zero := [.int .i64 0, .int .i64 0], kind := .struct [(0, 2), (1, 2)], eqk := [.i64, .i64] }
  | 34 => some { size := 1, bytes := 8, zero := [.int .i64 0], kind := .int .i64 }
  | 40 => some { size := 1, bytes := 24, zero := [.slice none 0 0], kind := .slice 3 }
  | 41 => some { size := 2, bytes := 32, zero := [.int .i64 0, .slice none 0 0], kind := .struct [(0, 3), (1, 40)] }
  | 42 => some { size := 2, bytes := 32, zero := [.int .i64 0, .slice none 0 0], kind := .struct [(0, 3), (1, 40)] }
  | 43 => some { size := 1, bytes := 24, zero := [.slice none 0 0], kind := .slice 2 }
  | 56 => some { size := 1, bytes := 24, zero := [.slice none 0 0], kind := .slice 40 }
  | 66 => some { size := 1, bytes := 24, zero := [.slice none 0 0], kind := .slice 5 }
  | 67 => some { size := 1, bytes := 24, zero := [.slice none 0 0], kind := .slice 126 }
  | 68 => some { size := 1, bytes := 2, zero := [.int .u16 0], kind := .int .u16 }
  | 75 => some { size := 2, bytes := 2, zero := [.int .u8 0, .int .u8 0], kind := .array 2 5 }
  | 77 => some { size := 1, bytes := 24, zero := [.slice none 0 0], kind := .slice 42 }
  | 80 => some { size := 2, bytes := 4, zero := [.int .u16 0, .int .u16 0], kind := .array 2 68 }
  | 86 => some { size := 1, bytes := 24, zero := [.slice none 0 0], kind := .slice 28 }
  | 87 => some { size := 1, bytes := 24, zero := [.slice none 0 0], kind := .struct [(0, 86)] }
  | 88 => some { size := 1, bytes := 24, zero := [.slice none 0 0], kind := .struct [(0, 86)] }
  | 92 => some { size := 3, bytes := 24, zero := [.int .i64 0, .int .i64 0, .int .i64 0], kind := .struct [(0, 2), (1, 33)] }
  | 93 => some { size := 3, bytes := 24, zero := [.int .i64 0, .int .i64 0, .int .i64 0], kind := .struct [(0, 2), (1, 33)] }
  | 126 => some { size := 1, bytes := 4, zero := [.int .u32 0], kind := .int .u32 }
  | 130 => some { size := 1, bytes := 24, zero := [.slice none 0 0], kind := .slice 134 }
  | 131 => some { size := 5, bytes := 104, zero := [.slice none 0 0, .slice none 0 0, .int .i64 0, .slice none 0 0, .slice none 0 0], kind := .struct [(0, 25), (2, 42), (4, 130)] }
  | 132 => some { size := 5, bytes := 104, zero := [.slice none 0 0, .slice none 0 0, .int .i64 0, .slice none 0 0, .slice none 0 0], kind := .struct [(0, 25), (2, 42), (4, 130)] }
  | 137 => some { size := 1, bytes := 24, zero := [.slice none 0 0], kind := .slice 141 }
  | 140 => some { size := 4, bytes := 32, zero := [.int .i64 0, .int .i64 0, .int .i64 0, .int .i64 0], kind := .struct [(0, 33), (2, 33)] }
  | 141 => some { size := 4, bytes := 32, zero := [.int .i64 0, .int .i64 0, .int .i64 0, .int .i64 0], kind := .struct [(0, 33), (2, 33)] }
  | 149 => some { size := 2, bytes := 16, zero := [.int .i64 0, .int .i64 0], kind := .struct [(0, 3), (1, 3)], eqk := [.i64, .i64] }
  | 150 => some { size := 2, bytes := 16, zero := [.int .i64 0, .int .i64 0], kind := .struct [(0, 3), (1, 3)], eqk := [.i64, .i64] }
  | 163 => some { size := 1, bytes := 1, zero := [.int .u8 0], kind := .int .u8 }
  | 164 => some { size := 1, bytes := 1, zero := [.int .u8 0], kind := .int .u8 }
  | 167 => some { size := 1, bytes := 4, zero := [.int .i32 0], kind := .int .i32 }
  | 168 => some { size := 1, bytes := 4, zero := [.int .i32 0], kind := .int .i32 }
  | _ => none
@[simp] theorem TB2 : TB 2 = some { size := 1, bytes := 8, zero := [.int .i64 0], kind := .int .i64 } := rfl
@[simp] theorem TB3 : TB 3 = some { size := 1, bytes := 8, zero := [.int .i64 0], kind := .int .i64 } := rfl
@[simp] theorem TB4 : TB 4 = some { size := 1, bytes := 1, zero := [.bool false], kind := .bool } := rfl
@[simp] theorem TB5 : TB 5 = some { size := 1, bytes := 1, zero := [.int .u8 0], kind := .int .u8 } := rfl
@[simp] theorem TB6 : TB 6 = some { size := 1, bytes := 1, zero := [.int .u8 0], kind := .int .u8 } := rfl
@[simp] theorem TB7 : TB 7 = some { size := 4, bytes := 24, zero := [.int .i64 0, .int .i64 0, .bool false, .int .u8 0], kind := .struct [(0, 2), (1, 3), (2, 4), (3, 6)] } := rfl
@[simp] theorem TB8 : TB 8 = some { size := 4, bytes := 24, zero := [.int .i64 0, .int .i64 0, .bool false, .int .u8 0], kind := .struct [(0, 2), (1, 3), (2, 4), (3, 6)] } := rfl
@[simp] theorem TB12 : TB 12 = some { size := 1, bytes := 8, zero := [.int .u64 0], kind := .int .u64 } := rfl
@[simp] theorem TB21 : TB 21 = some { size := 1, bytes := 4, zero := [.int .i32 0], kind := .int .i32 } := rfl
@[simp] theorem TB22 : TB 22 = some { size := 1, bytes := 24, zero := [.slice none 0 0], kind := .slice 33 } := rfl
@[simp] theorem TB23 : TB 23 = some { size := 1, bytes := 24, zero := [.slice none 0 0], kind := .slice 88 } := rfl
@[simp] theorem TB24 : TB 24 = some { size := 2, bytes := 48, zero := [.slice none 0 0, .slice none 0 0], kind := .struct [(0, 22), (1, 23)] } := rfl
@[simp] theorem TB25 : TB 25 = some { size := 2, bytes := 48, zero := [.slice none 0 0, .slice none 0 0], kind := .struct [(0, 22), (1, 23)] } := rfl
@[simp] theorem TB26 : TB 26 = some { size := 1, bytes := 24, zero := [.slice none 0 0], kind := .slice 93 } := rfl
@[simp] theorem TB27 : TB 27 = some { size := 1, bytes := 24, zero := [.slice none 0 0], kind := .struct [(0, 26)] } := rfl
@[simp] theorem TB28 : TB 28 = some { size := 1, bytes := 24, zero := [.slice none 0 0], kind := .struct [(0, 26)] } := rfl
@[simp] theorem TB32 : TB 32 = some { size := 2, bytes := 16, zero := [.int .i64 0, .int .i64 0], kind := .struct [(0, 2), (1, 2)], eqk := [.i64, .i64] } := rfl
@[simp] theorem TB33 : TB 33 = some { size := 2, bytes := 16, zero := [.int .i64 0, .int .i64 0], kind := .struct [(0, 2), (1, 2)], eqk := [.i64, .i64] } := rfl
@[simp] theorem TB34 : TB 34 = some { size := 1, bytes := 8, zero := [.int .i64 0], kind := .int .i64 } := rfl
@[simp] theorem TB40 : TB 40 = some { size := 1, bytes := 24, zero := [.slice none 0 0], kind := .slice 3 } := rfl
@[simp] theorem TB41 : TB 41 = some { size := 2, bytes := 32, zero := [.int .i64 0, .slice none 0 0], kind := .struct [(0, 3), (1, 40)] } := rfl
@[simp] theorem TB42 : TB 42 = some { size := 2, bytes := 32, zero := [.int .i64 0, .slice none 0 0], kind := .struct [(0, 3), (1, 40)] } := rfl
@[simp] theorem TB43 : TB 43 = some { size := 1, bytes := 24, zero := [.slice none 0 0], kind := .slice 2 } := rfl
@[simp] theorem TB56 : TB 56 = some { size := 1, bytes := 24, zero := [.slice none 0 0], kind := .slice 40 } := rfl
@[simp] theorem TB66 : TB 66 = some { size := 1, bytes := 24, zero := [.slice none 0 0], kind := .slice 5 } := rfl
@[simp] theorem TB67 : TB 67 = some { size := 1, bytes := 24, zero := [.slice none 0 0], kind := .slice 126 } := rfl
@[simp] theorem TB68 : TB 68 = some { size := 1, bytes := 2, zero := [.int .u16 0], kind := .int .u16 } := rfl
@[simp] theorem TB75 : TB 75 = some { size := 2, bytes := 2, zero := [.int .u8 0, .int .u8 0], kind := .array 2 5 } := rfl
@[simp] theorem TB77 : TB 77 = some { size := 1, bytes := 24, zero := [.slice none 0 0], kind := .slice 42 } := rfl
@[simp] theorem TB80 : TB 80 = some { size := 2, bytes := 4, zero := [.int .u16 0, .int .u16 0], kind := .array 2 68 } := rfl
@[simp] theorem TB86 : TB 86 = some { size := 1, bytes := 24, zero := [.slice none 0 0], kind := .slice 28 } := rfl
@[simp] theorem TB87 : TB 87 = some { size := 1, bytes := 24, zero := [.slice none 0 0], kind := .struct [(0, 86)] } := rfl
@[simp] theorem TB88 : TB 88 = some { size := 1, bytes := 24, zero := [.slice none 0 0], kind := .struct [(0, 86)] } := rfl
@[simp] theorem TB92 : TB 92 = some { size := 3, bytes := 24, zero := [.int .i64 0, .int .i64 0, .int .i64 0], kind := .struct [(0, 2), (1, 33)] } := rfl
@[simp] theorem TB93 : TB 93 = some { size := 3, bytes := 24, zero := [.int .i64 0, .int .i64 0, .int .i64 0], kind := .struct [(0, 2), (1, 33)] } := rfl
@[simp] theorem TB126 : TB 126 = some { size := 1, bytes := 4, zero := [.int .u32 0], kind := .int .u32 } := rfl
@[simp] theorem TB130 : TB 130 = some { size := 1, bytes := 24, zero := [.slice none 0 0], kind := .slice 134 } := rfl
@[simp] theorem TB131 : TB 131 = some { size := 5, bytes := 104, zero := [.slice none 0 0, .slice none 0 0, .int .i64 0, .slice none 0 0, .slice none 0 0], kind := .struct [(0, 25), (2, 42), (4, 130)] } := rfl
@[simp] theorem TB132 : TB 132 = some { size := 5, bytes := 104, zero := [.slice none 0 0, .slice none 0 0, .int .i64 0, .slice none 0 0, .slice none 0 0], kind := .struct [(0, 25), (2, 42), (4, 130)] } := rfl
@[simp] theorem TB137 : TB 137 = some { size := 1, bytes := 24, zero := [.slice none 0 0], kind := .slice 141 } := rfl
@[simp] theorem TB140 : TB 140 = some { size := 4, bytes := 32, zero := [.int .i64 0, .int .i64 0, .int .i64 0, .int .i64 0], kind := .struct [(0, 33), (2, 33)] } := rfl
@[simp] theorem TB141 : TB 141 = some { size := 4, bytes := 32, zero := [.int .i64 0, .int .i64 0, .int .i64 0, .int .i64 0], kind := .struct [(0, 33), (2, 33)] } := rfl
@[simp] theorem TB149 : TB 149 = some { size := 2, bytes := 16, zero := [.int .i64 0, .int .i64 0], kind := .struct [(0, 3), (1, 3)], eqk := [.i64, .i64] } := rfl
@[simp] theorem TB150 : TB 150 = some { size := 2, bytes := 16, zero := [.int .i64 0, .int .i64 0], kind := .struct [(0, 3), (1, 3)], eqk := [.i64, .i64] } := rfl
@[simp] theorem TB163 : TB 163 = some { size := 1, bytes := 1, zero := [.int .u8 0], kind := .int .u8 } := rfl
@[simp] theorem TB164 : TB 164 = some { size := 1, bytes := 1, zero := [.int .u8 0], kind := .int .u8 } := rfl
@[simp] theorem TB167 : TB 167 = some { size := 1, bytes := 4, zero := [.int .i32 0], kind := .int .i32 } := rfl
@[simp] theorem TB168 : TB 168 = some { size := 1, bytes := 4, zero := [.int .i32 0], kind := .int .i32 } := rfl
theorem tabOk : TabOk Try.prog TB := by
  intro t i h
  unfold TB at h
  split at h <;> first
    | (cases h; exact ti2)
    | (cases h; exact ti3)
    | (cases h; exact ti4)
    | (cases h; exact ti5)
    | (cases h; exact ti6)
    | (cases h; exact ti7)
    | (cases h; exact ti8)
    | (cases h; exact ti12)
    | (cases h; exact ti21)
    | (cases h; exact ti22)
    | (cases h; exact ti23)
    | (cases h; exact ti24)
    | (cases h; exact ti25)
    | (cases h; exact ti26)
    | (cases h; exact ti27)
    | (cases h; exact ti28)
    | (cases h; exact ti32)
    | (cases h; exact ti33)
    | (cases h; exact ti34)
    | (cases h; exact ti40)
    | (cases h; exact ti41)
    | (cases h; exact ti42)
    | (cases h; exact ti43)
    | (cases h; exact ti56)
    | (cases h; exact ti66)
    | (cases h; exact ti67)
    | (cases h; exact ti68)
    | (cases h; exact ti75)
    | (cases h; exact ti77)
    | (cases h; exact ti80)
    | (cases h; exact ti86)
    | (cases h; exact ti87)
    | (cases h; exact ti88)
    | (cases h; exact ti92)
    | (cases h; exact ti93)
    | (cases h; exact ti126)
    | (cases h; exact ti130)
    | (cases h; exact ti131)
    | (cases h; exact ti132)
    | (cases h; exact ti137)
    | (cases h; exact ti140)
    | (cases h; exact ti141)
    | (cases h; exact ti149)
    | (cases h; exact ti150)
    | (cases h; exact ti163)
    | (cases h; exact ti164)
    | (cases h; exact ti167)
    | (cases h; exact ti168)
    | cases h
end Go.Proofs.Ytigpefjeelgfdaa.Eng

/-
  Layer 1's reference, by the engine: some.
-/
namespace Go.Proofs.Ytigpefjeelgfdaa.Eng
open Go.RowKit

def recD (bar : Int) (ways : List Int) : Dat := .agg [iD bar, intL ways]
def someL (l : List Int) (k : Nat) : List Int := ((List.range k).filter fun i => 0 < l.getD i 0).map Int.ofNat
theorem someL_yes {l : List Int} {k : Nat} {x : Int} (h : l[k]? = some x) (hx : 0 < x) : someL l (k + 1) = someL l k ++ [(k : Int)] := by
  simp [someL, List.range_succ, List.filter_append, h, hx]
theorem someL_no {l : List Int} {k : Nat} {x : Int} (h : l[k]? = some x) (hx : ¬ 0 < x) : someL l (k + 1) = someL l k := by
  simp [someL, List.range_succ, List.filter_append, h, hx]
theorem someL_len (l : List Int) (k : Nat) : (someL l k).length ≤ k := by unfold someL; rw [List.length_map]; exact Nat.le_trans (List.length_filter_le _ _) (by simp)
end Go.Proofs.Ytigpefjeelgfdaa.Eng

/-
  Layer 1's reference, by the engine: counts.
-/
namespace Go.Proofs.Ytigpefjeelgfdaa.Eng
open Go.RowKit

abbrev Rec := Int × List Int
def ofN (r : Rec) (step : Int) : Int := if step < 0 then r.1 else r.2.getD step.toNat 0
def recRows (l : List Rec) : List (List Dat) := l.map fun r => [iD r.1, intL r.2]
abbrev recsD (l : List Rec) : Dat := .list (recRows l)
@[simp] theorem recRows_len (l : List Rec) : (recRows l).length = l.length := List.length_map _
@[simp] theorem recRows_get (l : List Rec) (i : Nat) : (recRows l)[i]? = (l[i]?).map fun r => [iD r.1, intL r.2] := List.getElem?_map
@[simp] theorem recRows_mem (l : List Rec) (p : List Dat → Prop) : (∀ r ∈ recRows l, p r) ↔ ∀ n ∈ l, p [iD n.1, intL n.2] := by
  simp only [recRows, List.mem_map]
  exact ⟨fun h n hn => h _ ⟨n, hn, rfl⟩, fun h r ⟨n, hn, e⟩ => e ▸ h n hn⟩
@[simp] theorem recRows_nil : recRows [] = [] := rfl
@[simp] theorem recRows_app (l m : List Rec) : recRows (l ++ m) = recRows l ++ recRows m := List.map_append
@[simp] theorem recRows_one (r : Rec) : recRows [r] = [[iD r.1, intL r.2]] := rfl
/-- Six counts. -/
def bump (o : List Int) (j : Int) : List Int := o.set j.toNat (o.getD j.toNat 0 + 1)
def bumps (l : List Rec) (step : Int) : Nat → List Int
  | 0 => [0, 0, 0, 0, 0, 0]
  | k + 1 => match l[k]? with
    | some r => bump (bumps l step k) (ofN r step)
    | none => bumps l step k
theorem bumps_len (l : List Rec) (step : Int) (k : Nat) : (bumps l step k).length = 6 := by
  induction k with
  | zero => rfl
  | succ k ih => simp only [bumps]; split <;> simp [bump, ih]
theorem bumps_val (l : List Rec) (step : Int) (k : Nat) : ∀ j, (bumps l step k).getD j 0 = ((l.take k).filter fun r => j < 6 && (ofN r step).toNat == j).length := by
  induction k with
  | zero => intro j; simp only [bumps, List.take_zero, List.filter_nil, List.length_nil]; match j with | 0 | 1 | 2 | 3 | 4 | 5 => rfl | j + 6 => rfl
  | succ k ih =>
    intro j
    simp only [bumps]
    cases hr : l[k]? with
    | none =>
      have hk := List.getElem?_eq_none_iff.1 hr
      have e : l.take (k + 1) = l.take k := by rw [List.take_of_length_le (by omega), List.take_of_length_le hk]
      rw [e]
      exact ih j
    | some r =>
      have ht : l.take (k + 1) = l.take k ++ [r] := by
        obtain ⟨hk, rfl⟩ := List.getElem?_eq_some_iff.1 hr
        rw [List.take_succ_eq_append_getElem hk]
      rw [ht, List.filter_append, List.length_append]
      simp only [bump]
      have hl := bumps_len l step k
      by_cases e : (ofN r step).toNat = j
      · subst e
        by_cases hj : (ofN r step).toNat < 6
        · have hj' : (ofN r step).toNat < (bumps l step k).length := by omega
          have := ih (ofN r step).toNat
          simp only [List.getD_eq_getElem?_getD] at this ⊢
          rw [List.getElem?_set_self hj']
          simp [hj, this]
        · rw [List.getD_eq_getElem?_getD, List.getElem?_eq_none (by simp; omega)]
          simp [hj]
          induction List.take k l with
          | nil => rfl
          | cons a l ih => simpa using ih
      · rw [List.getD_eq_getElem?_getD, List.getElem?_set_ne e, ← List.getD_eq_getElem?_getD, ih j]
        simp [e]
end Go.Proofs.Ytigpefjeelgfdaa.Eng

/-
  Layer 1's reference, by the engine: Recipes.
-/
namespace Go.Proofs.Ytigpefjeelgfdaa.Eng
open Go.RowKit

abbrev rgRow (r : Rg) : List Dat := [iD r.1, iD r.2]
def rgRows (l : List Rg) : List (List Dat) := l.map rgRow
def kinkRows (l : List Kink) : List (List Dat) := l.map fun k => [iD k.frm, iD k.lo, iD k.hi]
def wayRows (l : List (List Kink)) : List (List Dat) := l.map fun ks => [.list (kinkRows ks)]
def stepRows (l : List (List (List Kink))) : List (List Dat) := l.map fun ws => [.list (wayRows ws)]
abbrev worksD (x : Works) : Dat := .agg [.list (rgRows x.bars), .list (stepRows x.steps)]
@[simp] theorem rgRows_len (l : List Rg) : (rgRows l).length = l.length := List.length_map _
@[simp] theorem stepRows_len (l : List (List (List Kink))) : (stepRows l).length = l.length := List.length_map _
@[simp] theorem wayRows_len (l : List (List Kink)) : (wayRows l).length = l.length := List.length_map _
@[simp] theorem rgRows_get (l : List Rg) (i : Nat) : (rgRows l)[i]? = (l[i]?).map rgRow := List.getElem?_map
@[simp] theorem stepRows_get (l : List (List (List Kink))) (i : Nat) : (stepRows l)[i]? = (l[i]?).map fun ws => [.list (wayRows ws)] := List.getElem?_map
@[simp] theorem wayRows_get (l : List (List Kink)) (i : Nat) : (wayRows l)[i]? = (l[i]?).map fun ks => [.list (kinkRows ks)] := List.getElem?_map

def barRecs (n : Nat) : List Rec := (List.range n).map fun (b : Nat) => ((b : Int), [])
theorem barRecs_succ (n : Nat) : barRecs (n + 1) = barRecs n ++ [((n : Int), [])] := by simp [barRecs, List.range_succ]
theorem barRecs_len (n : Nat) : (barRecs n).length = n := by simp [barRecs]
def ext1 (r : Rec) (n : Nat) : List Rec := (List.range n).map fun (k : Nat) => (r.1, r.2 ++ [(k : Int)])
theorem ext1_succ (r : Rec) (n : Nat) : ext1 r (n + 1) = ext1 r n ++ [(r.1, r.2 ++ [(n : Int)])] := by simp [ext1, List.range_succ]
def extTo (l : List Rec) (n m : Nat) : List Rec := (l.take m).flatMap fun r => ext1 r n
theorem extTo_succ {l : List Rec} {n m : Nat} {r : Rec} (h : l[m]? = some r) : extTo l n (m + 1) = extTo l n m ++ ext1 r n := by
  obtain ⟨hm, rfl⟩ := List.getElem?_eq_some_iff.1 h
  unfold extTo
  rw [List.take_succ_eq_append_getElem hm, List.flatMap_append]
  simp only [List.flatMap_cons, List.flatMap_nil, List.append_nil]
theorem extTo_len (l : List Rec) (n m : Nat) : (extTo l n m).length = (l.take m).length * n := by
  unfold extTo
  induction l.take m with
  | nil => simp
  | cons r l ih => rw [List.flatMap_cons, List.length_append, ih, List.length_cons, Nat.add_mul, Nat.one_mul, Nat.add_comm]; simp [ext1]
def nextTo (l : List Rec) (n m : Nat) (r : Rec) (k : Nat) : List Rec := extTo l n m ++ ext1 r k
theorem nextTo_zero (l : List Rec) (n m : Nat) (r : Rec) : nextTo l n m r 0 = extTo l n m := by simp [nextTo, ext1]
theorem nextTo_succ (l : List Rec) (n m : Nat) (r : Rec) (k : Nat) : nextTo l n m r (k + 1) = nextTo l n m r k ++ [(r.1, r.2 ++ [(k : Int)])] := by simp only [nextTo, ext1_succ, List.append_assoc]
theorem nextTo_len (l : List Rec) (n m : Nat) (r : Rec) (k : Nat) : (nextTo l n m r k).length = (extTo l n m).length + k := by simp [nextTo, ext1]
def recsTo (x : Works) : Nat → List Rec
  | 0 => barRecs x.bars.length
  | i + 1 => match x.steps[i]? with
    | some ws => extTo (recsTo x i) ws.length (recsTo x i).length
    | none => recsTo x i

set_option maxRecDepth 100000 in
set_option maxHeartbeats 4000000 in
theorem recipes_ok (x : Works) (hb : x.bars.length ≤ 1000) (hst : x.steps.length ≤ 1000) (hw : ∀ ws ∈ x.steps, ws.length ≤ 1000) (hrl : ∀ i, ∀ r ∈ recsTo x i, r.2.length ≤ 1000) (hn : ∀ i, (recsTo x i).length ≤ 1000) : ACall Try.prog 50 [worksD x] (recsD (recsTo x x.steps.length)) := by
  refine acallK tabOk Try.func50 rfl rfl (show 1 ≤ _ by decide) rfl fun _ => ?_; simp only [Try.ntmps50]
  repeat (first | (with_reducible first | refine AWp.seqK fun _ => ?_ | refine AWp.blockK fun _ => ?_ | refine KK.go ?_) | ((first | refine AWp.reg tabOk ?_ | refine AWp.condK fun _ _ => ?_ | refine AWp.draws tabOk (by kernel_rfl) (by kernel_rfl) ?_); simp [-getElem?_pos, z0, z1, z2, ]) | ((first | refine AWp.ret ?_ | refine AWp.skip ?_ | refine AWp.exit ?_); try simp only [thenP]) | (with_reducible refine BB.go ?_; simp only [blockP, thenP, if_true, if_false, reduceIte]) | (with_reducible refine And.intro (show okLog _ _ = true from by kernel_rfl) ?_))
  refine AWp.loopK (ι := { k : Nat // k ≤ x.bars.length }) (n := 2) (fun k => [(1, .ptr 0 0 0), (3, gS 1 2 (recRows (barRecs k.1))), (4, .d (iD k.1))]) (fun k => (0, .box 25 [.d (.list (rgRows x.bars)), .d (.list (stepRows x.steps))] false) :: gM 1 42 2 (recRows (barRecs k.1))) (fun k => x.bars.length - k.1) ⟨0, Nat.zero_le _⟩ [0, 1] ?_ ?_
  · refine ⟨by rfl, by simp [barRecs], by simp [or_imp, forall_and, barRecs] <;> (try (intro _hne; simp [_hne])), by decide⟩
  · rintro ⟨k, hk⟩ kk
    have w1 : IntKind.i64.wrap ((k : Int) + 1) = (k : Int) + 1 := wrap64_in (by omega)
    by_cases hlt : k < x.bars.length
    · have hs := barRecs_succ k
      have hr := recRows_len (barRecs k)
      rw [barRecs_len] at hr
      rcases h : recRows (barRecs k) with _ | ⟨r, o⟩ <;> rw [h] at hr
      · repeat (first | (with_reducible first | refine AWp.seqK fun _ => ?_ | refine AWp.blockK fun _ => ?_ | refine KK.go ?_) | ((first | refine AWp.reg tabOk ?_ | refine AWp.condK fun _ _ => ?_ | refine AWp.draws tabOk (by kernel_rfl) (by kernel_rfl) ?_); simp [-getElem?_pos, z0, z1, z2, hlt, w1]) | ((first | refine AWp.ret ?_ | refine AWp.skip ?_ | refine AWp.exit ?_); try simp only [thenP]) | (with_reducible refine BB.go ?_; simp only [blockP, thenP, if_true, if_false, reduceIte]) | (with_reducible refine And.intro (show okLog _ _ = true from by kernel_rfl) ?_))
        refine LL.go ⟨k + 1, hlt⟩ [0, 11] ⟨by rfl, by simp [hs, h], by simp [or_imp, forall_and, hs, h] <;> (try (intro _hne; simp [_hne])), by decide⟩ ?_
        simp; omega
      · simp at hr
        have b1 : fitsB (o.length + 1 + 1) 32 = true := fitsB_small (by omega) (by omega)
        repeat (first | (with_reducible first | refine AWp.seqK fun _ => ?_ | refine AWp.blockK fun _ => ?_ | refine KK.go ?_) | ((first | refine AWp.reg tabOk ?_ | refine AWp.condK fun _ _ => ?_ | refine AWp.draws tabOk (by kernel_rfl) (by kernel_rfl) ?_); simp [-getElem?_pos, z0, z1, z2, hlt, w1, b1]) | ((first | refine AWp.ret ?_ | refine AWp.skip ?_ | refine AWp.exit ?_); try simp only [thenP]) | (with_reducible refine BB.go ?_; simp only [blockP, thenP, if_true, if_false, reduceIte]) | (with_reducible refine And.intro (show okLog _ _ = true from by kernel_rfl) ?_))
        refine LL.go ⟨k + 1, hlt⟩ [0, 11] ⟨by rfl, by simp [hs, h], by simp [or_imp, forall_and, hs, h] <;> (try (intro _hne; simp [_hne])), by decide⟩ ?_
        simp; omega
    · obtain rfl : k = x.bars.length := by omega
      repeat (first | (with_reducible first | refine AWp.seqK fun _ => ?_ | refine AWp.blockK fun _ => ?_ | refine KK.go ?_) | ((first | refine AWp.reg tabOk ?_ | refine AWp.condK fun _ _ => ?_ | refine AWp.draws tabOk (by kernel_rfl) (by kernel_rfl) ?_); simp [-getElem?_pos, z0, z1, z2, hlt]) | ((first | refine AWp.ret ?_ | refine AWp.skip ?_ | refine AWp.exit ?_); try simp only [thenP]) | (with_reducible refine BB.go ?_; simp only [blockP, thenP, if_true, if_false, reduceIte]) | (with_reducible refine And.intro (show okLog _ _ = true from by kernel_rfl) ?_))
      refine AWp.loopK (ι := { k : Nat // k ≤ x.steps.length }) (n := 2) (fun k => [(1, .ptr 0 0 0), (3, gS 1 2 (recRows (recsTo x k.1))), (5, .d (iD k.1))]) (fun k => (0, .box 25 [.d (.list (rgRows x.bars)), .d (.list (stepRows x.steps))] false) :: gM 1 42 2 (recRows (recsTo x k.1))) (fun k => x.steps.length - k.1) ⟨0, Nat.zero_le _⟩ [0, 1] ?_ ?_
      · refine ⟨by rfl, by simp [recsTo], by simp [or_imp, forall_and, recsTo] <;> (try (intro _hne; simp [_hne])), by decide⟩
      rintro ⟨i, hi⟩ kk2
      have hlen := hn i
      have w1 : IntKind.i64.wrap ((i : Int) + 1) = (i : Int) + 1 := wrap64_in (by omega)
      by_cases hlt : i < x.steps.length
      · obtain ⟨ws, hws⟩ : ∃ ws, x.steps[i]? = some ws := ⟨_, List.getElem?_eq_getElem hlt⟩
        have hs : recsTo x (i + 1) = extTo (recsTo x i) ws.length (recsTo x i).length := by simp only [recsTo, hws]
        have hlen2 := hn (i + 1)
        rw [hs] at hlen2
        repeat (first | (with_reducible first | refine AWp.seqK fun _ => ?_ | refine AWp.blockK fun _ => ?_ | refine KK.go ?_) | ((first | refine AWp.reg tabOk ?_ | refine AWp.condK fun _ _ => ?_ | refine AWp.draws tabOk (by kernel_rfl) (by kernel_rfl) ?_); simp [-getElem?_pos, z0, z1, z2, hlt, hws]) | ((first | refine AWp.ret ?_ | refine AWp.skip ?_ | refine AWp.exit ?_); try simp only [thenP]) | (with_reducible refine BB.go ?_; simp only [blockP, thenP, if_true, if_false, reduceIte]) | (with_reducible refine And.intro (show okLog _ _ = true from by kernel_rfl) ?_))
        refine AWp.loopK (ι := { m : Nat // m ≤ (recsTo x i).length }) (n := 3) (fun m => [(1, .ptr 0 0 0), (3, gS 1 2 (recRows (recsTo x i))), (5, .d (iD i)), (6, gS 2 2 (recRows (extTo (recsTo x i) ws.length m.1))), (7, .d (iD m.1))]) (fun m => (0, .box 25 [.d (.list (rgRows x.bars)), .d (.list (stepRows x.steps))] false) :: (gM 1 42 2 (recRows (recsTo x i)) ++ gM 2 42 2 (recRows (extTo (recsTo x i) ws.length m.1)))) (fun m => (recsTo x i).length - m.1) ⟨0, Nat.zero_le _⟩ [0, 1, 2] ?_ ?_
        · refine ⟨by rfl, by simp [extTo], by simp [or_imp, forall_and, extTo] <;> (try (intro _hne; simp [_hne])), by decide⟩
        rintro ⟨m, hm⟩ kk3
        have w2 : IntKind.i64.wrap ((m : Int) + 1) = (m : Int) + 1 := wrap64_in (by omega)
        by_cases hlt3 : m < (recsTo x i).length
        · obtain ⟨r, hr⟩ : ∃ r, (recsTo x i)[m]? = some r := ⟨_, List.getElem?_eq_getElem hlt3⟩
          have hs3 := extTo_succ (n := ws.length) hr
          have hne : recRows (recsTo x i) ≠ [] := by
            intro h
            have := congrArg List.length h
            rw [recRows_len] at this
            simp at this
            rw [this] at hr
            simp at hr
          have hwl := hw ws (List.mem_of_getElem? hws)
          have hrl2 := hrl i r (List.mem_of_getElem? hr)
          have hl3 : (extTo (recsTo x i) ws.length m).length + ws.length ≤ 1000 := by
            rw [extTo_len] at hlen2 ⊢
            rw [List.take_of_length_le (Nat.le_refl _)] at hlen2
            rw [List.length_take, Nat.min_eq_left hm]
            have := Nat.mul_le_mul_right ws.length (show m + 1 ≤ (recsTo x i).length by omega)
            rw [Nat.add_mul, Nat.one_mul] at this
            omega
          repeat (first | (with_reducible first | refine AWp.seqK fun _ => ?_ | refine AWp.blockK fun _ => ?_ | refine KK.go ?_) | ((first | refine AWp.reg tabOk ?_ | refine AWp.condK fun _ _ => ?_ | refine AWp.draws tabOk (by kernel_rfl) (by kernel_rfl) ?_); simp [-getElem?_pos, z0, z1, z2, hlt3, hws, hr, gS_ne hne]) | ((first | refine AWp.ret ?_ | refine AWp.skip ?_ | refine AWp.exit ?_); try simp only [thenP]) | (with_reducible refine BB.go ?_; simp only [blockP, thenP, if_true, if_false, reduceIte]) | (with_reducible refine And.intro (show okLog _ _ = true from by kernel_rfl) ?_))
          refine AWp.loopK (ι := { k : Nat // k ≤ ws.length }) (n := 3) (fun k => [(1, .ptr 0 0 0), (3, gS 1 2 (recRows (recsTo x i))), (5, .d (iD i)), (6, gS 2 2 (recRows (nextTo (recsTo x i) ws.length m r k.1))), (7, .d (iD m)), (8, .d (iD k.1))]) (fun k => (0, .box 25 [.d (.list (rgRows x.bars)), .d (.list (stepRows x.steps))] false) :: (gM 1 42 2 (recRows (recsTo x i)) ++ gM 2 42 2 (recRows (nextTo (recsTo x i) ws.length m r k.1)))) (fun k => ws.length - k.1) ⟨0, Nat.zero_le _⟩ [0, 1, 2] ?_ ?_
          · refine ⟨by rfl, by simp [nextTo_zero, gS_ne hne, hne], by simp [or_imp, forall_and, nextTo_zero, gS_ne hne, hne] <;> (try (intro _hne; simp [_hne])), by decide⟩
          rintro ⟨k, hk⟩ kk4
          have w3 : IntKind.i64.wrap ((k : Int) + 1) = (k : Int) + 1 := wrap64_in (by omega)
          by_cases hlt4 : k < ws.length
          · have hs4 := nextTo_succ (recsTo x i) ws.length m r k
            have hl4 := nextTo_len (recsTo x i) ws.length m r k
            have b1 : fitsB ((nextTo (recsTo x i) ws.length m r k).length + 1) 32 = true := fitsB_small (by omega) (by omega)
            have b2 : fitsB r.2.length 8 = true := fitsB_small (by omega) (by omega)
            have b3 : fitsB (r.2.length + 1) 8 = true := fitsB_small (by omega) (by omega)
            by_cases hz : recRows (nextTo (recsTo x i) ws.length m r k) = []
            · have hz2 : nextTo (recsTo x i) ws.length m r k = [] := by simpa [recRows] using hz
              repeat (first | (with_reducible first | refine AWp.seqK fun _ => ?_ | refine AWp.blockK fun _ => ?_ | refine KK.go ?_) | ((first | refine AWp.reg tabOk ?_ | refine AWp.condK fun _ _ => ?_ | refine AWp.draws tabOk (by kernel_rfl) (by kernel_rfl) ?_); simp [-getElem?_pos, z0, z1, z2, hlt, hlt3, hlt4, hws, hr, gS_ne hne, hne, hz, b1, b2, b3, w3]) | ((first | refine AWp.ret ?_ | refine AWp.skip ?_ | refine AWp.exit ?_); try simp only [thenP]) | (with_reducible refine BB.go ?_; simp only [blockP, thenP, if_true, if_false, reduceIte]) | (with_reducible refine And.intro (show okLog _ _ = true from by kernel_rfl) ?_))
              refine LL.go ⟨k + 1, hlt4⟩ [0, 1, 30] ⟨by rfl, by simp [hs4, hz, hz2, gS_ne hne, hne], by simp [or_imp, forall_and, hs4, hz, hz2, gS_ne hne, hne] <;> (try (intro _hne; simp [_hne])), by decide⟩ ?_
              simp; omega
            · repeat (first | (with_reducible first | refine AWp.seqK fun _ => ?_ | refine AWp.blockK fun _ => ?_ | refine KK.go ?_) | ((first | refine AWp.reg tabOk ?_ | refine AWp.condK fun _ _ => ?_ | refine AWp.draws tabOk (by kernel_rfl) (by kernel_rfl) ?_); simp [-getElem?_pos, z0, z1, z2, hlt, hlt3, hlt4, hws, hr, gS_ne hne, hne, gS_ne hz, hz, b1, b2, b3, w3]) | ((first | refine AWp.ret ?_ | refine AWp.skip ?_ | refine AWp.exit ?_); try simp only [thenP]) | (with_reducible refine BB.go ?_; simp only [blockP, thenP, if_true, if_false, reduceIte]) | (with_reducible refine And.intro (show okLog _ _ = true from by kernel_rfl) ?_))
              refine LL.go ⟨k + 1, hlt4⟩ [0, 1, 30] ⟨by rfl, by simp [hs4, gS_ne hne, hne], by simp [or_imp, forall_and, hs4, gS_ne hne, hne] <;> (try (intro _hne; simp [_hne])), by decide⟩ ?_
              simp; omega
          · obtain rfl : k = ws.length := by omega
            have hs6 : nextTo (recsTo x i) ws.length m r ws.length = extTo (recsTo x i) ws.length (m + 1) := hs3.symm
            repeat (first | (with_reducible first | refine AWp.seqK fun _ => ?_ | refine AWp.blockK fun _ => ?_ | refine KK.go ?_) | ((first | refine AWp.reg tabOk ?_ | refine AWp.condK fun _ _ => ?_ | refine AWp.draws tabOk (by kernel_rfl) (by kernel_rfl) ?_); simp [-getElem?_pos, z0, z1, z2, hlt, hws, hlt4, w2]) | ((first | refine AWp.ret ?_ | refine AWp.skip ?_ | refine AWp.exit ?_); try simp only [thenP]) | (with_reducible refine BB.go ?_; simp only [blockP, thenP, if_true, if_false, reduceIte]) | (with_reducible refine And.intro (show okLog _ _ = true from by kernel_rfl) ?_))
            refine LL.go ⟨m + 1, hlt3⟩ [0, 1, 2] ⟨by rfl, by simp [hs6, gS_ne hne, hne], by simp [or_imp, forall_and, hs6, gS_ne hne, hne] <;> (try (intro _hne; simp [_hne])), by decide⟩ ?_
            simp; omega
        · obtain rfl : m = (recsTo x i).length := by omega
          repeat (first | (with_reducible first | refine AWp.seqK fun _ => ?_ | refine AWp.blockK fun _ => ?_ | refine KK.go ?_) | ((first | refine AWp.reg tabOk ?_ | refine AWp.condK fun _ _ => ?_ | refine AWp.draws tabOk (by kernel_rfl) (by kernel_rfl) ?_); simp [-getElem?_pos, z0, z1, z2, hlt3, w1]) | ((first | refine AWp.ret ?_ | refine AWp.skip ?_ | refine AWp.exit ?_); try simp only [thenP]) | (with_reducible refine BB.go ?_; simp only [blockP, thenP, if_true, if_false, reduceIte]) | (with_reducible refine And.intro (show okLog _ _ = true from by kernel_rfl) ?_))
          refine LL.go ⟨i + 1, hlt⟩ [0, 2] ⟨by rfl, by simp [hs], by simp [or_imp, forall_and, hs] <;> (try (intro _hne; simp [_hne])), by decide⟩ ?_
          simp; omega
      · obtain rfl : i = x.steps.length := by omega
        repeat (first | (with_reducible first | refine AWp.seqK fun _ => ?_ | refine AWp.blockK fun _ => ?_ | refine KK.go ?_) | ((first | refine AWp.reg tabOk ?_ | refine AWp.condK fun _ _ => ?_ | refine AWp.draws tabOk (by kernel_rfl) (by kernel_rfl) ?_); simp [-getElem?_pos, z0, z1, z2, hlt]) | ((first | refine AWp.ret ?_ | refine AWp.skip ?_ | refine AWp.exit ?_); try simp only [thenP]) | (with_reducible refine BB.go ?_; simp only [blockP, thenP, if_true, if_false, reduceIte]) | (with_reducible refine And.intro (show okLog _ _ = true from by kernel_rfl) ?_))
        refine RR.list (id := 1) (z := 2) (by simp) fun r o h => ?_
        simp [h]
end Go.Proofs.Ytigpefjeelgfdaa.Eng

/-
  Layer 1, plain: what the chapter's definitions come to, on lists and numbers. No program, no memory.
-/
namespace Go.Proofs.Ytigpefjeelgfdaa
open Go.RowKit

def hardB (n : Int) : Bool := decide (0 ≤ n ∧ n ≤ 1000)
theorem hardB_t {n : Int} (h1 : 0 ≤ n) (h2 : n ≤ 1000) : hardB n = true := by simp [hardB, h1, h2]
theorem hardB_f {n : Int} (h1 : n < 0 ∨ 1000 < n) : hardB n = false := by simp [hardB]; omega
theorem hardB_iff {n : Int} : hardB n = true ↔ 0 ≤ n ∧ n ≤ 1000 := by simp [hardB]
/-- A valid range with hardnesses as ends. -/
def isHardB (lo hi : Int) : Bool := hardB lo && hardB hi && decide (lo ≤ hi)
theorem isHardB_iff {lo hi : Int} : isHardB lo hi = true ↔ 0 ≤ lo ∧ lo ≤ hi ∧ hi ≤ 1000 := by
  simp only [isHardB, Bool.and_eq_true, hardB_iff, decide_eq_true_eq]; omega
theorem isHardB_not {lo hi : Int} (h : ¬ (0 ≤ lo ∧ lo ≤ hi ∧ hi ≤ 1000)) : isHardB lo hi = false := by
  rw [← Bool.not_eq_true, isHardB_iff]; exact h
def inB (n lo hi : Int) : Bool := decide (lo ≤ n ∧ n ≤ hi)

/-! ### what a hardness can be after a way -/
def kFst : List Kink → Rg
  | [] => (0, 0)
  | k :: _ => (k.lo, k.hi)
def aftTo (ks : List Kink) (h : Int) (k : Nat) : Rg := (ks.take k).foldl (fun out x => if x.frm ≤ h then (x.lo, x.hi) else out) (kFst ks)
def aft (ks : List Kink) (h : Int) : Rg := aftTo ks h ks.length
theorem aftTo_zero (ks : List Kink) (h : Int) : aftTo ks h 0 = kFst ks := rfl
theorem aftTo_yes {ks : List Kink} {h : Int} {k : Nat} {x : Kink} (hx : Hid (ks[k]? = some x)) (hl : x.frm ≤ h) : aftTo ks h (k + 1) = (x.lo, x.hi) := by
  unfold aftTo
  rw [take_some hx.out, List.foldl_append]
  simp [hl]
theorem aftTo_no {ks : List Kink} {h : Int} {k : Nat} {x : Kink} (hx : Hid (ks[k]? = some x)) (hl : ¬ x.frm ≤ h) : aftTo ks h (k + 1) = aftTo ks h k := by
  unfold aftTo
  rw [take_some hx.out, List.foldl_append]
  simp [hl]
theorem kFst_of {ks : List Kink} {x : Kink} (hx : Hid (ks[0]? = some x)) : kFst ks = (x.lo, x.hi) := by
  cases ks with
  | nil => simp [Hid] at hx
  | cons k l => have := hx.out; simp at this; subst this; rfl

/-! ### which ways are valid -/
/-- The kink at i (any default behind the end). -/
def kk (ks : List Kink) (i : Nat) : Kink := ks.getD i ⟨0, 0, 0⟩
theorem kk_of {ks : List Kink} {i : Nat} {x : Kink} (hx : Hid (ks[i]? = some x)) : kk ks i = x := by simp [kk, List.getD, hx.out]
/-- The kink at i is as described, held against the one ahead of it (as heat has it: its From is a hardness, too). -/
def kinkOk (ks : List Kink) (i : Nat) : Bool :=
  hardB (kk ks i).frm && isHardB (kk ks i).lo (kk ks i).hi && !(decide (i = 0 ∧ (kk ks i).frm ≠ 0 ∨ 0 < i ∧ (kk ks i).frm ≤ (kk ks (i - 1)).frm))
/-- The same as the document's words have it for the reference: no From is above 1000. -/
def kinkOk' (ks : List Kink) (i : Nat) : Bool :=
  !(decide (i = 0 ∧ (kk ks i).frm ≠ 0 ∨ 0 < i ∧ (kk ks i).frm ≤ (kk ks (i - 1)).frm)) && decide ((kk ks i).frm ≤ 1000) && isHardB (kk ks i).lo (kk ks i).hi
def kinksOk (ks : List Kink) : Bool := allN (kinkOk ks) ks.length
def kinksOk' (ks : List Kink) : Bool := allN (kinkOk' ks) ks.length
theorem kinksOk_eq (ks : List Kink) : kinksOk' ks = kinksOk ks := by
  rw [Bool.eq_iff_iff, kinksOk, kinksOk', allN_iff, allN_iff]
  constructor
  · intro h i hi
    have nn : ∀ j, j < ks.length → 0 ≤ (kk ks j).frm := by
      intro j
      induction j with
      | zero => intro hj; have := h 0 hj; simp [kinkOk'] at this; omega
      | succ j ih => intro hj; have := h (j + 1) hj; have := ih (by omega); simp [kinkOk'] at *; omega
    have h1 := h i hi
    have h2 := nn i hi
    simp only [kinkOk', kinkOk, Bool.and_eq_true, decide_eq_true_eq, hardB_iff] at h1 ⊢
    exact ⟨⟨⟨h2, h1.1.2⟩, h1.2⟩, h1.1.1⟩
  · intro h i hi
    have h1 := h i hi
    simp only [kinkOk', kinkOk, Bool.and_eq_true, decide_eq_true_eq, hardB_iff] at h1 ⊢
    exact ⟨⟨h1.2, h1.1.1.2⟩, h1.1.2⟩

/-- All numbers of the kinks are hardnesses, all ranges valid. -/
def KinksVal (ks : List Kink) : Prop := ∀ (i : Nat) (x : Kink), ks[i]? = some x → 0 ≤ x.lo ∧ x.lo ≤ x.hi ∧ x.hi ≤ 1000 ∧ 0 ≤ x.frm ∧ x.frm ≤ 1000
theorem kinksVal_of {ks : List Kink} (h : kinksOk ks = true) : KinksVal ks := by
  intro i x hx
  have h1 := allN_iff.1 h i (getI hx)
  simp only [kinkOk, kk_of (Lib.hid hx), Bool.and_eq_true, hardB_iff, isHardB_iff] at h1
  omega
/-- The kink at i + 1 against the one at i. -/
def stepOk (ks : List Kink) (i : Nat) : Bool :=
  !(decide ((kk ks (i + 1)).lo < (kk ks i).lo ∨ (kk ks (i + 1)).hi < (kk ks i).hi ∨ (kk ks i).hi + 1 < (kk ks (i + 1)).lo))
def stepsOk (ks : List Kink) : Bool := allN (stepOk ks) (ks.length - 1)
/-- CheckWay. -/
def wayErr (ks : List Kink) : Int :=
  if ks.length < 1 ∨ 12 < ks.length then 6 else if kinksOk ks = false then 3 else if stepsOk ks = false then 16 else 0

end Go.Proofs.Ytigpefjeelgfdaa

/-
  Walks of layer 1, first part: ways and their kinks.
-/
namespace Go.Proofs.Ytigpefjeelgfdaa
open Go.RowKit

set_option maxHeartbeats 400000 in
theorem areHard_any (v : Value) (l : List Int) (B : Nat) (w : World) (h : Ints .i64 w B v l) :
    Calls Try.prog 53 #[v] w fun e w' => e = .returned (.bool (l.all hardB)) ∧ w = w' := by
  obtain ⟨A, c, rfl, h1, h2, h3⟩ := h
  go_enter Try.func53, Try.ntmps53
  go_wp2
  go_loop [4, 7] (fun v i => ∃ k : Nat, k ≤ l.length ∧ i = .int .i64 k ∧ Upto hardB l k) (fun _ i => l.length - (intOf i).toNat)
  case atStart => exact ⟨0, by omega, rfl, Upto.zero _ _⟩
  case round =>
    obtain ⟨k, hk, rfl, hall⟩ := hrel
    by_cases hlt : k < l.length
    · obtain ⟨b, off, x, rfl, hb, hx, hc⟩ := intsA h3 hlt
      by_cases g1 : x < 0
      · go_wp2
        go_ret
        exact ⟨ret_bool (Upto.fail hx (hardB_f (.inl g1))).symm, rfl⟩
      by_cases g2 : 1000 < x
      · go_wp2
        go_ret
        exact ⟨ret_bool (Upto.fail hx (hardB_f (.inr g2))).symm, rfl⟩
      go_wp2
      go_round
      case rel => exact ⟨k + 1, by omega, by go_num, hall.succ hx (hardB_t (by omega) (by omega))⟩
      case measure => simp [intOf]; omega
    · go_wp2
      go_ret
      exact ⟨ret_bool (hall.done (by omega)).symm, rfl⟩

set_option maxHeartbeats 400000 in
theorem isHardRange_any (lo hi : Int) (w : World) :
    Calls Try.prog 59 #[.agg #[.int .i64 lo, .int .i64 hi]] w fun e w' => e = .returned (.bool (isHardB lo hi)) ∧ Below w.heap.size w w' := by
  rcases hb : [lo, hi].all hardB
  · have e : isHardB lo hi = false := by unfold isHardB; simp at hb ⊢; intro a b; simp [hb a] at b
    have H := Lib.hid hb; clear hb
    rw [e]
    clear e
    go_enter Try.func59, Try.ntmps59
    go_wp2_with (go_at_call 53; refine (areHard_any _ [lo, hi] _ _ (ints_box (g := w.heap.size + 1) (Box.new' (by simp)) (by simp) (by simp))).mono ?_; rintro e w' ⟨rfl, rfl⟩; rw [H.out])
    go_ret
    exact ⟨rfl, bel⟩
  · have e : isHardB lo hi = decide (lo ≤ hi) := by unfold isHardB; simp at hb ⊢; simp [hb]
    have H := Lib.hid hb; clear hb
    rw [e]
    clear e
    go_enter Try.func59, Try.ntmps59
    go_wp2_with (go_at_call 53; refine (areHard_any _ [lo, hi] _ _ (ints_box (g := w.heap.size + 1) (Box.new' (by simp)) (by simp) (by simp))).mono ?_; rintro e w' ⟨rfl, rfl⟩; rw [H.out])
    go_ret
    exact ⟨rfl, bel⟩

set_option maxHeartbeats 400000 in
theorem refIsHard_any (lo hi : Int) (w : World) :
    Calls Try.prog 47 #[.agg #[.int .i64 lo, .int .i64 hi]] w fun e w' => e = .returned (.bool (isHardB lo hi)) ∧ Below w.heap.size w w' := by
  by_cases h1 : 0 ≤ lo ∧ lo ≤ hi ∧ hi ≤ 1000
  · rw [isHardB_iff.2 h1]
    obtain ⟨a, b, c⟩ := h1
    go_enter Try.func47, Try.ntmps47
    go_wp2
    go_ret
    exact ⟨rfl, bel⟩
  · rw [isHardB_not h1]
    have H := Lib.hid h1; clear h1
    go_enter Try.func47, Try.ntmps47
    go_wp2
    all_goals go_ret
    all_goals exact ⟨ret_bool (by first | rfl | (simp; done) | (simp; have := H.out; omega)), bel⟩

set_option maxHeartbeats 400000 in
theorem refIn_any (n lo hi : Int) (w : World) :
    Calls Try.prog 46 #[.int .i64 n, .agg #[.int .i64 lo, .int .i64 hi]] w fun e w' => e = .returned (.bool (inB n lo hi)) ∧ Below w.heap.size w w' := by
  go_enter Try.func46, Try.ntmps46
  go_wp2
  all_goals go_ret
  all_goals exact ⟨ret_bool (by simp [inB]; try omega), bel⟩

set_option maxHeartbeats 400000 in
theorem contains_any (n lo hi : Int) (w : World) :
    Calls Try.prog 65 #[.agg #[.int .i64 lo, .int .i64 hi], .int .i64 n] w fun e w' => e = .returned (.bool (inB n lo hi)) ∧ Below w.heap.size w w' := by
  go_enter Try.func65, Try.ntmps65
  go_wp2
  all_goals go_ret
  all_goals exact ⟨ret_bool (by simp [inB]; try omega), bel⟩

set_option maxHeartbeats 400000 in
theorem heatAfter_any (A : Option Addr) (c : Nat) (ks : List Kink) (hard : Int) (B : Nat) (w : World) (h : KinksA w B A ks) (hc : ks.length ≤ c) (hm : c ≤ 9223372036854775807) (hB : B ≤ w.heap.size) (h0 : 0 < ks.length) :
    Calls Try.prog 54 #[.agg #[.slice A ks.length c], .int .i64 hard] w fun e w' => e = .returned (.agg #[.int .i64 (aft ks hard).1, .int .i64 (aft ks hard).2]) ∧ Below w.heap.size w w' := by
  obtain ⟨b, off, f0, x0, y0, rfl, hb, hx0, c0, c1, c2⟩ := kinksA h h0
  simp only [Nat.zero_mul, Nat.add_zero] at c0 c1 c2
  have hbw : b < w.heap.size := by omega
  go_enter Try.func54, Try.ntmps54
  go_wp2
  go_loopw [7, 16] (fun u i wr => ∃ (k : Nat) (lo hi : Int), k ≤ ks.length ∧ i = .int .i64 k ∧ Hid (aftTo ks hard k = (lo, hi)) ∧ Below w.heap.size w wr ∧
      Box wr (w.heap.size + 1 + 1) 33 #[.int .i64 lo, .int .i64 hi] ∧ Box wr (w.heap.size + 1) 33 #[.int .i64 0, .int .i64 0])
    (fun _ i _ => ks.length - (intOf i).toNat)
  case atStart =>
    refine ⟨0, x0, y0, by omega, rfl, Lib.hid (by rw [aftTo_zero, kFst_of hx0]), bel, ?_, ?_⟩
    all_goals exact bxt
  case round =>
    obtain ⟨k, lo, hi, hk, rfl, H, hbl, bo, br⟩ := hrel
    obtain ⟨o1, o2, o3, o4⟩ := bo.two
    obtain ⟨r1, r2, r3, r4⟩ := br.two
    have hs1 := bo.lt
    by_cases hlt : k < ks.length
    · obtain ⟨b', off', f, x, y, e, hb', hx, d0, d1, d2⟩ := kinksA (kinks_on h hbl hB) hlt
      obtain ⟨rfl, rfl⟩ : b' = b ∧ off' = off := by simp at e; exact ⟨e.1.symm, e.2.symm⟩
      clear e
      have hbr : b' < wr.heap.size := by omega
      by_cases g : f ≤ hard
      · go_wp2
        go_roundw
        case rel =>
          refine ⟨k + 1, x, y, by omega, by go_num, Lib.hid (aftTo_yes hx g), bel, ?_, ?_⟩
          all_goals exact bxt
        case measure => simp [intOf]; omega
      · go_wp2
        go_roundw
        case rel =>
          refine ⟨k + 1, lo, hi, by omega, by go_num, Lib.hid ((aftTo_no hx g).trans H.out), bel, ?_, ?_⟩
          all_goals exact bxt
        case measure => simp [intOf]; omega
    · have e1 : aft ks hard = (lo, hi) := by rw [← H.out, show k = ks.length from by omega]; rfl
      have E1 := Lib.hid e1
      clear e1
      go_wp2
      refine bodyPost_ret (v := .agg #[.int .i64 lo, .int .i64 hi]) (by simp [results, Try.results54, go_sem, *]) rfl ?_
      rw [E1.out]
      exact ⟨rfl, bel⟩
end Go.Proofs.Ytigpefjeelgfdaa

/-
  Walks of layer 1, second part: which ways are valid.
-/
namespace Go.Proofs.Ytigpefjeelgfdaa
open Go.RowKit

theorem isHard_cases (lo hi : Int) : isHardB lo hi = true ∨ isHardB lo hi = false := by cases isHardB lo hi <;> simp

set_option maxHeartbeats 400000 in
theorem heatKinksInRange_any (A : Option Addr) (c : Nat) (ks : List Kink) (B : Nat) (w : World) (h : KinksA w B A ks) (hc : ks.length ≤ c) (hm : c ≤ 9223372036854775807) (hB : B ≤ w.heap.size) :
    Calls Try.prog 56 #[.slice A ks.length c] w fun e w' => e = .returned (.bool (kinksOk ks)) ∧ Below w.heap.size w w' := by
  go_enter Try.func56, Try.ntmps56
  go_wp2
  go_loopw [3, 4, 7] (fun _ _ i wr => ∃ (k : Nat), k ≤ ks.length ∧ i = .int .i64 k ∧ UptoN (kinkOk ks) k ∧ Below w.heap.size w wr)
    (fun _ _ i _ => ks.length - (intOf i).toNat)
  case atStart =>
    exact ⟨0, by omega, rfl, UptoN.zero _, bel⟩
  case round =>
    obtain ⟨k, hk, rfl, hup, hbl⟩ := hrel
    by_cases hlt : k < ks.length
    · obtain ⟨b, off, f, x, y, rfl, hb, hx, d0, d1, d2⟩ := kinksA (kinks_on h hbl hB) hlt
      have hs := hbl.size
      have hbr : b < wr.heap.size := by omega
      have hkk := Lib.hid (kk_of hx)
      by_cases g1 : hardB f = true
      · have G1 : Hid ([f].all hardB = true) := by simp [Hid, g1]
        have G1' := Lib.hid g1
        clear g1
        rcases isHard_cases x y with g2 | g2
        · have G2 := Lib.hid g2
          clear g2
          by_cases hk0 : k = 0
          · subst hk0
            simp only [Nat.zero_mul, Nat.add_zero] at d0 d1 d2
            by_cases g3 : f = 0
            · have ok : kinkOk ks 0 = true := by simp [kinkOk, hkk.out, G2.out, g3, hardB]
              have Ok := Lib.hid ok
              have g3' : (f == 0) = true := by simp [g3]
              have g3'' : (f != 0) = false := by simp [g3]
              clear ok g3
              go_wp2_with (first
                | (go_at_call 53; refine (areHard_any _ [f] _ _ (ints_box (g := wr.heap.size + 1) (Box.new' (by (focus (first | omega | (simp only [World.size_alloc, World.size_setCell, World.size_drew, World.heap_drewN]; first | done | omega))))) (by simp) (by simp))).mono ?_; rintro e w' ⟨rfl, rfl⟩; rw [G1.out])
                | (go_at_call 59; refine (isHardRange_any _ _ _).mono ?_; rintro e w1 ⟨rfl, hb1⟩; rw [G2.out]; obtain ⟨hr1, hr2⟩ := below_reads hb1; obtain ⟨hr3, hr4⟩ := below_reads (hb1.mono (B' := wr.heap.size) (by (focus (first | omega | (simp only [World.size_alloc, World.size_setCell, World.size_drew, World.heap_drewN]; first | done | omega)))))))
              go_quiet (fail)
              go_wp2
              go_roundw
              case rel => exact ⟨1, by omega, by go_num, hup.succ Ok.out, bel⟩
              case measure => simp [intOf]; omega
            · have g3' : (f == 0) = false := by simp [g3]
              have g3'' : (f != 0) = true := by simp [g3]
              have bad : kinkOk ks 0 = false := by simp [kinkOk, hkk.out, g3]
              have Bad := Lib.hid bad
              clear bad
              go_wp2_with (first
                | (go_at_call 53; refine (areHard_any _ [f] _ _ (ints_box (g := wr.heap.size + 1) (Box.new' (by (focus (first | omega | (simp only [World.size_alloc, World.size_setCell, World.size_drew, World.heap_drewN]; first | done | omega))))) (by simp) (by simp))).mono ?_; rintro e w' ⟨rfl, rfl⟩; rw [G1.out])
                | (go_at_call 59; refine (isHardRange_any _ _ _).mono ?_; rintro e w1 ⟨rfl, hb1⟩; rw [G2.out]; obtain ⟨hr1, hr2⟩ := below_reads hb1; obtain ⟨hr3, hr4⟩ := below_reads (hb1.mono (B' := wr.heap.size) (by (focus (first | omega | (simp only [World.size_alloc, World.size_setCell, World.size_drew, World.heap_drewN]; first | done | omega)))))))
              go_quiet (fail)
              go_wp2
              go_ret
              exact ⟨ret_bool (UptoN.fail hlt Bad.out).symm, bel⟩
          · obtain ⟨j, rfl⟩ : ∃ j, k = j + 1 := ⟨k - 1, by omega⟩
            clear hk0
            obtain ⟨b', off', p, x', y', e, hb', hx', c0, c1, c2⟩ := kinksA (kinks_on h hbl hB) (i := j) (by omega)
            obtain ⟨rfl, rfl⟩ : b' = b ∧ off' = off := by simp at e; exact ⟨e.1.symm, e.2.symm⟩
            clear e
            have hkk' := Lib.hid (kk_of hx')
            have z1 : ((j : Int) + 1 == 0) = false := by simp; omega
            have z2 : decide ((0 : Int) < (j : Int) + 1) = true := by simp; try omega
            have z3 : IntKind.i64.wrap (j : Int) = (j : Int) := IntWalk.i64_in _ (by omega)
            have z4 : (0 : Int) ≤ (j : Int) := by omega
            have z5 : (j : Int) < (ks.length : Int) := by omega
            by_cases g3 : f ≤ p
            · have bad : kinkOk ks (j + 1) = false := by simp [kinkOk, hkk.out, hkk'.out, g3]
              have Bad := Lib.hid bad
              clear bad
              go_wp2_with (first
                | (go_at_call 53; refine (areHard_any _ [f] _ _ (ints_box (g := wr.heap.size + 1) (Box.new' (by (focus (first | omega | (simp only [World.size_alloc, World.size_setCell, World.size_drew, World.heap_drewN]; first | done | omega))))) (by simp) (by simp))).mono ?_; rintro e w' ⟨rfl, rfl⟩; rw [G1.out])
                | (go_at_call 59; refine (isHardRange_any _ _ _).mono ?_; rintro e w1 ⟨rfl, hb1⟩; rw [G2.out]; obtain ⟨hr1, hr2⟩ := below_reads hb1; obtain ⟨hr3, hr4⟩ := below_reads (hb1.mono (B' := wr.heap.size) (by (focus (first | omega | (simp only [World.size_alloc, World.size_setCell, World.size_drew, World.heap_drewN]; first | done | omega)))))))
              go_quiet (fail)
              go_wp2
              go_ret
              exact ⟨ret_bool (UptoN.fail hlt Bad.out).symm, bel⟩
            · have ok : kinkOk ks (j + 1) = true := by simp [kinkOk, hkk.out, hkk'.out, G2.out, G1'.out]; omega
              have g3' : decide (f ≤ p) = false := by simpa using g3
              have Ok := Lib.hid ok
              clear ok
              go_wp2_with (first
                | (go_at_call 53; refine (areHard_any _ [f] _ _ (ints_box (g := wr.heap.size + 1) (Box.new' (by (focus (first | omega | (simp only [World.size_alloc, World.size_setCell, World.size_drew, World.heap_drewN]; first | done | omega))))) (by simp) (by simp))).mono ?_; rintro e w' ⟨rfl, rfl⟩; rw [G1.out])
                | (go_at_call 59; refine (isHardRange_any _ _ _).mono ?_; rintro e w1 ⟨rfl, hb1⟩; rw [G2.out]; obtain ⟨hr1, hr2⟩ := below_reads hb1; obtain ⟨hr3, hr4⟩ := below_reads (hb1.mono (B' := wr.heap.size) (by (focus (first | omega | (simp only [World.size_alloc, World.size_setCell, World.size_drew, World.heap_drewN]; first | done | omega)))))))
              go_quiet (fail)
              go_wp2
              go_roundw
              case rel => exact ⟨j + 1 + 1, by omega, by go_num, hup.succ Ok.out, bel⟩
              case measure => simp [intOf]; omega
        · have G2 := Lib.hid g2
          clear g2
          have bad : kinkOk ks k = false := by simp [kinkOk, hkk.out, G2.out]
          have Bad := Lib.hid bad
          clear bad
          go_wp2_with (first
            | (go_at_call 53; refine (areHard_any _ [f] _ _ (ints_box (g := wr.heap.size + 1) (Box.new' (by (focus (first | omega | (simp only [World.size_alloc, World.size_setCell, World.size_drew, World.heap_drewN]; first | done | omega))))) (by simp) (by simp))).mono ?_; rintro e w' ⟨rfl, rfl⟩; rw [G1.out])
            | (go_at_call 59; refine (isHardRange_any _ _ _).mono ?_; rintro e w1 ⟨rfl, hb1⟩; rw [G2.out]))
          go_ret
          exact ⟨ret_bool (UptoN.fail hlt Bad.out).symm, bel⟩
      · have g1 : hardB f = false := by simpa using g1
        have G1 : Hid ([f].all hardB = false) := by simp [Hid, g1]
        have bad : kinkOk ks k = false := by simp [kinkOk, hkk.out, g1]
        have Bad := Lib.hid bad
        clear bad g1
        go_wp2_with (go_at_call 53; refine (areHard_any _ [f] _ _ (ints_box (g := wr.heap.size + 1) (Box.new' (by (focus (first | omega | (simp only [World.size_alloc, World.size_setCell, World.size_drew, World.heap_drewN]; first | done | omega))))) (by simp) (by simp))).mono ?_; rintro e w' ⟨rfl, rfl⟩; rw [G1.out])
        go_ret
        exact ⟨ret_bool (UptoN.fail hlt Bad.out).symm, bel⟩
    · go_wp2
      go_ret
      exact ⟨ret_bool (UptoN.done hup (by omega)).symm, bel⟩
end Go.Proofs.Ytigpefjeelgfdaa

/-
  Walks of layer 1, third part: kinks in order.
-/
namespace Go.Proofs.Ytigpefjeelgfdaa
open Go.RowKit

set_option maxHeartbeats 400000 in
theorem heatKinksInOrder_any (A : Option Addr) (c : Nat) (ks : List Kink) (B : Nat) (w : World) (h : KinksA w B A ks) (hc : ks.length ≤ c) (hm : c ≤ 9223372036854775807) (hB : B ≤ w.heap.size)
    (hv : KinksVal ks) :
    Calls Try.prog 57 #[.slice A ks.length c] w fun e w' => e = .returned (.bool (stepsOk ks)) ∧ Below w.heap.size w w' := by
  go_enter Try.func57, Try.ntmps57
  go_wp2
  go_loopw [3, 4, 5] (fun i _ _ wr => ∃ (j : Nat), j ≤ ks.length ∧ i = .int .i64 (j + 1) ∧ UptoN (stepOk ks) j ∧ Below w.heap.size w wr)
    (fun i _ _ _ => ks.length + 1 - (intOf i).toNat)
  case atStart =>
    exact ⟨0, by omega, rfl, UptoN.zero _, bel⟩
  case round =>
    obtain ⟨j, hk, rfl, hup, hbl⟩ := hrel
    by_cases hlt : j + 1 < ks.length
    · obtain ⟨b, off, f, x, y, rfl, hb, hx, d0, d1, d2⟩ := kinksA (kinks_on h hbl hB) hlt
      obtain ⟨b', off', p, x', y', e, hb', hx', c0, c1, c2⟩ := kinksA (kinks_on h hbl hB) (i := j) (by omega)
      obtain ⟨rfl, rfl⟩ : b' = b ∧ off' = off := by simp at e; exact ⟨e.1.symm, e.2.symm⟩
      clear e
      have hkk := Lib.hid (kk_of hx)
      have hkk' := Lib.hid (kk_of hx')
      have hs := hbl.size
      have hbr : b' < wr.heap.size := by omega
      obtain ⟨v1, v2, v3, _⟩ := hv _ _ hx.out
      obtain ⟨u1, u2, u3, _⟩ := hv _ _ hx'.out
      simp only at v1 v2 v3 u1 u2 u3
      have z3 : IntKind.i64.wrap (j : Int) = (j : Int) := IntWalk.i64_in _ (by omega)
      have z4 : (0 : Int) ≤ (j : Int) := by omega
      have z5 : (j : Int) < (ks.length : Int) := by omega
      have z6 : (j : Int) + 1 < (ks.length : Int) := by omega
      clear hx hx'
      rcases Bool.eq_false_or_eq_true (stepOk ks j) with q | q
      · have q' : ¬ (x < x' ∨ y < y' ∨ y' + 1 < x) := by simpa [stepOk, hkk.out, hkk'.out] using q
        obtain ⟨q1, q2, q3⟩ : ¬ x < x' ∧ ¬ y < y' ∧ ¬ y' + 1 < x := by omega
        have Q := Lib.hid q
        clear q q'
        go_wp2
        go_region
        all_goals
          go_wp2
          go_roundw
          case rel => exact ⟨j + 1, by omega, by go_num, hup.succ Q.out, bel⟩
          case measure => simp [intOf]; omega
      · have q' : x < x' ∨ y < y' ∨ y' + 1 < x := by simp [stepOk, hkk.out, hkk'.out] at q; omega
        have Q := Lib.hid q
        clear q
        have R : Hid (stepsOk ks = false) := UptoN.fail (by omega) Q.out
        by_cases q1 : x < x'
        · clear q'
          go_wp2
          go_region
          all_goals
            go_wp2
            go_ret
            exact ⟨ret_bool R.out.symm, bel⟩
        by_cases q2 : y < y'
        · clear q'
          go_wp2
          go_region
          all_goals
            go_wp2
            go_ret
            exact ⟨ret_bool R.out.symm, bel⟩
        have q3 : y' + 1 < x := by omega
        clear q'
        go_wp2
        go_region
        all_goals
          go_wp2
          go_ret
          exact ⟨ret_bool R.out.symm, bel⟩
    · have R : Hid (stepsOk ks = true) := UptoN.done hup (by omega)
      go_wp2
      go_ret
      exact ⟨ret_bool R.out.symm, bel⟩
end Go.Proofs.Ytigpefjeelgfdaa

/-
  Walks of layer 1, fourth part: CheckWay and After.
-/
namespace Go.Proofs.Ytigpefjeelgfdaa
open Go.RowKit

set_option maxHeartbeats 400000 in
theorem heatCheckWay_any (A : Option Addr) (c : Nat) (ks : List Kink) (B : Nat) (w : World) (h : KinksA w B A ks) (hc : ks.length ≤ c) (hm : c ≤ 9223372036854775807) (hB : B ≤ w.heap.size) :
    Calls Try.prog 19 #[.agg #[.slice A ks.length c]] w fun e w' => e = .returned (.int .i64 (wayErr ks)) ∧ Below w.heap.size w w' := by
  by_cases g1 : ks.length < 1 ∨ 12 < ks.length
  · have E : Hid (wayErr ks = 6) := by simp only [Hid, wayErr]; rw [if_pos g1]
    by_cases g2 : ks.length < 1
    · clear g1
      go_enter Try.func19, Try.ntmps19
      go_wp2_with fail
      go_ret
      exact ⟨ret_int E.out.symm, bel⟩
    · have g3 : 12 < ks.length := by omega
      clear g1
      go_enter Try.func19, Try.ntmps19
      go_wp2_with fail
      go_ret
      exact ⟨ret_int E.out.symm, bel⟩
  have n1 : ¬ ks.length < 1 := by omega
  have n2 : ¬ 12 < ks.length := by omega
  cases g2 : kinksOk ks
  · have E : Hid (wayErr ks = 3) := by simp only [Hid, wayErr]; rw [if_neg g1, if_pos g2]
    have G2 := Lib.hid g2
    clear g2 g1
    go_enter Try.func19, Try.ntmps19
    go_wp2_with (go_at_call 56; refine (heatKinksInRange_any _ _ ks B _ (kinks_on h (n := w.heap.size) bel hB) hc hm (by (focus (first | omega | (simp only [World.size_alloc, World.size_setCell, World.size_drew, World.heap_drewN]; first | done | omega))))).mono ?_; rintro e w1 ⟨rfl, hb1⟩; rw [G2.out])
    go_ret
    exact ⟨ret_int E.out.symm, bel⟩
  have V := kinksVal_of g2
  have H2 := Lib.hid g2
  cases g3 : stepsOk ks
  · have E : Hid (wayErr ks = 16) := by simp only [Hid, wayErr]; rw [if_neg g1, if_neg (by simp [g2]), if_pos g3]
    have H3 := Lib.hid g3
    clear g1 g2 g3
    go_enter Try.func19, Try.ntmps19
    go_wp2_with (first
      | (go_at_call 56; refine (heatKinksInRange_any _ _ ks B _ (kinks_on h (n := w.heap.size) bel hB) hc hm (by (focus (first | omega | (simp only [World.size_alloc, World.size_setCell, World.size_drew, World.heap_drewN]; first | done | omega))))).mono ?_; rintro e w1 ⟨rfl, hb1⟩; rw [H2.out]; obtain ⟨_hr1, _hr2⟩ := below_reads hb1; have _hz := Below.size hb1; (try simp only [World.size_alloc, World.size_setCell, World.size_drew, World.heap_drewN] at _hz))
      | (go_at_call 57; refine (heatKinksInOrder_any _ _ ks B _ (kinks_on h (n := w.heap.size) bel hB) hc hm (by (focus (first | omega | (simp only [World.size_alloc, World.size_setCell, World.size_drew, World.heap_drewN]; first | done | omega)))) V).mono ?_; rintro e w2 ⟨rfl, hb2⟩; rw [H3.out]))
    go_ret
    exact ⟨ret_int E.out.symm, bel⟩
  · have E : Hid (wayErr ks = 0) := by simp only [Hid, wayErr]; rw [if_neg g1, if_neg (by simp [g2]), if_neg (by simp [g3])]
    have H3 := Lib.hid g3
    clear g1 g2 g3
    go_enter Try.func19, Try.ntmps19
    go_wp2_with (first
      | (go_at_call 56; refine (heatKinksInRange_any _ _ ks B _ (kinks_on h (n := w.heap.size) bel hB) hc hm (by (focus (first | omega | (simp only [World.size_alloc, World.size_setCell, World.size_drew, World.heap_drewN]; first | done | omega))))).mono ?_; rintro e w1 ⟨rfl, hb1⟩; rw [H2.out]; obtain ⟨_hr1, _hr2⟩ := below_reads hb1; have _hz := Below.size hb1; (try simp only [World.size_alloc, World.size_setCell, World.size_drew, World.heap_drewN] at _hz))
      | (go_at_call 57; refine (heatKinksInOrder_any _ _ ks B _ (kinks_on h (n := w.heap.size) bel hB) hc hm (by (focus (first | omega | (simp only [World.size_alloc, World.size_setCell, World.size_drew, World.heap_drewN]; first | done | omega)))) V).mono ?_; rintro e w2 ⟨rfl, hb2⟩; rw [H3.out]))
    go_ret
    exact ⟨ret_int E.out.symm, bel⟩
end Go.Proofs.Ytigpefjeelgfdaa

/-
  Walks of layer 1, fifth part: After; the reference's ways.
-/
namespace Go.Proofs.Ytigpefjeelgfdaa
open Go.RowKit

/-- What After hands back: a range and an error. -/
def aftV (ks : List Kink) (hard : Int) : Value :=
  if wayErr ks = 0 then (if hardB hard = true then .tuple #[.agg #[.int .i64 (aft ks hard).1, .int .i64 (aft ks hard).2], .int .i64 0] else .tuple #[.agg #[.int .i64 0, .int .i64 0], .int .i64 2])
  else .tuple #[.agg #[.int .i64 0, .int .i64 0], .int .i64 (wayErr ks)]
theorem pos_of_wayErr {ks : List Kink} (h : wayErr ks = 0) : 0 < ks.length := by
  unfold wayErr at h
  split at h
  · omega
  · omega

set_option maxHeartbeats 400000 in
theorem heatAfterX_any (A : Option Addr) (c : Nat) (ks : List Kink) (hard : Int) (B : Nat) (w : World) (h : KinksA w B A ks) (hc : ks.length ≤ c) (hm : c ≤ 9223372036854775807) (hB : B ≤ w.heap.size) :
    Calls Try.prog 17 #[.agg #[.slice A ks.length c], .int .i64 hard] w fun e w' => e = .returned (aftV ks hard) ∧ Below w.heap.size w w' := by
  by_cases g1 : wayErr ks = 0
  · have n0 := pos_of_wayErr g1
    cases g2 : hardB hard
    · have E : Hid (aftV ks hard = .tuple #[.agg #[.int .i64 0, .int .i64 0], .int .i64 2]) := by simp [Hid, aftV, g1, g2]
      have H1 := Lib.hid g1
      have H2 : Hid ([hard].all hardB = false) := by simp [Hid, g2]
      clear g1 g2
      go_enter Try.func17, Try.ntmps17
      go_wp2_with (first
        | (go_at_call 19; refine (heatCheckWay_any _ _ ks B _ (kinks_on h (n := w.heap.size) bel hB) hc hm (by (focus (first | omega | (simp only [World.size_alloc, World.size_setCell, World.size_drew, World.heap_drewN]; first | done | omega))))).mono ?_; rintro e w1 ⟨rfl, hb1⟩; rw [H1.out]; obtain ⟨_hr1, _hr2⟩ := below_reads hb1; have _hz := Below.size hb1; (try simp only [World.size_alloc, World.size_setCell, World.size_drew, World.heap_drewN] at _hz); obtain ⟨_hr3, _hr4⟩ := below_reads (show Below w.heap.size w w1 from bel); have _q0 : w.heap.size < w1.heap.size := (by omega); have _q1 : w.heap.size + 1 < w1.heap.size := (by omega))
        | (go_at_call 53; refine (areHard_any _ [hard] _ _ (ints_box (g := w1.heap.size) (Box.new' (by (focus (first | omega | (simp only [World.size_alloc, World.size_setCell, World.size_drew, World.heap_drewN]; first | done | omega))))) (by simp) (by simp))).mono ?_; rintro e w' ⟨rfl, rfl⟩; rw [H2.out]))
      refine bodyPost_ret (v := .tuple #[.agg #[.int .i64 0, .int .i64 0], .int .i64 2]) (by simp [results, Try.results17, go_sem, *]) rfl ?_
      rw [E.out]
      exact ⟨rfl, bel⟩
    · have E : Hid (aftV ks hard = .tuple #[.agg #[.int .i64 (aft ks hard).1, .int .i64 (aft ks hard).2], .int .i64 0]) := by simp [Hid, aftV, g1, g2]
      have H1 := Lib.hid g1
      have H2 : Hid ([hard].all hardB = true) := by simp [Hid, g2]
      clear g1 g2
      go_enter Try.func17, Try.ntmps17
      go_wp2_with (first
        | (go_at_call 19; refine (heatCheckWay_any _ _ ks B _ (kinks_on h (n := w.heap.size) bel hB) hc hm (by (focus (first | omega | (simp only [World.size_alloc, World.size_setCell, World.size_drew, World.heap_drewN]; first | done | omega))))).mono ?_; rintro e w1 ⟨rfl, hb1⟩; rw [H1.out]; obtain ⟨_hr1, _hr2⟩ := below_reads hb1; have _hz := Below.size hb1; (try simp only [World.size_alloc, World.size_setCell, World.size_drew, World.heap_drewN] at _hz); obtain ⟨_hr3, _hr4⟩ := below_reads (show Below w.heap.size w w1 from bel); have _q0 : w.heap.size < w1.heap.size := (by omega); have _q1 : w.heap.size + 1 < w1.heap.size := (by omega))
        | (go_at_call 53; refine (areHard_any _ [hard] _ _ (ints_box (g := w1.heap.size) (Box.new' (by (focus (first | omega | (simp only [World.size_alloc, World.size_setCell, World.size_drew, World.heap_drewN]; first | done | omega))))) (by simp) (by simp))).mono ?_; rintro e w' ⟨rfl, rfl⟩; rw [H2.out])
        | (go_at_call 54; refine (heatAfter_any _ _ ks hard B _ (kinks_on h (n := w.heap.size) bel hB) hc hm (by (focus (first | omega | (simp only [World.size_alloc, World.size_setCell, World.size_drew, World.heap_drewN]; first | done | omega)))) n0).mono ?_; rintro e w2 ⟨rfl, hb2⟩; obtain ⟨_hr1, _hr2⟩ := below_reads hb2; have _hz := Below.size hb2; (try simp only [World.size_alloc, World.size_setCell, World.size_drew, World.heap_drewN] at _hz); obtain ⟨_hr3, _hr4⟩ := below_reads (show Below w.heap.size w w2 from bel); have _q0 : w.heap.size < w2.heap.size := (by omega); have _q1 : w.heap.size + 1 < w2.heap.size := (by omega)))
      refine bodyPost_ret (v := .tuple #[.agg #[.int .i64 (aft ks hard).1, .int .i64 (aft ks hard).2], .int .i64 0]) (by simp [results, Try.results17, go_sem, *]) rfl ?_
      rw [E.out]
      exact ⟨rfl, bel⟩
  · have E : Hid (aftV ks hard = .tuple #[.agg #[.int .i64 0, .int .i64 0], .int .i64 (wayErr ks)]) := by simp [Hid, aftV, g1]
    have n1 : (wayErr ks != 0) = true := by simp [g1]
    clear g1
    go_enter Try.func17, Try.ntmps17
    go_wp2_with (go_at_call 19; refine (heatCheckWay_any _ _ ks B _ (kinks_on h (n := w.heap.size) bel hB) hc hm (by (focus (first | omega | (simp only [World.size_alloc, World.size_setCell, World.size_drew, World.heap_drewN]; first | done | omega))))).mono ?_; rintro e w1 ⟨rfl, hb1⟩; obtain ⟨_hr1, _hr2⟩ := below_reads hb1; have _hz := Below.size hb1; (try simp only [World.size_alloc, World.size_setCell, World.size_drew, World.heap_drewN] at _hz); obtain ⟨_hr3, _hr4⟩ := below_reads (show Below w.heap.size w w1 from bel); have _q0 : w.heap.size < w1.heap.size := (by omega); have _q1 : w.heap.size + 1 < w1.heap.size := (by omega))
    refine bodyPost_ret (v := .tuple #[.agg #[.int .i64 0, .int .i64 0], .int .i64 (wayErr ks)]) (by simp [results, Try.results17, go_sem, *]) rfl ?_
    rw [E.out]
    exact ⟨rfl, bel⟩

set_option maxHeartbeats 400000 in
theorem refAfter_any (A : Option Addr) (c : Nat) (ks : List Kink) (hard : Int) (B : Nat) (w : World) (h : KinksA w B A ks) (hc : ks.length ≤ c) (hm : c ≤ 9223372036854775807) (hB : B ≤ w.heap.size) (h0 : 0 < ks.length) :
    Calls Try.prog 55 #[.agg #[.slice A ks.length c], .int .i64 hard] w fun e w' => e = .returned (.agg #[.int .i64 (aft ks hard).1, .int .i64 (aft ks hard).2]) ∧ Below w.heap.size w w' := by
  obtain ⟨b, off, f0, x0, y0, rfl, hb, hx0, c0, c1, c2⟩ := kinksA h h0
  simp only [Nat.zero_mul, Nat.add_zero] at c0 c1 c2
  have hbw : b < w.heap.size := by omega
  go_enter Try.func55, Try.ntmps55
  go_wp2
  go_loopw [6] (fun i wr => ∃ (k : Nat) (lo hi : Int), k ≤ ks.length ∧ i = .int .i64 k ∧ Hid (aftTo ks hard k = (lo, hi)) ∧ Below w.heap.size w wr ∧
      Box wr (w.heap.size + 1 + 1) 33 #[.int .i64 lo, .int .i64 hi] ∧ Box wr (w.heap.size + 1) 33 #[.int .i64 0, .int .i64 0] ∧ Box wr w.heap.size 28 #[.slice (some ⟨b, off, none⟩) ks.length c])
    (fun i _ => ks.length - (intOf i).toNat)
  case atStart =>
    refine ⟨0, x0, y0, by omega, rfl, Lib.hid (by rw [aftTo_zero, kFst_of hx0]), bel, ?_, ?_, ?_⟩
    all_goals exact bxt
  case round =>
    obtain ⟨k, lo, hi, hk, rfl, H, hbl, bo, br, bw⟩ := hrel
    obtain ⟨o1, o2, o3, o4⟩ := bo.two
    obtain ⟨r1, r2, r3, r4⟩ := br.two
    obtain ⟨w1, w2⟩ := bw.one
    have hs1 := bo.lt
    by_cases hlt : k < ks.length
    · obtain ⟨b', off', f, x, y, e, hb', hx, d0, d1, d2⟩ := kinksA (kinks_on h hbl hB) hlt
      obtain ⟨rfl, rfl⟩ : b' = b ∧ off' = off := by simp at e; exact ⟨e.1.symm, e.2.symm⟩
      clear e
      have hbr : b' < wr.heap.size := by omega
      by_cases g : f ≤ hard
      · go_wp2
        go_roundw
        case rel =>
          refine ⟨k + 1, x, y, by omega, by go_num, Lib.hid (aftTo_yes hx g), bel, ?_, ?_, ?_⟩
          all_goals exact bxt
        case measure => simp [intOf]; omega
      · go_wp2
        go_roundw
        case rel =>
          refine ⟨k + 1, lo, hi, by omega, by go_num, Lib.hid ((aftTo_no hx g).trans H.out), bel, ?_, ?_, ?_⟩
          all_goals exact bxt
        case measure => simp [intOf]; omega
    · have e1 : aft ks hard = (lo, hi) := by rw [← H.out, show k = ks.length from by omega]; rfl
      have E1 := Lib.hid e1
      clear e1
      go_wp2
      refine bodyPost_ret (v := .agg #[.int .i64 lo, .int .i64 hi]) (by simp [results, Try.results55, go_sem, *]) rfl ?_
      rw [E1.out]
      exact ⟨rfl, bel⟩
end Go.Proofs.Ytigpefjeelgfdaa
