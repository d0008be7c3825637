/-
  A part of the texts that the claim builds on: see the last one.
-/
import Derived.Test.YtjjoiihgpkhndaaDm1
import Derived.Laws.StructEq
import Derived.RangeFuncIn
import Derived.RangeFuncLeaves
import Derived.RangeFuncRecord
import Derived.OrdersIn
import Derived.TacticsIn
import Derived.Sort.LoopGhostIn
set_option linter.unusedSimpArgs false
set_option linter.unusedVariables false
/-
  The engine, part L: calls; one operation in a state; a list of operations in the order of the text. No program is named here.
-/
namespace Go.Proofs.Ytjjoiihgpkhndaa.Eng
open Go.RowKit
variable {P : Program} {T : Tab} {W0 : Fix} {R0 : Nat → Prop} {ns : Nat} {D : Nat → Prop} {s : St} {E : Env} {a : Act} {w : World}

/-- A call of this function is a call. -/
def Callable (P : Program) (f : FuncId) : Prop := ∀ (args : Array Value) (w : World), (callFunc f args).run P w = .ok (.enter f args) w
theorem callable_of {P : Program} {f : FuncId} {fn : Func} (h : P.funcs[f]? = some fn) (hn : (fn.name == "runtime.NumGoroutine") = false) (hb : fn.body.isNone = false) : Callable P f := fun args w => by
  unfold callFunc
  simp only [Sem.run_bind, run_program, Result.andThen_ok, h, hn, hb, Bool.false_eq_true, if_false]
  rfl
/-- Called with values that say these data, it returns one that says that, in memory that nobody writes any more, and leaves all else as it is. -/
structure ACall (P : Program) (f : FuncId) (args : List Dat) (r : Dat) : Prop where
  callable : Callable P f
  calls : ∀ (ro : Nat → Prop) (w : World) (vs : Array Value), (∀ b, ro b → b < w.heap.size) → vs.size = args.length → (∀ (i : Nat) d v, args[i]? = some d → vs[i]? = some v → RepD ro w d v) →
    Calls P f vs w fun e w' => ∃ v, e = .returned v ∧ Below w.heap.size w w' ∧ RepD (fun b => ro b ∨ (w.heap.size ≤ b ∧ b < w'.heap.size)) w' r v

def escAll (m : Nat → Option Blk) : List SV → Option (List Dat × List Nat)
  | [] => some ([], [])
  | x :: l => match esc m x, escAll m l with
    | some (d, i), some (ds, is) => some (d :: ds, i ++ is)
    | _, _ => none
theorem escAll_ids {m : Nat → Option Blk} : ∀ {l : List SV} {ds : List Dat} {is : List Nat}, escAll m l = some (ds, is) → ∀ i ∈ is, ∃ t z rows f, m i = some (.row t z rows f)
  | [], ds, is, h => by cases h; simp
  | x :: l, ds, is, h => by
    simp only [escAll] at h
    split at h
    · rename_i h1 h2
      cases h
      intro i hi
      rcases List.mem_append.1 hi with hi | hi
      · exact esc_ids h1 i hi
      · exact escAll_ids h2 i hi
    · cases h
theorem escAll_rep {E : Env} {w : World} {m m0 : Nat → Option Blk} (hm : ∀ i t z rows f, m0 i = some (.row t z rows f) → ∃ f', m i = some (.row t z rows f'))
    (hl : ∀ i b, m i = some b → Holds E w (E.home i) b) : ∀ {xs : List SV} {ds : List Dat} {is : List Nat}, escAll m0 xs = some (ds, is) → (∀ i ∈ is, E.ro (E.home i).blk) →
    ds.length = xs.length ∧ ∀ (j : Nat) x d v, xs[j]? = some x → ds[j]? = some d → Rep E w x v → RepD E.ro w d v
  | [], ds, is, h, _ => by cases h; exact ⟨rfl, by simp⟩
  | x :: l, ds, is, h, hr => by
    simp only [escAll] at h
    split at h
    · rename_i d i ds' is' h1 h2
      cases h
      obtain ⟨k1, k2⟩ := escAll_rep hm hl h2 fun i hi => hr i (List.mem_append_right _ hi)
      refine ⟨by simp [k1], fun j y e v hy he hv => ?_⟩
      match j with
      | 0 =>
        simp only [List.getElem?_cons_zero, Option.some.injEq] at hy he
        subst hy; subst he
        exact esc_rep h1 hm hl (fun i hi => hr i (List.mem_append_left _ hi)) hv
      | j + 1 =>
        simp only [List.getElem?_cons_succ] at hy he
        exact k2 j y e v hy he hv
    · cases h
/-- Which function an operation calls, if it does. -/
def fnOf : Op → Option (FuncId × List Operand)
  | .call c => match c.callee with
    | .value (.func f) => some (f, c.args.toList)
    | _ => none
  | _ => none
/-- What holds of memory during a call. -/
structure MS (W0 : Fix) (R0 : Nat → Prop) (D : Nat → Prop) (m : Nat → Option Blk) (E : Env) (w : World) : Prop where
  below : Kept W0.U W0.w w
  ro0 : ∀ b, R0 b → E.ro b
  ro1 : ∀ b, E.ro b → R0 b ∨ ¬ W0.U b
  rlt : ∀ b, E.ro b → b < w.heap.size
  dom : ∀ i, E.dom i → D i
  live : ∀ i b, m i = some b → E.dom i
  mem : ∀ i b, m i = some b → Holds E w (E.home i) b
  base : ∀ i b, m i = some b → ¬ W0.U (E.home i).blk
  frz : ∀ i b, m i = some b → (b.frz = true ↔ E.ro (E.home i).blk)
  inj : ∀ i j b c, m i = some b → m j = some c → i ≠ j → (E.home i).blk ≠ (E.home j).blk
theorem Sim.ms (h : Sim W0 R0 ns D s E a w) : MS W0 R0 D s.mem E w := ⟨h.below, h.ro0, h.ro1, h.rlt, h.dom, h.live, h.mem, h.base, h.frz, h.inj⟩
/-- A call that only reads memory, and returns data, whatever names there are. -/
structure RCall (P : Program) (f : FuncId) (svs : List SV) (d : Dat) (m : Nat → Option Blk) : Prop where
  callable : Callable P f
  calls : ∀ (W0 : Fix) (R0 D : Nat → Prop) (N : Nat) (E : Env) (w : World) (vs : Array Value), (∀ i, D i → i < N) → MS W0 R0 D m E w → vs.size = svs.length → (∀ (i : Nat) x v, svs[i]? = some x → vs[i]? = some v → Rep E w x v) →
    Calls P f vs w fun e w' => ∃ v E', e = .returned v ∧ MS W0 R0 D m E' w' ∧ E.le E' ∧ (∀ b, E.ro b → w'.heap[b]? = w.heap[b]?) ∧ Rep E' w' (.d d) v
/-- More may be told of memory. -/
theorem RCall.more {f : FuncId} {svs : List SV} {d : Dat} {m m' : Nat → Option Blk} (h : RCall P f svs d m) (hm : ∀ i b, m i = some b → m' i = some b) : RCall P f svs d m' :=
  ⟨h.callable, fun W0 R0 D N E w vs hD M h1 h2 => by
    let W1 : Fix := { w := w, U := fun b => b < w.heap.size ∧ ∀ i c, m i = some c → (E.home i).blk ≠ b, lt := fun _ h => h.1, g := fun _ => undef }
    have hU : ∀ b, W0.U b → W1.U b := fun b hb => ⟨Nat.lt_of_lt_of_le (W0.lt b hb) M.below.size, fun i c hi e => M.base i c (hm i c hi) (e ▸ hb)⟩
    have hUn : ∀ i b, m' i = some b → m i = none → W1.U (E.home i).blk := fun i b hi hn => ⟨(M.mem i b hi).lt, fun j c hj => M.inj j i c b (hm j c hj) hi fun e => by rw [e, hn] at hj; cases hj⟩
    have M1 : MS W1 E.ro D m E w := ⟨Kept.refl _ _, fun _ h => h, fun _ h => .inl h, M.rlt, M.dom, fun i b hi => M.live i b (hm i b hi), fun i b hi => M.mem i b (hm i b hi), fun i b hi h => h.2 i b hi rfl, fun i b hi => M.frz i b (hm i b hi), fun i j b c hi hj hn => M.inj i j b c (hm i b hi) (hm j c hj) hn⟩
    refine (h.calls W1 E.ro D N E w vs hD M1 h1 h2).mono ?_
    rintro e w' ⟨v, E', rfl, M2, hE, hw, hv⟩
    have hro : ∀ b, E'.ro b → E.ro b ∨ ¬ W1.U b := M2.ro1
    refine ⟨v, E', rfl, ⟨M.below.trans (M2.below.mono hU), fun b hb => hE.ro b (M.ro0 b hb), fun b hb => ?_, M2.rlt, M2.dom, fun i b hi => hE.dom i (M.live i b hi), fun i b hi => ?_, fun i b hi => ?_, fun i b hi => ?_, fun i j b c hi hj hn => ?_⟩, hE, hw, hv⟩
    · rcases hro b hb with h3 | h3
      · exact M.ro1 b h3
      · exact .inr fun h4 => h3 (hU b h4)
    · cases hn : m i with
      | some c =>
        have := hm i c hn
        rw [hi] at this
        cases this
        exact M2.mem i b hn
      | none =>
        rw [hE.home i (M.live i b hi)]
        exact (M.mem i b hi).keep hE hw (M2.below.block _ (hUn i b hi hn))
    · rw [hE.home i (M.live i b hi)]
      exact M.base i b hi
    · cases hn : m i with
      | some c =>
        have := hm i c hn
        rw [hi] at this
        cases this
        exact M2.frz i b hn
      | none =>
        rw [hE.home i (M.live i b hi)]
        refine (M.frz i b hi).trans ⟨fun h => hE.ro _ h, fun h => ?_⟩
        rcases hro _ h with h3 | h3
        · exact h3
        · exact absurd (hUn i b hi hn) h3
    · rw [hE.home i (M.live i b hi), hE.home j (M.live j c hj)]
      exact M.inj i j b c hi hj hn⟩
/-- Behind a call: memory as the callee left it. -/
theorem Sim.back {W0 : Fix} {R0 : Nat → Prop} {D D' : Nat → Prop} {ns : Nat} {s : St} {E E' : Env} {a : Act} {w w' : World} {m' : Nat → Option Blk} (h : Sim W0 R0 ns D s E a w) (M : MS W0 R0 D' m' E' w') (hE : E.le E') (hw : ∀ b, E.ro b → w'.heap[b]? = w.heap[b]?) : Sim W0 R0 ns D' { s with mem := m' } E' a w' :=
  ⟨M.below, M.ro0, M.ro1, M.rlt, h.size, h.dfr, fun t => (h.slot t).keep hE hw, M.dom, M.live, M.mem, M.base, M.frz, M.inj,
    fun i hi => ⟨hE.dom i (h.le0 i hi).1, (hE.home i (h.le0 i hi).1).trans (h.le0 i hi).2⟩, fun b hb => ⟨hE.ro b (h.re0 b hb).1, (hw b (h.re0 b hb).1).trans (h.re0 b hb).2⟩⟩
def StepF (P : Program) (ev : Operand → Option SV) (m : Nat → Option Blk) (f : FuncId) (args : List Operand) (out : Out) : Prop :=
  ∃ svs ds is r, evList ev args = some svs ∧ escAll m svs = some (ds, is) ∧ ACall P f ds r ∧ out = { res := .d r, frz := is }
/-- The function that a call enters, and with what: a function by its name, or a value that is one. -/
def calleeS (ns : Nat) (s : St) : Op → Option (FuncId × List SV)
  | .call c => match c.callee with
    | .value (.func f) => match evList (opd ns s) c.args.toList with
      | some l => some (f, l)
      | none => none
    | .value (.tmp t) => match opd ns s (.tmp t), evList (opd ns s) c.args.toList with
      | some (.fn f xs ys), some l => some (f, xs ++ l ++ ys)
      | _, _ => none
    | _ => none
  | _ => none
theorem calleeS_run (h : Sim W0 R0 ns D s E a w) {o : Oper} {f : FuncId} {svs : List SV} (hc : calleeS ns s o.op = some (f, svs)) (hf : Callable P f) :
    ∃ vs : Array Value, (execOp a.eval o).run P w = .ok (.enter f vs) w ∧ vs.size = svs.length ∧ ∀ (i : Nat) x v, svs[i]? = some x → vs[i]? = some v → Rep E w x v := by
  unfold calleeS at hc
  split at hc
  · rename_i c ho
    split at hc
    · rename_i f' hcal
      split at hc
      · rename_i l h1
        cases hc
        obtain ⟨p1, p2⟩ := evList_rep (w := w) (E := E) (ev := opd ns s) (ρ := a.eval) (fun x v hx => h.opd hx) h1
        refine ⟨c.args.map a.eval, ?_, by simpa using p1, fun i x v hx hv => p2 i x v hx (by simpa using hv)⟩
        have hce := hf (c.args.map a.eval) w
        simp only [execOp, ho, resolve, hcal, Act.eval, Deferred.ofValue, invoke, Sem.run_bind, Sem.run_pure, Result.andThen_ok, Array.append_empty, Array.empty_append]
        exact hce
      · cases hc
    · rename_i t hcal
      split at hc
      · rename_i f' xs ys l h0 h1
        cases hc
        obtain ⟨p1, p2⟩ := evList_rep (w := w) (E := E) (ev := opd ns s) (ρ := a.eval) (fun x v hx => h.opd hx) h1
        have hr := h.opd h0
        obtain ⟨u, hu⟩ : ∃ u, a.eval (.tmp t) = u := ⟨_, rfl⟩
        rw [hu] at hr
        cases hr with
        | fn _ _ _ us vs u1 u2 u3 u4 =>
          have e1 : (c.args.map a.eval).toList.length = l.length := by simpa using p1
          refine ⟨us ++ c.args.map a.eval ++ vs, ?_, by simp at e1 ⊢; omega, fun i x v hx hv => ?_⟩
          · have hce := hf (us ++ c.args.map a.eval ++ vs) w
            simp only [execOp, ho, resolve, hcal, hu, Deferred.ofValue, invoke, Sem.run_bind, Sem.run_pure, Result.andThen_ok]
            exact hce
          · rcases Nat.lt_or_ge i (xs ++ l).length with g | g
            · rw [List.getElem?_append_left g] at hx
              rw [Array.getElem?_append_left (by simp at e1 g ⊢; omega)] at hv
              rcases Nat.lt_or_ge i xs.length with g2 | g2
              · rw [List.getElem?_append_left g2] at hx
                rw [Array.getElem?_append_left (by omega)] at hv
                exact u3 i x v hx hv
              · rw [List.getElem?_append_right g2] at hx
                rw [Array.getElem?_append_right (by omega), u1] at hv
                exact p2 _ x v hx (by simpa using hv)
            · rw [List.getElem?_append_right g] at hx
              rw [Array.getElem?_append_right (by simp at e1 g ⊢; omega)] at hv
              refine u4 (i - (xs ++ l).length) x v hx ?_
              rw [← hv]
              congr 1
              simp at e1 ⊢
              omega
      · cases hc
    · cases hc
  · cases hc
/-- A call that only reads these blocks. -/
def StepR (P : Program) (ns : Nat) (s : St) (o : Op) (out : Out) : Prop :=
  ∃ f svs r m0, calleeS ns s o = some (f, svs) ∧ RCall P f svs r m0 ∧ (∀ i b, m0 i = some b → i ∈ out.rds ∧ s.mem i = some b) ∧ out = { res := .d r, rds := out.rds }
/-- One operation in a state. -/
def Step (P : Program) (T : Tab) (ns nid : Nat) (s : St) (o : Op) (out : Out) : Prop :=
  (match fnOf o with
  | some (f, args) => StepF P (opd ns s) s.mem f args out
  | none => aop T s.mem nid (opd ns s) o = some out) ∨ StepR P ns s o out
def putS (s : St) (nid : Nat) (d : Option Tmp) (out : Out) : St := { slots := setSlot s.slots d out.res, mem := memApp s.mem nid out }

theorem fnOf_eq {o : Op} {f : FuncId} {args : List Operand} (h : fnOf o = some (f, args)) : ∃ c, o = .call c ∧ c.callee = .value (.func f) ∧ c.args.toList = args := by
  unfold fnOf at h
  split at h
  · rename_i c
    split at h
    · rename_i hc; cases h; exact ⟨c, rfl, hc, rfl⟩
    · cases h
  · cases h
/-- One operation does what is told of it: the walk goes on from there. -/
theorem step_wp (hT : TabOk P T) (h : Sim W0 R0 ns D s E a w) {nid : Nat} (hD : ¬ D nid) {N : Nat} (hN : ∀ i, D i → i < N) {o : Oper} (hd : ∀ t, o.dst = some t → t < ns) {out : Out} (hs : Step P T ns nid s o.op out) {K : Act → World → Prop} {Q : Exit → Act → World → Prop}
    (hK : ∀ E' a' w', Sim W0 R0 ns (fun k => k = nid ∨ D k) (putS s nid o.dst out) E' a' w' → K a' w') : o.wp P a w K Q := by
  rcases hs with hs | ⟨f, svs, r, m0, h1, h3, hm0, hout⟩
  rotate_left
  · obtain ⟨vs, hex, v1, v2⟩ := calleeS_run h h1 h3.callable
    unfold Oper.wp
    rw [hex, Oper.upon_enter]
    refine ((h3.more fun i b hi => (hm0 i b hi).2).calls W0 R0 D N E w vs hN h.ms v1 v2).mono ?_
    rintro e w' ⟨v, E', rfl, M, hE, hw, hv⟩
    have h5 := ((h.back M hE hw).put hd hv).weak (D' := fun k => k = nid ∨ D k) fun i hi => Or.inr hi
    refine hK E' _ w' ?_
    rw [hout]
    exact h5
  split at hs
  · rename_i f args hf
    obtain ⟨c, ho, hc, ha⟩ := fnOf_eq hf
    obtain ⟨svs, ds, is, r, h1, h2, h3, rfl⟩ := hs
    obtain ⟨E1, e1, e2, e3, e4, e5⟩ := h.freezes is (escAll_ids h2)
    obtain ⟨p1, p2⟩ := evList_rep (w := w) (E := E) (ev := opd ns s) (ρ := a.eval) (fun x v hx => h.opd hx) h1
    obtain ⟨q1, q2⟩ := escAll_rep (m0 := s.mem) (m := frzM s.mem is) (fun i t z rows f hh => frzM_row hh) (fun i b hb => e2.mem i b hb) h2 e3
    have hex : (execOp a.eval o).run P w = .ok (.enter f (c.args.map a.eval)) w := by
      have hcc := h3.callable (c.args.map a.eval) w
      simp only [execOp, ho, resolve, hc, Act.eval, Deferred.ofValue, invoke, Sem.run_bind, Sem.run_pure, Result.andThen_ok, Array.append_empty, Array.empty_append]
      exact hcc
    unfold Oper.wp
    rw [hex, Oper.upon_enter]
    refine (h3.calls E1.ro w (c.args.map a.eval) e2.rlt (by simp; have := congrArg List.length ha; simp at this; omega) fun i d v hd hv => ?_).mono ?_
    · have hi : i < svs.length := by have := (List.getElem?_eq_some_iff.1 hd).1; omega
      refine q2 i svs[i] d v (List.getElem?_eq_getElem hi) hd ((p2 i svs[i] v (List.getElem?_eq_getElem hi) ?_).keep e1 fun _ _ => rfl)
      rw [← ha]
      simpa using hv
    · rintro e w' ⟨v, rfl, hb, hr⟩
      let E2 : Env := { E1 with ro := fun b => E1.ro b ∨ (w.heap.size ≤ b ∧ b < w'.heap.size) }
      have hE : E1.le E2 := ⟨fun _ h => .inl h, fun _ h => h, fun _ _ => rfl⟩
      have h4 := e2.later (E' := E2) (D' := fun k => k = nid ∨ D k) (e2.kept hb) hE (fun b hb' => hb.block b (e2.rlt b hb')) (fun i b hi => hb.block _ (e2.mem i b hi).lt) (fun b hb' => by
        rcases hb' with h' | ⟨h1, h2⟩
        · exact .inl h'
        · exact .inr ⟨h.fresh h1, h2, fun i c hi e => by have := (e2.mem i c hi).lt; omega⟩) (fun i hi => .inr (e2.dom i hi))
      exact hK E2 _ w' (h4.put hd (.d _ _ hr))
  · obtain ⟨E', w', h1, h2⟩ := aop_run hT h hD hs
    unfold Oper.wp
    rcases h2 with ⟨v, hr, hv⟩ | ⟨hr, hu⟩
    · rw [hr]
      exact hK E' _ w' (h1.put hd hv)
    · rw [hr]
      have := h1.put hd (Rep.und (E := E') (w := w') undef)
      unfold putS at hK
      rw [hu] at hK
      exact hK E' _ w' this

def dstOk (ns : Nat) : Option Nat → Bool
  | none => true
  | some t => decide (t < ns)
/-- Whether an operation is wanted. -/
theorem rep_no {E : Env} {w : World} : Rep E w (.tup []) undef := .tup [] #[] rfl (by simp)
def guardS (ops : Array Oper) (ns : Nat) (s : St) (o : Oper) : Option Bool :=
  if dstOk ns o.dst = true then match o.guard with
  | none => some true
  | some (j, want) => match (ops[j]?).bind (·.dst) with
    | some t => if t < ns then match s.slots t with
      | .d (.val (.bool b)) => some (b == want)
      | .tup [] => some false
      | _ => none
      else none
    | none => none
  else none
theorem guardS_dst {ops : Array Oper} {ns : Nat} {s : St} {o : Oper} {b : Bool} (h : guardS ops ns s o = some b) : ∀ t, o.dst = some t → t < ns := fun t ht => by
  unfold guardS at h
  split at h
  · rename_i hd; rw [ht] at hd; exact of_decide_eq_true hd
  · cases h
theorem guard_ok (h : Sim W0 R0 ns D s E a w) {ops : Array Oper} {o : Oper} {b : Bool} (hg : guardS ops ns s o = some b) : Region.wanted o (yielded ops a.tmps) = b := by
  unfold guardS at hg
  rw [if_pos (by by_cases hd : dstOk ns o.dst = true; exact hd; rw [if_neg hd] at hg; cases hg)] at hg
  unfold Region.wanted
  split at hg
  · rename_i hgd; rw [hgd]; cases hg; rfl
  · rename_i j want hgd
    rw [hgd]
    split at hg
    · rename_i t ht
      split at hg
      · rename_i hlt
        split at hg
        · rename_i b' hs
          cases hg
          have hr := h.slot t
          rw [if_pos hlt] at hr
          rw [hs] at hr
          have := rep_bool hr
          have ht' : a.tmps[t]? = some (.bool b') := by
            have hl : t < a.tmps.size := by rw [h.size]; exact hlt
            simp [hl] at this
            simp [hl, this]
          simp only [yielded, ht, Option.bind_some, ht']
          cases b' <;> cases want <;> rfl
        · rename_i hs
          cases hg
          have hr := h.slot t
          rw [if_pos hlt, hs] at hr
          obtain ⟨u, hu⟩ : ∃ u, a.tmps.getD t undef = u := ⟨_, rfl⟩
          rw [hu] at hr
          have ht' : a.tmps[t]? = some u := by
            have hl : t < a.tmps.size := by rw [h.size]; exact hlt
            simp [hl] at hu
            simp [hl, hu]
          simp only [yielded, ht, Option.bind_some, ht']
          cases hr
          rfl
        · cases hg
      · cases hg
    · cases hg

/-- The operations one behind the other, in the order of the text; the log says what each one reads and writes (a slot t as 2 * t, a block i as 2 * i + 1). -/
structure Foot where
  rd : List Nat
  wr : List Nat
def idsOf1 : SV → List Nat
  | .own id _ _ => [id]
  | .lin id _ => [id]
  | .ptr id _ _ => [id]
  | _ => []
def idsOf : SV → List Nat
  | .agg cs => cs.flatMap idsOf1
  | x => idsOf1 x
def slotsOf (o : Op) : List Nat := o.operands.toList.filterMap fun
  | .tmp t => some t
  | _ => none
def looks : Op → Bool
  | .load .. | .store .. | .buildSlice .. | .call _ => true
  | _ => false
def idsRead (s : St) (o : Op) : List Nat := if looks o then (slotsOf o).flatMap fun t => idsOf (s.slots t) else []
def guardSlot (ops : Array Oper) (o : Oper) : List Nat := match o.guard with
  | none => []
  | some (j, _) => ((ops[j]?).bind (·.dst)).toList
def idsWritten (nid : Nat) (out : Out) : List Nat := out.frz ++ (match out.wr with | none => [] | some (i, _) => [i]) ++ (match out.nw with | none => [] | some _ => [nid])
def footOf (ops : Array Oper) (nid : Nat) (s : St) (o : Oper) (out : Option Out) : Foot :=
  { rd := (guardSlot ops o).map (2 * ·) ++ (match out with | none => [] | some x => (slotsOf o.op).map (2 * ·) ++ ((idsRead s o.op).map (2 * · + 1) ++ x.rds.map (2 * · + 1))),
    wr := o.dst.toList.map (2 * ·) ++ (match out with | none => [] | some x => (idsWritten nid x).map (2 * · + 1)) }
def Exec (P : Program) (T : Tab) (ops : Array Oper) (ns : Nat) : Nat → List Oper → St → List Foot → (St → List Foot → Prop) → Prop
  | _, [], s, log, Q => Q s log
  | nid, o :: l, s, log, Q => match guardS ops ns s o with
    | some true => ∃ out, Step P T ns nid s o.op out ∧ Exec P T ops ns (nid + 1) l (putS s nid o.dst out) (log ++ [footOf ops nid s o (some out)]) Q
    | some false => Exec P T ops ns (nid + 1) l { s with slots := setSlot s.slots o.dst (.tup []) } (log ++ [footOf ops nid s o none]) Q
    | none => False

theorem exec_list (hT : TabOk P T) {ops : Array Oper} {Q : Exit → Act → World → Prop} : ∀ (l : List Oper) (nid : Nat) {s : St} {E : Env} {a : Act} {w : World} {log : List Foot} {Q' : St → List Foot → Prop}, Exec P T ops ns nid l s log Q' →
    Sim W0 R0 ns (· < nid) s E a w → (∀ s' E' a' w' log', Sim W0 R0 ns (· < nid + l.length) s' E' a' w' → Q' s' log' → Q .normal a' w') → wpList P ops Q l a w
  | [], nid, s, E, a, w, log, Q', h, hs, hQ => hQ s E a w log hs h
  | o :: l, nid, s, E, a, w, log, Q', h, hs, hQ => by
    simp only [Exec] at h
    refine wpList_step fun K hK => ?_
    split at h
    · rename_i hg
      rw [guard_ok hs hg, if_pos rfl]
      obtain ⟨out, h1, h2⟩ := h
      refine step_wp hT hs (nid := nid) (by omega) (N := nid) (fun _ h => h) (guardS_dst hg) h1 fun E' a' w' hs' => hK _ _ ?_
      refine exec_list hT l (nid + 1) h2 (hs'.weak fun i hi => by omega) fun s' E' a' w' log' hs2 hq => hQ s' E' a' w' log' ?_ hq
      rw [List.length_cons, show nid + (l.length + 1) = nid + 1 + l.length by omega]
      exact hs2
    · rename_i hg
      rw [guard_ok hs hg, if_neg (by simp)]
      refine hK _ _ (exec_list hT l (nid + 1) h ((hs.put (guardS_dst hg) rep_no).weak fun i hi => by omega) fun s' E' a' w' log' hs2 hq => hQ s' E' a' w' log' ?_ hq)
      rw [List.length_cons, show nid + (l.length + 1) = nid + 1 + l.length by omega]
      exact hs2
    · exact h.elim
end Go.Proofs.Ytjjoiihgpkhndaa.Eng

/-
  The engine, part M: an operation looks at no more than its log says. No program is named here.
-/
namespace Go.Proofs.Ytjjoiihgpkhndaa.Eng
open Go.RowKit
variable {P : Program} {T : Tab} {ns : Nat}

theorem evParts_congr {ev ev' : Operand → Option SV} : ∀ {l : List (Nat × Operand)}, (∀ p ∈ l, ev' p.2 = ev p.2) → evParts ev' l = evParts ev l
  | [], _ => rfl
  | (k, x) :: l, h => by
    simp only [evParts, h (k, x) List.mem_cons_self, evParts_congr fun p hp => h p (List.mem_cons_of_mem _ hp)]
theorem evList_congr {ev ev' : Operand → Option SV} : ∀ {l : List Operand}, (∀ p ∈ l, ev' p = ev p) → evList ev' l = evList ev l
  | [], _ => rfl
  | x :: l, h => by
    simp only [evList, h x List.mem_cons_self, evList_congr fun p hp => h p (List.mem_cons_of_mem _ hp)]
theorem call_congr {m : Nat → Option Blk} {nid : Nat} {ev ev' : Operand → Option SV} (c : Call) (h : ∀ x ∈ c.args.toList, ev' x = ev x) : aop T m nid ev' (.call c) = aop T m nid ev (.call c) := by
  have h1 : aopR T m ev' (.call c) = aopR T m ev (.call c) := by
    simp only [aopR]
    split
    · rename_i x t hc ha ht; rw [h x (by rw [ha]; simp)]
    · rename_i x y hc ha; rw [h x (by rw [ha]; simp), h y (by rw [ha]; simp)]
    · rename_i x y hc ha; rw [h x (by rw [ha]; simp), h y (by rw [ha]; simp)]
    · rfl
  simp only [aop]
  split
  · rename_i sx x t t' hc ha ht
    rw [h sx (by rw [ha]; simp), h x (by rw [ha]; simp)]
  · rw [h1]
theorem aop_congr {m : Nat → Option Blk} {nid : Nat} {ev ev' : Operand → Option SV} (o : Op) (h : ∀ x ∈ o.operands.toList, ev' x = ev x) : aop T m nid ev' o = aop T m nid ev o := by
  cases o with
  | call c =>
    refine call_congr c fun x hx => h x ?_
    simp only [Op.operands, Call.operands, Array.toList_append, List.mem_append]
    exact .inr hx
  | build t ps =>
    have : evParts ev' ps.toList = evParts ev ps.toList := evParts_congr fun p hp => h p.2 (by simp only [Op.operands]; exact List.mem_map_of_mem hp)
    simp only [aop, this]
  | buildSlice t n ps =>
    have : evParts ev' ps.toList = evParts ev ps.toList := evParts_congr fun p hp => h p.2 (by simp only [Op.operands]; exact List.mem_map_of_mem hp)
    simp only [aop, this]
  | slice t x lo hi mx =>
    have h0 := h x (by simp [Op.operands])
    cases mx with
    | some m =>
      have hm := h m (by simp [Op.operands])
      cases lo with
      | none =>
        cases hi with
        | none => simp only [aop, aopR]
        | some hh => have h2 := h hh (by simp [Op.operands]); simp only [aop, aopR, h0, h2, hm]
      | some l => simp only [aop, aopR]
    | none =>
      cases lo with
      | none =>
        cases hi with
        | none => simp only [aop, aopR, h0]
        | some hh => have h2 := h hh (by simp [Op.operands]); simp only [aop, aopR, h0, h2]
      | some l =>
        have h1 := h l (by simp [Op.operands])
        cases hi with
        | none => simp only [aop, aopR, h0, h1]
        | some hh => have h2 := h hh (by simp [Op.operands]); simp only [aop, aopR, h0, h1, h2]
  | pick c x y => have h0 := h c (by simp [Op.operands]); have h1 := h x (by simp [Op.operands]); have h2 := h y (by simp [Op.operands]); simp only [aop, aopR, h0, h1, h2]
  | binOp op t x y yt => have h0 := h x (by simp [Op.operands]); have h1 := h y (by simp [Op.operands]); simp only [aop, aopR, h0, h1]
  | indexAddr t x y => have h0 := h x (by simp [Op.operands]); have h1 := h y (by simp [Op.operands]); simp only [aop, aopR, h0, h1]
  | index t x y => have h0 := h x (by simp [Op.operands]); have h1 := h y (by simp [Op.operands]); simp only [aop, aopR, h0, h1]
  | makeSlice t x y => have h0 := h x (by simp [Op.operands]); have h1 := h y (by simp [Op.operands]); simp only [aop, h0, h1]
  | store t x y => have h0 := h x (by simp [Op.operands]); have h1 := h y (by simp [Op.operands]); simp only [aop, h0, h1]
  | move x => have h0 := h x (by simp [Op.operands]); simp only [aop, aopR, h0]
  | assign x => have h0 := h x (by simp [Op.operands]); simp only [aop, aopR, h0]
  | unOp op t x => have h0 := h x (by simp [Op.operands]); simp only [aop, aopR, h0]
  | convert s d x => have h0 := h x (by simp [Op.operands]); simp only [aop, aopR, h0]
  | nilCheck x => have h0 := h x (by simp [Op.operands]); simp only [aop, aopR, h0]
  | fieldAddr s x f => have h0 := h x (by simp [Op.operands]); simp only [aop, aopR, h0]
  | field s x f => have h0 := h x (by simp [Op.operands]); simp only [aop, aopR, h0]
  | extract x i => have h0 := h x (by simp [Op.operands]); simp only [aop, aopR, h0]
  | load t x => have h0 := h x (by simp [Op.operands]); simp only [aop, aopR, h0]
  | box e x => have h0 := h x (by simp [Op.operands]); simp only [aop, h0]
  | makeFunc fn first captured =>
    have h0 : evList ev' first.toList = evList ev first.toList := evList_congr fun x hx => h x (by simp only [Op.operands, Array.toList_append, List.mem_append]; exact .inl hx)
    have h1 : evList ev' captured.toList = evList ev captured.toList := evList_congr fun x hx => h x (by simp only [Op.operands, Array.toList_append, List.mem_append]; exact .inr hx)
    cases fn <;> simp only [aop, aopR, h0, h1]
  | _ => simp only [aop, aopR]

/-! ### Memory -/
theorem esc1_congr {m m' : Nat → Option Blk} {x : SV} (h : ∀ i ∈ idsOf1 x, m' i = m i) : esc1 m' x = esc1 m x := by
  cases x <;> simp only [esc1]
  rename_i id n z
  rw [h id (by simp [idsOf1])]
theorem escL_congr {m m' : Nat → Option Blk} : ∀ {l : List SV}, (∀ x ∈ l, ∀ i ∈ idsOf1 x, m' i = m i) → escL m' l = escL m l
  | [], _ => rfl
  | x :: l, h => by
    simp only [escL, esc1_congr (h x List.mem_cons_self), escL_congr fun y hy => h y (List.mem_cons_of_mem _ hy)]
theorem idsOf_one {x : SV} (h : ∀ cs, x ≠ .agg cs) : idsOf x = idsOf1 x := by
  cases x <;> first | rfl | exact absurd rfl (h _)
theorem esc_congr {m m' : Nat → Option Blk} {x : SV} (h : ∀ i ∈ idsOf x, m' i = m i) : esc m' x = esc m x := by
  cases x with
  | agg cs =>
    simp only [esc]
    rw [escL_congr fun y hy i hi => h i (List.mem_flatMap.2 ⟨y, hy, hi⟩)]
  | _ => simp only [esc]; exact esc1_congr fun i hi => h i hi
theorem cells_ids {x : SV} {c : SV} (hc : c ∈ x.cells) {i : Nat} (hi : i ∈ idsOf1 c) : i ∈ idsOf x := by
  unfold SV.cells at hc
  split at hc
  · obtain ⟨d, _, rfl⟩ := List.mem_map.1 hc
    simp [idsOf1] at hi
  · exact List.mem_flatMap.2 ⟨c, hc, hi⟩
  · rename_i h1 h2
    rw [List.mem_singleton] at hc
    subst hc
    cases c <;> first | exact hi | exact absurd rfl (h2 _)
theorem escAll_congr {m m' : Nat → Option Blk} : ∀ {l : List SV}, (∀ x ∈ l, ∀ i ∈ idsOf x, m' i = m i) → escAll m' l = escAll m l
  | [], _ => rfl
  | x :: l, h => by
    simp only [escAll, esc_congr (h x List.mem_cons_self), escAll_congr fun y hy => h y (List.mem_cons_of_mem _ hy)]
theorem rowsOf_congr {m m' : Nat → Option Blk} {z : Nat} : ∀ {k : Nat} {l : List (Nat × SV)}, (∀ p ∈ l, ∀ i ∈ idsOf p.2, m' i = m i) → rowsOf m' z k l = rowsOf m z k l
  | _, [], _ => rfl
  | k, (j, x) :: l, h => by
    simp only [rowsOf, escL_congr fun y hy i hi => h (j, x) List.mem_cons_self i (cells_ids hy hi), rowsOf_congr (k := k + 1) fun p hp => h p (List.mem_cons_of_mem _ hp)]
theorem loadSV_congr {m m' : Nat → Option Blk} {i : TI} {x : SV} (h : ∀ i ∈ idsOf x, m' i = m i) : loadSV m' i x = loadSV m i x := by
  cases x <;> simp only [loadSV]
  rename_i id r j
  rw [h id (by simp [idsOf, idsOf1])]
theorem srcRows_congr {m m' : Nat → Option Blk} {z : Nat} {x : SV} (h : ∀ i ∈ idsOf x, m' i = m i) : srcRows m' z x = srcRows m z x := by
  cases x with
  | own id n z' => simp only [srcRows]; rw [h id (by simp [idsOf, idsOf1])]
  | d d => cases d <;> simp only [srcRows]
  | _ => simp only [srcRows]
theorem appendOut_congr {m m' : Nat → Option Blk} {nid : Nat} {e : TypeId} {ie : TI} {x : SV} {xr : List (List Dat)} (h : ∀ i ∈ idsOf x, m' i = m i) : appendOut m' nid e ie x xr = appendOut m nid e ie x xr := by
  cases x <;> simp only [appendOut]
  rename_i id n z
  rw [h id (by simp [idsOf, idsOf1])]
theorem storeOut_congr {m m' : Nat → Option Blk} {i : TI} {id r j : Nat} {v : SV} (h0 : m' id = m id) (h : ∀ i ∈ idsOf v, m' i = m i) : storeOut m' i id r j v = storeOut m i id r j v := by
  unfold storeOut
  rw [h0, escL_congr fun y hy i hi => h i (cells_ids hy hi)]
/-- Every block that an operand names is named by a slot. -/
theorem cSV_ids (v : Value) : idsOf1 (cSV v) = [] := by unfold cSV; split <;> rfl
theorem constSV_ids {v : Value} {x : SV} (h : constSV v = some x) : idsOf x = [] := by
  have key : ∀ v : Value, some (cSV v) = some x → idsOf x = [] := fun v hv => by
    cases hv
    unfold cSV
    split <;> rfl
  cases v with
  | agg cs =>
    simp only [constSV] at h
    split at h
    · cases h
      simp only [idsOf, List.flatMap_eq_nil_iff]
      intro c hc
      obtain ⟨u, _, rfl⟩ := List.mem_map.1 hc
      exact cSV_ids u
    · cases h
  | tuple => cases h
  | _ => exact key _ h
theorem opd_ids {s : St} {x : Operand} {v : SV} (h : opd ns s x = some v) {i : Nat} (hi : i ∈ idsOf v) : ∃ t, x = .tmp t ∧ i ∈ idsOf (s.slots t) := by
  cases x with
  | tmp t =>
    simp only [opd] at h
    split at h
    · cases h; exact ⟨t, rfl, hi⟩
    · cases h
  | const v => rw [constSV_ids h] at hi; cases hi
  | global => cases h
  | func f => cases h; simp [idsOf, idsOf1] at hi
theorem opd_congr {s s' : St} {x : Operand} (h : ∀ t, x = .tmp t → s'.slots t = s.slots t) : opd ns s' x = opd ns s x := by
  cases x <;> simp only [opd]
  rename_i t
  rw [h t rfl]
theorem mem_slotsOf {o : Op} {t : Nat} (h : Operand.tmp t ∈ o.operands.toList) : t ∈ slotsOf o := List.mem_filterMap.2 ⟨_, h, rfl⟩
theorem evParts_mem {ev : Operand → Option SV} : ∀ {l : List (Nat × Operand)} {r : List (Nat × SV)}, evParts ev l = some r → ∀ p ∈ r, ∃ x, (p.1, x) ∈ l ∧ ev x = some p.2
  | [], r, h => by cases h; simp
  | (k, x) :: l, r, h => by
    simp only [evParts] at h
    split at h
    · rename_i v r' h1 h2
      cases h
      intro p hp
      rcases List.mem_cons.1 hp with rfl | hp
      · exact ⟨x, List.mem_cons_self, h1⟩
      · obtain ⟨y, h3, h4⟩ := evParts_mem h2 p hp
        exact ⟨y, List.mem_cons_of_mem _ h3, h4⟩
    · cases h
theorem evList_mem {ev : Operand → Option SV} : ∀ {l : List Operand} {r : List SV}, evList ev l = some r → ∀ p ∈ r, ∃ x, x ∈ l ∧ ev x = some p
  | [], r, h => by cases h; simp
  | x :: l, r, h => by
    simp only [evList] at h
    split at h
    · rename_i v r' h1 h2
      cases h
      intro p hp
      rcases List.mem_cons.1 hp with rfl | hp
      · exact ⟨x, List.mem_cons_self, h1⟩
      · obtain ⟨y, h3, h4⟩ := evList_mem h2 p hp
        exact ⟨y, List.mem_cons_of_mem _ h3, h4⟩
    · cases h

theorem calleeS_congr {s s' : St} {o : Op} (h : ∀ x ∈ o.operands.toList, opd ns s' x = opd ns s x) : calleeS ns s' o = calleeS ns s o := by
  cases o <;> try rfl
  rename_i c
  have ha : evList (opd ns s') c.args.toList = evList (opd ns s) c.args.toList := evList_congr fun x hx => h x (by
    simp only [Op.operands, Call.operands, Array.toList_append, List.mem_append]
    exact .inr hx)
  simp only [calleeS, ha]
  cases hc : c.callee with
  | value x =>
    cases x with
    | tmp t => simp only [h (.tmp t) (by simp [Op.operands, Call.operands, hc])]
    | _ => rfl
  | _ => rfl
/-- An operation goes by what its slots hold, and by the blocks that they name. -/
theorem step_local {nid : Nat} {s s' : St} {o : Op} {out : Out} (h : Step P T ns nid s o out) (h1 : ∀ t ∈ slotsOf o, s'.slots t = s.slots t) (h2 : ∀ i ∈ idsRead s o, s'.mem i = s.mem i) (h3 : ∀ i ∈ out.rds, s'.mem i = s.mem i) : Step P T ns nid s' o out := by
  have hev : ∀ x ∈ o.operands.toList, opd ns s' x = opd ns s x := fun x hx => opd_congr fun t ht => h1 t (mem_slotsOf (ht ▸ hx))
  have hids : looks o = true → ∀ x ∈ o.operands.toList, ∀ v, opd ns s x = some v → ∀ i ∈ idsOf v, s'.mem i = s.mem i := fun hl x hx v hv i hi => by
    obtain ⟨t, rfl, ht⟩ := opd_ids hv hi
    refine h2 i ?_
    unfold idsRead
    rw [if_pos hl]
    exact List.mem_flatMap.2 ⟨t, mem_slotsOf hx, ht⟩
  rcases h with h | ⟨f, svs, r, m0, k1, k2, k3, k4⟩
  rotate_left
  · refine .inr ⟨f, svs, r, m0, ?_, k2, fun i b hi => ⟨(k3 i b hi).1, (h3 i (k3 i b hi).1).trans (k3 i b hi).2⟩, k4⟩
    rw [← k1]
    exact calleeS_congr hev
  refine .inl ?_
  cases hf : fnOf o with
  | some p =>
    obtain ⟨f, args⟩ := p
    rw [hf] at h
    obtain ⟨c, rfl, hc, ha⟩ := fnOf_eq hf
    have hmem : ∀ x ∈ args, x ∈ (Op.call c).operands.toList := fun x hx => by
      simp only [Op.operands, Call.operands, Array.toList_append, List.mem_append]
      exact .inr (ha ▸ hx)
    obtain ⟨svs, ds, is, r, k1, k2, k3, k4⟩ := h
    refine ⟨svs, ds, is, r, ?_, ?_, k3, k4⟩
    · rw [evList_congr fun x hx => hev x (hmem x hx)]; exact k1
    · rw [escAll_congr fun v hv i hi => ?_]
      · exact k2
      · obtain ⟨x, hx, hxv⟩ := evList_mem k1 v hv
        exact hids rfl x (hmem x hx) v hxv i hi
  | none =>
    rw [hf] at h
    show aop T s'.mem nid (opd ns s') o = some out
    have h : aop T s.mem nid (opd ns s) o = some out := h
    rw [aop_congr o hev, ← h]
    have hidx : ∀ {x : Operand} {v : SV}, looks o = true → x ∈ o.operands.toList → opd ns s x = some v → ∀ i ∈ idsOf v, s'.mem i = s.mem i := fun {x v} hl hx hv => hids hl x hx v hv
    cases o with
    | load t x =>
      simp only [aop, aopR]
      cases hi : T t with
      | none => rfl
      | some i =>
        cases hx : opd ns s x with
        | none => rfl
        | some v => simp only; rw [loadSV_congr (hidx rfl (by simp [Op.operands]) hx)]
    | store t x y =>
      simp only [aop]
      cases hi : T t with
      | none => rfl
      | some i =>
        cases hx : opd ns s x with
        | none => rfl
        | some v =>
          cases hy : opd ns s y with
          | none => cases v <;> rfl
          | some u =>
            cases v with
            | ptr id r j => simp only; rw [storeOut_congr (hidx rfl (by simp [Op.operands]) hx id (by simp [idsOf, idsOf1])) (hidx rfl (by simp [Op.operands]) hy)]
            | _ => rfl
    | buildSlice t n ps =>
      simp only [aop]
      cases hi : T t with
      | none => rfl
      | some i =>
        simp only
        cases hk : i.kind with
        | slice e =>
          simp only
          cases hie : T e with
          | none => rfl
          | some ie =>
            cases hl : evParts (opd ns s) ps.toList with
            | none => rfl
            | some l =>
              simp only
              rw [rowsOf_congr fun p hp i hi => ?_]
              obtain ⟨x, hx, hxv⟩ := evParts_mem hl p hp
              exact hidx rfl (by simp only [Op.operands]; exact List.mem_map.2 ⟨(p.1, x), hx, rfl⟩) hxv i hi
        | _ => rfl
    | call c =>
      have hmem : ∀ x ∈ c.args.toList, x ∈ (Op.call c).operands.toList := fun x hx => by
        simp only [Op.operands, Call.operands, Array.toList_append, List.mem_append]
        exact .inr hx
      have hr : aopR T s'.mem (opd ns s) (.call c) = aopR T s.mem (opd ns s) (.call c) := by simp only [aopR]
      simp only [aop]
      split
      · rename_i sx x t t' hc ha ht
        cases hi : T t with
        | none => rfl
        | some i =>
          simp only
          cases hk : i.kind with
          | slice e =>
            simp only
            cases hie : T e with
            | none => rfl
            | some ie =>
              cases hx : opd ns s sx with
              | none => rfl
              | some u =>
                cases hy : opd ns s x with
                | none => rfl
                | some v =>
                  simp only
                  rw [srcRows_congr (hidx rfl (hmem x (by rw [ha]; simp)) hy)]
                  cases srcRows s.mem ie.size v with
                  | none => rfl
                  | some xr => simp only; rw [appendOut_congr (hidx rfl (hmem sx (by rw [ha]; simp)) hx)]
          | _ => rfl
      · rw [hr]
    | slice t x lo hi mx => cases mx <;> cases lo <;> cases hi <;> simp only [aop, aopR]
    | _ => simp only [aop, aopR]
end Go.Proofs.Ytjjoiihgpkhndaa.Eng

/-
  The engine, part N: a region that draws its order goes as in the order of the text, if its log says so. No program is named here.
-/
namespace Go.Proofs.Ytjjoiihgpkhndaa.Eng
open Go.RowKit
variable {P : Program} {T : Tab} {ns : Nat}

def maskL (l : List Nat) : Nat := l.foldl (fun s x => s ||| 2 ^ x) 0
theorem foldl_mask : ∀ (l : List Nat) (s x : Nat), (s.testBit x = true ∨ x ∈ l) → (l.foldl (fun s x => s ||| 2 ^ x) s).testBit x = true
  | [], s, x, h => by simpa using h
  | y :: l, s, x, h => by
    rw [List.foldl_cons]
    refine foldl_mask l _ x ?_
    rcases h with h | h
    · exact .inl (by simp [Nat.testBit_or, h])
    · rcases List.mem_cons.1 h with rfl | h
      · exact .inl (by simp [Nat.testBit_or, Nat.testBit_two_pow_self])
      · exact .inr h
theorem maskL_mem {l : List Nat} {x : Nat} (h : x ∈ l) : (maskL l).testBit x = true := foldl_mask l 0 x (.inr h)

/-- Operation i comes before operation k in every order. -/
inductive Anc (l : List Oper) : Nat → Nat → Prop
  | one {k : Nat} {o : Oper} {e : Edge} : l[k]? = some o → e ∈ o.after.toList → Region.binds .any e = true → Anc l e.on k
  | more {i k : Nat} {o : Oper} {e : Edge} : l[k]? = some o → e ∈ o.after.toList → Region.binds .any e = true → Anc l i e.on → Anc l i k
def ancOf (acc : List Nat) (es : List Edge) : Nat := es.foldl (fun s e => if Region.binds .any e = true then s ||| 2 ^ e.on ||| acc.getD e.on 0 else s) 0
def ancs : List Oper → List Nat → List Nat
  | [], acc => acc
  | o :: l, acc => ancs l (acc ++ [ancOf acc o.after.toList])
theorem ancOf_bit {acc : List Nat} {i : Nat} : ∀ (es : List Edge) (s : Nat), (es.foldl (fun s e => if Region.binds .any e = true then s ||| 2 ^ e.on ||| acc.getD e.on 0 else s) s).testBit i = true →
    s.testBit i = true ∨ ∃ e ∈ es, Region.binds .any e = true ∧ (i = e.on ∨ (acc.getD e.on 0).testBit i = true)
  | [], s, h => .inl h
  | e :: es, s, h => by
    rw [List.foldl_cons] at h
    rcases ancOf_bit es _ h with h | ⟨e', he, h⟩
    · split at h
      · rename_i hb
        rw [Nat.testBit_or, Nat.testBit_or, Bool.or_eq_true, Bool.or_eq_true] at h
        rcases h with (h | h) | h
        · exact .inl h
        · rw [Nat.testBit_two_pow] at h
          exact .inr ⟨e, List.mem_cons_self, hb, .inl (of_decide_eq_true h).symm⟩
        · exact .inr ⟨e, List.mem_cons_self, hb, .inr h⟩
      · exact .inl h
    · exact .inr ⟨e', List.mem_cons_of_mem _ he, h⟩
theorem ancs_ok {l0 : List Oper} : ∀ (l pre : List Oper) (acc : List Nat), l0 = pre ++ l → acc.length = pre.length → (∀ k i, (acc.getD k 0).testBit i = true → Anc l0 i k) → ∀ k i, ((ancs l acc).getD k 0).testBit i = true → Anc l0 i k
  | [], pre, acc, _, _, h => h
  | o :: l, pre, acc, hl, hlen, h => by
    refine ancs_ok l (pre ++ [o]) _ (by simp [hl]) (by simp [hlen]) fun k i hk => ?_
    by_cases c : k < acc.length
    · rw [List.getD_eq_getElem?_getD, List.getElem?_append_left c, ← List.getD_eq_getElem?_getD] at hk
      exact h k i hk
    · rw [List.getD_eq_getElem?_getD, List.getElem?_append_right (by omega), ← List.getD_eq_getElem?_getD] at hk
      by_cases c2 : k = acc.length
      · subst c2
        rw [Nat.sub_self] at hk
        have ho : l0[acc.length]? = some o := by rw [hl, hlen]; simp
        rcases ancOf_bit _ _ hk with h0 | ⟨e, he, hb, h1⟩
        · simp at h0
        · rcases h1 with rfl | h1
          · exact .one ho he hb
          · exact .more ho he hb (h _ _ h1)
      · have : ([ancOf acc o.after.toList] : List Nat).getD (k - acc.length) 0 = 0 := by
          rw [List.getD_eq_getElem?_getD, List.getElem?_eq_none (by simp; omega)]
          rfl
        rw [this] at hk
        simp at hk
/-- No order changes what is read or written. -/
def okLog (l : List Oper) (log : List Foot) : Bool :=
  let ms := log.map fun f => (maskL f.rd, maskL f.wr)
  let an := ancs l []
  (List.range log.length).all fun k => (List.range k).all fun i =>
    (((ms.getD i (0, 0)).2 &&& ((ms.getD k (0, 0)).1 ||| (ms.getD k (0, 0)).2)) ||| ((ms.getD i (0, 0)).1 &&& (ms.getD k (0, 0)).2)) == 0 || (an.getD k 0).testBit i
theorem and_bit {a b x : Nat} (h : a &&& b = 0) (ha : a.testBit x = true) (hb : b.testBit x = true) : False := by
  have : (a &&& b).testBit x = true := by rw [Nat.testBit_and, ha, hb]; rfl
  rw [h] at this
  simp at this
theorem or_zero {a b : Nat} (h : a ||| b = 0) : a = 0 ∧ b = 0 := by
  constructor
  · apply Nat.eq_of_testBit_eq
    intro i
    have : (a ||| b).testBit i = false := by rw [h]; simp
    rw [Nat.testBit_or, Bool.or_eq_false_iff] at this
    simpa using this.1
  · apply Nat.eq_of_testBit_eq
    intro i
    have : (a ||| b).testBit i = false := by rw [h]; simp
    rw [Nat.testBit_or, Bool.or_eq_false_iff] at this
    simpa using this.2
theorem okLog_anc {l : List Oper} {log : List Foot} (h : okLog l log = true) {i k : Nat} {fi fk : Foot} (hik : i < k) (hi : log[i]? = some fi) (hk : log[k]? = some fk) {x : Nat}
    (hx : (x ∈ fi.wr ∧ (x ∈ fk.rd ∨ x ∈ fk.wr)) ∨ (x ∈ fi.rd ∧ x ∈ fk.wr)) : Anc l i k := by
  unfold okLog at h
  have hkl := (List.getElem?_eq_some_iff.1 hk).1
  have h1 := List.all_eq_true.1 h k (List.mem_range.2 hkl)
  have h2 := List.all_eq_true.1 h1 i (List.mem_range.2 hik)
  rw [Bool.or_eq_true] at h2
  rcases h2 with h2 | h2
  · exfalso
    rw [beq_iff_eq] at h2
    have e1 : (log.map fun f => (maskL f.rd, maskL f.wr)).getD i (0, 0) = (maskL fi.rd, maskL fi.wr) := by rw [List.getD_eq_getElem?_getD, List.getElem?_map, hi]; rfl
    have e2 : (log.map fun f => (maskL f.rd, maskL f.wr)).getD k (0, 0) = (maskL fk.rd, maskL fk.wr) := by rw [List.getD_eq_getElem?_getD, List.getElem?_map, hk]; rfl
    rw [e1, e2] at h2
    obtain ⟨h3, h4⟩ := or_zero h2
    rcases hx with ⟨hx, hx2⟩ | ⟨hx, hx2⟩
    · refine and_bit h3 (maskL_mem hx) ?_
      rw [Nat.testBit_or, Bool.or_eq_true]
      exact hx2.imp maskL_mem maskL_mem
    · exact and_bit h4 (maskL_mem hx) (maskL_mem hx2)
  · exact ancs_ok l [] [] rfl rfl (fun k i hk => by simp at hk) k i h2

/-! ### The trace -/
def stepO (s : St) (nid : Nat) (o : Oper) : Option Out → St
  | none => { s with slots := setSlot s.slots o.dst (.tup []) }
  | some x => putS s nid o.dst x
structure Trace (P : Program) (T : Tab) (ops : Array Oper) (ns n0 : Nat) (l : List Oper) (st : Nat → St) (out : Nat → Option Out) (log : List Foot) : Prop where
  len : log.length = l.length
  foot : ∀ k o, l[k]? = some o → log[k]? = some (footOf ops (n0 + k) (st k) o (out k))
  next : ∀ k o, l[k]? = some o → st (k + 1) = stepO (st k) (n0 + k) o (out k)
  step : ∀ k o, l[k]? = some o → (∃ x, out k = some x ∧ guardS ops ns (st k) o = some true ∧ Step P T ns (n0 + k) (st k) o.op x) ∨ (out k = none ∧ guardS ops ns (st k) o = some false)
theorem exec_trace {ops : Array Oper} : ∀ (l : List Oper) (nid : Nat) (s : St) (log : List Foot) {Q : St → List Foot → Prop}, Exec P T ops ns nid l s log Q →
    ∃ st out log', st 0 = s ∧ Trace P T ops ns nid l st out log' ∧ Q (st l.length) (log ++ log')
  | [], nid, s, log, Q, h => ⟨fun _ => s, fun _ => none, [], rfl, ⟨rfl, by simp, by simp, by simp⟩, by simp only [Exec] at h; simpa using h⟩
  | o :: l, nid, s, log, Q, h => by
    have main : ∀ (x : Option Out) (s1 : St), s1 = stepO s nid o x → ((∃ y, x = some y ∧ guardS ops ns s o = some true ∧ Step P T ns nid s o.op y) ∨ (x = none ∧ guardS ops ns s o = some false)) →
        Exec P T ops ns (nid + 1) l s1 (log ++ [footOf ops nid s o x]) Q → ∃ st out log', st 0 = s ∧ Trace P T ops ns nid (o :: l) st out log' ∧ Q (st (o :: l).length) (log ++ log') := by
      intro x s1 hs1 hx h
      obtain ⟨st, out, log', h0, ht, hq⟩ := exec_trace l (nid + 1) s1 _ h
      refine ⟨fun k => match k with | 0 => s | k + 1 => st k, fun k => match k with | 0 => x | k + 1 => out k, footOf ops nid s o x :: log', rfl, ⟨by simp [ht.len], ?_, ?_, ?_⟩, by simpa using hq⟩
      · intro k o' hk
        match k with
        | 0 => simp only [List.getElem?_cons_zero, Option.some.injEq] at hk ⊢; subst hk; rfl
        | k + 1 =>
          simp only [List.getElem?_cons_succ] at hk ⊢
          rw [ht.foot k o' hk, Nat.add_right_comm, Nat.add_assoc]
      · intro k o' hk
        match k with
        | 0 => simp only [List.getElem?_cons_zero, Option.some.injEq] at hk; subst hk; exact h0.trans hs1
        | k + 1 =>
          simp only [List.getElem?_cons_succ] at hk
          have := ht.next k o' hk
          rw [Nat.add_right_comm, Nat.add_assoc] at this
          exact this
      · intro k o' hk
        match k with
        | 0 => simp only [List.getElem?_cons_zero, Option.some.injEq] at hk; subst hk; exact hx
        | k + 1 =>
          simp only [List.getElem?_cons_succ] at hk
          have := ht.step k o' hk
          rw [Nat.add_right_comm, Nat.add_assoc] at this
          exact this
    simp only [Exec] at h
    split at h
    · rename_i hg
      obtain ⟨out, h1, h2⟩ := h
      exact main (some out) _ rfl (.inl ⟨out, rfl, hg, h1⟩) h2
    · rename_i hg
      exact main none _ rfl (.inr ⟨rfl, hg⟩) h
    · exact h.elim

/-! ### Some of the operations -/
theorem stepO_slot (s : St) (nid : Nat) (o : Oper) (x : Option Out) (t : Nat) : (stepO s nid o x).slots t = if o.dst = some t then (match x with | none => .tup [] | some y => y.res) else s.slots t := by
  cases x <;> simp only [stepO, putS] <;> (cases hd : o.dst <;> simp [setSlot, eq_comm])
theorem frzM_far {i : Nat} : ∀ {l : List Nat} {m : Nat → Option Blk}, i ∉ l → frzM m l i = m i
  | [], _, _ => rfl
  | k :: l, m, h => by
    simp only [frzM]
    rw [frzM_far (fun hh => h (List.mem_cons_of_mem _ hh)), setMem, if_neg (fun (e : i = k) => h (e ▸ List.mem_cons_self))]
theorem frzM_same {i : Nat} : ∀ {l : List Nat} {m m' : Nat → Option Blk}, m i = m' i → frzM m l i = frzM m' l i
  | [], _, _, h => h
  | k :: l, m, m', h => by
    simp only [frzM]
    refine frzM_same ?_
    unfold setMem
    by_cases e : i = k
    · subst e; rw [if_pos rfl, if_pos rfl, h]
    · rw [if_neg e, if_neg e, h]
theorem stepO_mem_far {s : St} {nid : Nat} {o : Oper} {x : Option Out} {i : Nat} (h : ∀ y, x = some y → i ∉ idsWritten nid y) : (stepO s nid o x).mem i = s.mem i := by
  cases x with
  | none => rfl
  | some y =>
    have h := h y rfl
    unfold idsWritten at h
    simp only [List.mem_append, not_or] at h
    obtain ⟨⟨h1, h2⟩, h3⟩ := h
    simp only [stepO, putS, memApp]
    have e1 := frzM_far (m := s.mem) h1
    cases hw : y.wr with
    | none =>
      cases hn : y.nw with
      | none => exact e1
      | some b =>
        rw [hn] at h3
        simp only [setMem]
        rw [if_neg (by simpa using h3)]
        exact e1
    | some p =>
      obtain ⟨j, b'⟩ := p
      rw [hw] at h2
      have e2 : setMem (frzM s.mem y.frz) j b' i = s.mem i := by
        unfold setMem
        rw [if_neg (by simpa using h2)]
        exact e1
      cases hn : y.nw with
      | none => exact e2
      | some b =>
        rw [hn] at h3
        simp only
        unfold setMem at e2 ⊢
        rw [if_neg (by simpa using h3)]
        exact e2
theorem stepO_mem_same {s s' : St} {nid : Nat} {o : Oper} {x : Option Out} {i : Nat} (h : s.mem i = s'.mem i) : (stepO s nid o x).mem i = (stepO s' nid o x).mem i := by
  cases x with
  | none => exact h
  | some y =>
    simp only [stepO, putS, memApp]
    have e1 := frzM_same (l := y.frz) h
    have e2 : ∀ (k : Nat) (b : Option Blk) (m m' : Nat → Option Blk), m i = m' i → setMem m k b i = setMem m' k b i := fun k b m m' hm => by
      unfold setMem
      by_cases e : i = k
      · rw [if_pos e, if_pos e]
      · rw [if_neg e, if_neg e, hm]
    cases y.wr with
    | none =>
      cases y.nw with
      | none => exact e1
      | some b => exact e2 _ _ _ _ e1
    | some p =>
      cases y.nw with
      | none => exact e2 _ _ _ _ e1
      | some b => exact e2 _ _ _ _ (e2 _ _ _ _ e1)
def stL (l : List Oper) (n0 : Nat) (out : Nat → Option Out) (s0 : St) (L : Nat → Bool) : Nat → St
  | 0 => s0
  | k + 1 => match l[k]? with
    | some o => if L k = true then stepO (stL l n0 out s0 L k) (n0 + k) o (out k) else stL l n0 out s0 L k
    | none => stL l n0 out s0 L k
section
variable {l : List Oper} {n0 : Nat} {out : Nat → Option Out} {s0 : St}
/-- Two sets of operations agree on what is told of a slot, if they agree on who writes it. -/
theorem stL_slot {L M : Nat → Bool} {t : Nat} (h : ∀ k o, l[k]? = some o → o.dst = some t → L k = M k) : ∀ k, (stL l n0 out s0 L k).slots t = (stL l n0 out s0 M k).slots t
  | 0 => rfl
  | k + 1 => by
    simp only [stL]
    cases ho : l[k]? with
    | none => exact stL_slot h k
    | some o =>
      simp only
      have ih := stL_slot h k
      by_cases hd : o.dst = some t
      · have := h k o ho hd
        rw [this]
        split
        · rw [stepO_slot, stepO_slot, if_pos hd, if_pos hd]
        · exact ih
      · have e : ∀ (s : St) x, (stepO s (n0 + k) o x).slots t = s.slots t := fun s x => by rw [stepO_slot, if_neg hd]
        split
        · split
          · rw [e, e]; exact ih
          · rw [e]; exact ih
        · split
          · rw [e]; exact ih
          · exact ih
theorem stL_mem {L M : Nat → Bool} {i : Nat} (h : ∀ k o y, l[k]? = some o → out k = some y → i ∈ idsWritten (n0 + k) y → L k = M k) : ∀ k, (stL l n0 out s0 L k).mem i = (stL l n0 out s0 M k).mem i
  | 0 => rfl
  | k + 1 => by
    simp only [stL]
    cases ho : l[k]? with
    | none => exact stL_mem h k
    | some o =>
      simp only
      have ih := stL_mem h k
      by_cases hd : ∃ y, out k = some y ∧ i ∈ idsWritten (n0 + k) y
      · obtain ⟨y, hy, hi⟩ := hd
        have := h k o y ho hy hi
        rw [this]
        split
        · exact stepO_mem_same ih
        · exact ih
      · have e : ∀ (s : St), (stepO s (n0 + k) o (out k)).mem i = s.mem i := fun s => stepO_mem_far fun y hy hi => hd ⟨y, hy, hi⟩
        split
        · split
          · rw [e, e]; exact ih
          · rw [e]; exact ih
        · split
          · rw [e]; exact ih
          · exact ih
end

variable {W0 : Fix} {R0 : Nat → Prop}
theorem exec_anyC (hT : TabOk P T) {n0 : Nat} {l : List Oper} (hB : backB l.toArray = true) {s0 : St} {Q' : St → Prop} (hE : Exec P T l.toArray ns n0 l s0 [] (fun s' log => okLog l log = true ∧ Q' s'))
    {E : Env} {a : Act} {w : World} (hs : Sim W0 R0 ns (· < n0) s0 E a w) {Q : Exit → Act → World → Prop} (hQ : ∀ s' E' a' w', Sim W0 R0 ns (· < n0 + l.length) s' E' a' w' → Q' s' → Q .normal a' w') : wpAny P .any l.toArray Q l.toArray.size (Array.replicate l.toArray.size false) a { w with drawn := w.drawn + 1 } := by
  obtain ⟨st, out, log, h0, ht, hlog, hq⟩ := exec_trace l n0 s0 [] hE
  rw [List.nil_append] at hlog
  -- the text's own states
  have text : ∀ (k j : Nat), j ≤ k → k ≤ l.length → stL l n0 out s0 (fun i => decide (i < k)) j = st j := by
    intro k j
    induction j with
    | zero => intro _ _; exact h0.symm
    | succ j ih =>
      intro hj hk
      have hjl : l[j]? = some l[j] := List.getElem?_eq_getElem (by omega)
      simp only [stL, hjl]
      rw [if_pos (by simp; omega), ih (by omega) hk]
      exact (ht.next j _ hjl).symm
  have textE : ∀ (k : Nat), k ≤ l.length → ∀ j, k ≤ j → stL l n0 out s0 (fun i => decide (i < k)) j = st k := by
    intro k hk j
    induction j with
    | zero =>
      intro hj
      obtain rfl : k = 0 := by omega
      exact h0.symm
    | succ j ih =>
      intro hj
      rcases Nat.lt_or_ge j k with h | h
      · obtain rfl : k = j + 1 := by omega
        exact text (j + 1) (j + 1) (Nat.le_refl _) hk
      · simp only [stL]
        cases l[j]? with
        | none => exact ih h
        | some o => simp only; rw [if_neg (by simp; omega)]; exact ih h
  let Closed (L : Nat → Bool) : Prop := ∀ i k, Anc l i k → k < l.length → L k = true → L i = true
  have conf : ∀ {i k : Nat} {oi ok : Oper}, i < k → l[i]? = some oi → l[k]? = some ok → ∀ x, ((x ∈ (footOf l.toArray (n0 + i) (st i) oi (out i)).wr ∧ (x ∈ (footOf l.toArray (n0 + k) (st k) ok (out k)).rd ∨ x ∈ (footOf l.toArray (n0 + k) (st k) ok (out k)).wr)) ∨ (x ∈ (footOf l.toArray (n0 + i) (st i) oi (out i)).rd ∧ x ∈ (footOf l.toArray (n0 + k) (st k) ok (out k)).wr)) → Anc l i k :=
    fun {i k oi ok} hik hi hk x hx => okLog_anc hlog hik (ht.foot i oi hi) (ht.foot k ok hk) hx
  have wr_slot : ∀ {k : Nat} {o : Oper} {t : Nat}, o.dst = some t → 2 * t ∈ (footOf l.toArray (n0 + k) (st k) o (out k)).wr := fun {k o t} hd => by
    simp only [footOf, hd, Option.toList_some, List.map_cons, List.map_nil]
    exact List.mem_append_left _ (List.mem_singleton.2 rfl)
  have wr_mem : ∀ {k : Nat} {o : Oper} {y : Out} {i : Nat}, out k = some y → i ∈ idsWritten (n0 + k) y → 2 * i + 1 ∈ (footOf l.toArray (n0 + k) (st k) o (out k)).wr := fun {k o y i} hy hi => by
    simp only [footOf, hy]
    exact List.mem_append_right _ (List.mem_map.2 ⟨i, hi, rfl⟩)
  -- what operation k sees
  have see : ∀ (L : Nat → Bool) (k : Nat) (o : Oper), l[k]? = some o → L k = false → Closed L → (∀ i, Anc l i k → L i = true) → ∀ x, (x ∈ (footOf l.toArray (n0 + k) (st k) o (out k)).rd ∨ x ∈ (footOf l.toArray (n0 + k) (st k) o (out k)).wr) →
      ∀ i oi, l[i]? = some oi → x ∈ (footOf l.toArray (n0 + i) (st i) oi (out i)).wr → i ≠ k → L i = decide (i < k) := by
    intro L k o hk hLk hC hA x hx i oi hi hw hne
    rcases Nat.lt_or_gt_of_ne hne with h | h
    · rw [decide_eq_true h]
      exact hA i (conf h hi hk x (.inl ⟨hw, hx⟩))
    · rw [decide_eq_false (by omega)]
      have hanc : Anc l k i := conf h hk hi x (by
        rcases hx with hx | hx
        · exact .inr ⟨hx, hw⟩
        · exact .inl ⟨hx, .inr hw⟩)
      cases hLi : L i with
      | false => rfl
      | true =>
        have := hC k i hanc (List.getElem?_eq_some_iff.1 hi).1 hLi
        rw [hLk] at this
        cases this
  have see_slot : ∀ (L : Nat → Bool) (k : Nat) (o : Oper), l[k]? = some o → L k = false → Closed L → (∀ i, Anc l i k → L i = true) → ∀ t, 2 * t ∈ (footOf l.toArray (n0 + k) (st k) o (out k)).rd → (stL l n0 out s0 L l.length).slots t = (st k).slots t := by
    intro L k o hk hLk hC hA t hx
    have hkl := (List.getElem?_eq_some_iff.1 hk).1
    rw [← textE k (by omega) l.length (by omega)]
    refine stL_slot (fun i oi hi hd => ?_) _
    by_cases e : i = k
    · subst e; rw [hLk]; simp
    · exact see L k o hk hLk hC hA _ (.inl hx) i oi hi (wr_slot hd) e
  have see_mem : ∀ (L : Nat → Bool) (k : Nat) (o : Oper), l[k]? = some o → L k = false → Closed L → (∀ i, Anc l i k → L i = true) → ∀ t, (2 * t + 1 ∈ (footOf l.toArray (n0 + k) (st k) o (out k)).rd ∨ 2 * t + 1 ∈ (footOf l.toArray (n0 + k) (st k) o (out k)).wr) → (stL l n0 out s0 L l.length).mem t = (st k).mem t := by
    intro L k o hk hLk hC hA t hx
    have hkl := (List.getElem?_eq_some_iff.1 hk).1
    rw [← textE k (by omega) l.length (by omega)]
    refine stL_mem (fun i oi y hi hy hd => ?_) _
    by_cases e : i = k
    · subst e; rw [hLk]; simp
    · exact see L k o hk hLk hC hA _ hx i oi hi (wr_mem hy hd) e
  -- operation k is met
  have meet : ∀ (L L' : Nat → Bool) (k : Nat) (o : Oper), l[k]? = some o → L k = false → Closed L → (∀ i, Anc l i k → L i = true) → (∀ i, L' i = if i = k then true else L i) → stL l n0 out s0 L' l.length = stepO (stL l n0 out s0 L l.length) (n0 + k) o (out k) := by
    intro L L' k o hk hLk hC hA hL'
    have hkl := (List.getElem?_eq_some_iff.1 hk).1
    have hnext := ht.next k o hk
    have e1 : ∀ t, (stL l n0 out s0 L' l.length).slots t = (stepO (stL l n0 out s0 L l.length) (n0 + k) o (out k)).slots t := by
      intro t
      by_cases hd : o.dst = some t
      · rw [stL_slot (M := fun i => decide (i < k + 1)) (fun i oi hi hdi => ?_) _, textE (k + 1) (by omega) l.length (by omega), hnext, stepO_slot, stepO_slot, if_pos hd, if_pos hd]
        rw [hL']
        by_cases e : i = k
        · subst e; simp
        · rw [if_neg e, see L k o hk hLk hC hA _ (.inr (wr_slot hd)) i oi hi (wr_slot hdi) e]
          by_cases h : i < k
          · rw [decide_eq_true h, decide_eq_true (by omega)]
          · rw [decide_eq_false h, decide_eq_false (by omega)]
      · rw [stepO_slot, if_neg hd]
        refine stL_slot (fun i oi hi hdi => ?_) _
        rw [hL', if_neg]
        rintro rfl
        rw [hk] at hi
        cases hi
        exact hd hdi
    have e2 : ∀ i, (stL l n0 out s0 L' l.length).mem i = (stepO (stL l n0 out s0 L l.length) (n0 + k) o (out k)).mem i := by
      intro t
      by_cases hd : ∃ y, out k = some y ∧ t ∈ idsWritten (n0 + k) y
      · obtain ⟨y, hy, hi⟩ := hd
        have hw : 2 * t + 1 ∈ (footOf l.toArray (n0 + k) (st k) o (out k)).wr := wr_mem hy hi
        rw [stL_mem (M := fun i => decide (i < k + 1)) (fun i oi y' hi' hy' hdi => ?_) _, textE (k + 1) (by omega) l.length (by omega), hnext]
        · exact (stepO_mem_same (see_mem L k o hk hLk hC hA t (.inr hw))).symm
        · rw [hL']
          by_cases e : i = k
          · subst e; simp
          · rw [if_neg e, see L k o hk hLk hC hA _ (.inr hw) i oi hi' (wr_mem hy' hdi) e]
            by_cases h : i < k
            · rw [decide_eq_true h, decide_eq_true (by omega)]
            · rw [decide_eq_false h, decide_eq_false (by omega)]
      · rw [stepO_mem_far fun y hy hi => hd ⟨y, hy, hi⟩]
        refine stL_mem (fun i oi y hi hy hdi => ?_) _
        rw [hL', if_neg]
        rintro rfl
        exact hd ⟨y, hy, hdi⟩
    have := St.mk.injEq (stL l n0 out s0 L' l.length).slots (stL l n0 out s0 L' l.length).mem (stepO (stL l n0 out s0 L l.length) (n0 + k) o (out k)).slots (stepO (stL l n0 out s0 L l.length) (n0 + k) o (out k)).mem
    exact this.mpr ⟨funext e1, funext e2⟩
  let DL (L : Nat → Bool) (i : Nat) : Prop := i < n0 ∨ ∃ k, k < l.length ∧ L k = true ∧ i = n0 + k
  have key : ∀ (fuel : Nat) (listed : Array Bool) (E : Env) (a : Act) (w : World), listed.size = l.toArray.size → leftOf l.toArray.size listed ≤ fuel → Closed (fun i => listed.getD i true) →
      Sim W0 R0 ns (DL fun i => listed.getD i true) (stL l n0 out s0 (fun i => listed.getD i true) l.length) E a w → wpAny P .any l.toArray Q fuel listed a w := by
    have fin : ∀ (listed : Array Bool) (E : Env) (a : Act) (w : World), listed.size = l.toArray.size → Sim W0 R0 ns (DL fun i => listed.getD i true) (stL l n0 out s0 (fun i => listed.getD i true) l.length) E a w → Region.ready .any l.toArray listed = [] → Q .normal a w := by
      intro listed E a w hsz hsim hr
      have hall := all_listed hsz hB hr
      have e : stL l n0 out s0 (fun i => listed.getD i true) l.length = st l.length := by
        rw [← text l.length l.length (Nat.le_refl _) (Nat.le_refl _)]
        have q1 : ∀ t, (stL l n0 out s0 (fun i => listed.getD i true) l.length).slots t = (stL l n0 out s0 (fun i => decide (i < l.length)) l.length).slots t := fun t => stL_slot (fun i oi hi _ => by
          have hil := (List.getElem?_eq_some_iff.1 hi).1
          rw [hall i (by simpa using hil), decide_eq_true hil]) _
        have q2 : ∀ t, (stL l n0 out s0 (fun i => listed.getD i true) l.length).mem t = (stL l n0 out s0 (fun i => decide (i < l.length)) l.length).mem t := fun t => stL_mem (fun i oi y hi _ _ => by
          have hil := (List.getElem?_eq_some_iff.1 hi).1
          rw [hall i (by simpa using hil), decide_eq_true hil]) _
        have := St.mk.injEq (stL l n0 out s0 (fun i => listed.getD i true) l.length).slots (stL l n0 out s0 (fun i => listed.getD i true) l.length).mem (stL l n0 out s0 (fun i => decide (i < l.length)) l.length).slots (stL l n0 out s0 (fun i => decide (i < l.length)) l.length).mem
        exact this.mpr ⟨funext q1, funext q2⟩
      rw [e] at hsim
      exact hQ _ E a w (hsim.weak fun i hi => by
        rcases hi with hi | ⟨k, hk, _, rfl⟩ <;> omega) hq
    intro fuel
    induction fuel with
    | zero =>
      intro listed E a w hsz hl hC hsim
      have hr : Region.ready .any l.toArray listed = [] := by
        rw [List.eq_nil_iff_forall_not_mem]
        intro i hi
        have h1 := (mem_ready.1 hi).1
        have h2 : i ∈ (List.range l.toArray.size).filter fun j => !listed.getD j true := by
          rw [List.mem_filter]
          refine ⟨List.mem_range.2 ?_, by rw [h1]; rfl⟩
          obtain ⟨o, ho, _⟩ := (mem_ready.1 hi).2
          exact (Array.getElem?_eq_some_iff.1 ho).1
        unfold leftOf at hl
        rw [List.length_eq_zero_iff.1 (Nat.le_zero.1 hl)] at h2
        cases h2
      exact ⟨hr, fin listed E a w hsz hsim hr⟩
    | succ fuel ih =>
      intro listed E a w hsz hl hC hsim
      refine ⟨fun hr => fin listed E a w hsz hsim hr, fun k hk => ?_⟩
      obtain ⟨hun, o, ho, hdep⟩ := mem_ready.1 hk
      have hkl : k < l.length := by have := (Array.getElem?_eq_some_iff.1 ho).1; simpa using this
      have hlk : l[k]? = some o := by simpa using ho
      have hA : ∀ i, Anc l i k → listed.getD i true = true := by
        intro i hi
        cases hi with
        | one h1 h2 h3 =>
          rw [hlk] at h1
          cases h1
          have h4 := hdep _ (by simpa using h2) h3
          rename_i e
          rcases Nat.lt_or_ge e.on listed.size with h5 | h5
          · simp [h5] at h4 ⊢; exact h4
          · simp [Array.getElem?_eq_none h5] at h4
        | more h1 h2 h3 h4 =>
          rw [hlk] at h1
          cases h1
          rename_i e
          have h5 := hdep _ (by simpa using h2) h3
          rcases Nat.lt_or_ge e.on listed.size with h6 | h6
          · refine hC i e.on h4 (by simpa [hsz] using h6) ?_
            simp [h6] at h5 ⊢; exact h5
          · simp [Array.getElem?_eq_none h6] at h5
      have hL' : ∀ i, (listed.setIfInBounds k true).getD i true = if i = k then true else listed.getD i true := fun i => by
        by_cases e : i = k
        · subst e; rw [if_pos rfl]; simp [hsz, hkl]
        · rw [if_neg e]; exact getD_set_ne true (Ne.symm e)
      have hmeet := meet (fun i => listed.getD i true) (fun i => (listed.setIfInBounds k true).getD i true) k o hlk hun hC hA hL'
      have hC' : Closed (fun i => (listed.setIfInBounds k true).getD i true) := by
        intro i j hij hj hLj
        have hLj := (hL' j).symm.trans hLj
        refine (hL' i).trans ?_
        split
        · rfl
        · rename_i hne
          by_cases e : j = k
          · subst e; exact hA i hij
          · rw [if_neg e] at hLj; exact hC i j hij hj hLj
      have hD' : ∀ i, (i = n0 + k ∨ DL (fun i => listed.getD i true) i) → DL (fun i => (listed.setIfInBounds k true).getD i true) i := by
        rintro i (rfl | hi | ⟨j, hj, hLj, rfl⟩)
        · exact .inr ⟨k, hkl, (hL' k).trans (if_pos rfl), rfl⟩
        · exact .inl hi
        · refine .inr ⟨j, hj, (hL' j).trans ?_, rfl⟩
          split
          · rfl
          · exact hLj
      have hDn : ¬ DL (fun i => listed.getD i true) (n0 + k) := by
        rintro (hi | ⟨j, hj, hLj, he⟩)
        · omega
        · obtain rfl : j = k := by omega
          have hLj := hun.symm.trans hLj
          cases hLj
      have hstep := ht.step k o hlk
      have hseeS : ∀ t, 2 * t ∈ (footOf l.toArray (n0 + k) (st k) o (out k)).rd → (stL l n0 out s0 (fun i => listed.getD i true) l.length).slots t = (st k).slots t := see_slot _ k o hlk hun hC hA
      have hgs : ∀ b, guardS l.toArray ns (st k) o = some b → guardS l.toArray ns (stL l n0 out s0 (fun i => listed.getD i true) l.length) o = some b := by
        intro b hb
        unfold guardS at hb ⊢
        have hdo : dstOk ns o.dst = true := by by_cases hd : dstOk ns o.dst = true; exact hd; rw [if_neg hd] at hb; cases hb
        rw [if_pos hdo] at hb ⊢
        cases hgd : o.guard with
        | none => rw [hgd] at hb; exact hb
        | some p =>
          obtain ⟨j, want⟩ := p
          rw [hgd] at hb
          simp only at hb ⊢
          cases hj : (l.toArray[j]?).bind (·.dst) with
          | none => rw [hj] at hb; cases hb
          | some t =>
            rw [hj] at hb
            simp only at hb ⊢
            rw [hseeS t]
            · exact hb
            · simp only [footOf, guardSlot, hgd, hj]
              exact List.mem_append_left _ (by simp)
      refine wpOp_of ho fun K' hK' => ?_
      have hlf := leftOf_set hsz hun fuel hl
      rcases hstep with ⟨x, hx, hg, hst⟩ | ⟨hx, hg⟩
      · rw [guard_ok hsim (hgs _ hg), if_pos rfl]
        have hloc : Step P T ns (n0 + k) (stL l n0 out s0 (fun i => listed.getD i true) l.length) o.op x := by
          refine step_local hst (fun t htt => hseeS t ?_) (fun i hi => see_mem _ k o hlk hun hC hA i (.inl ?_)) fun i hi => see_mem _ k o hlk hun hC hA i (.inl ?_)
          · simp only [footOf, hx]
            exact List.mem_append_right _ (List.mem_append_left _ (List.mem_map.2 ⟨t, htt, rfl⟩))
          · simp only [footOf, hx]
            exact List.mem_append_right _ (List.mem_append_right _ (List.mem_append_left _ (List.mem_map.2 ⟨i, hi, rfl⟩)))
          · simp only [footOf, hx]
            exact List.mem_append_right _ (List.mem_append_right _ (List.mem_append_right _ (List.mem_map.2 ⟨i, hi, rfl⟩)))
        refine step_wp hT hsim hDn (N := n0 + l.length) (fun i hi => by rcases hi with hi | ⟨j, hj, _, rfl⟩ <;> omega) (guardS_dst hg) hloc fun E' a' w' hs' => hK' _ _ ?_
        refine ih _ E' a' w' (by simpa using hsz) hlf hC' ?_
        rw [hmeet, hx]
        exact hs'.weak hD'
      · rw [guard_ok hsim (hgs _ hg), if_neg (by simp)]
        refine hK' _ _ (ih _ E _ w (by simpa using hsz) hlf hC' ?_)
        rw [hmeet, hx]
        exact (hsim.put (guardS_dst hg) rep_no).weak fun i hi => hD' i (.inr hi)
  have hL0 : ∀ i, i < l.length → (Array.replicate l.toArray.size false).getD i true = false := fun i hi => by simp [hi]
  have e0 : stL l n0 out s0 (fun i => (Array.replicate l.toArray.size false).getD i true) l.length = s0 := by
    refine Eq.trans ?_ ((textE 0 (Nat.zero_le _) l.length (Nat.zero_le _)).trans h0)
    have q1 : ∀ t, (stL l n0 out s0 (fun i => (Array.replicate l.toArray.size false).getD i true) l.length).slots t = (stL l n0 out s0 (fun i => decide (i < 0)) l.length).slots t := fun t =>
      stL_slot (fun i oi hi _ => by rw [hL0 i (List.getElem?_eq_some_iff.1 hi).1]; rfl) _
    have q2 : ∀ t, (stL l n0 out s0 (fun i => (Array.replicate l.toArray.size false).getD i true) l.length).mem t = (stL l n0 out s0 (fun i => decide (i < 0)) l.length).mem t := fun t =>
      stL_mem (fun i oi y hi _ _ => by rw [hL0 i (List.getElem?_eq_some_iff.1 hi).1]; rfl) _
    have := St.mk.injEq (stL l n0 out s0 (fun i => (Array.replicate l.toArray.size false).getD i true) l.length).slots (stL l n0 out s0 (fun i => (Array.replicate l.toArray.size false).getD i true) l.length).mem (stL l n0 out s0 (fun i => decide (i < 0)) l.length).slots (stL l n0 out s0 (fun i => decide (i < 0)) l.length).mem
    exact this.mpr ⟨funext q1, funext q2⟩
  refine key l.toArray.size _ E a _ (by simp) (by unfold leftOf; exact Nat.le_trans (List.length_filter_le _ _) (by simp)) (fun i k hik hk hLk => by have hLk := (hL0 k hk).symm.trans hLk; cases hLk) ?_
  rw [e0]
  exact hs.drew.weak fun i hi => .inl hi
theorem exec_any (hT : TabOk P T) (hm : P.follows .mixedOrders = true) {id n0 : Nat} {l : List Oper} (hB : backB l.toArray = true) {s0 : St} {Q' : St → Prop} (hE : Exec P T l.toArray ns n0 l s0 [] (fun s' log => okLog l log = true ∧ Q' s'))
    {E : Env} {a : Act} {w : World} (hs : Sim W0 R0 ns (· < n0) s0 E a w) {Q : Exit → Act → World → Prop} (hQ : ∀ s' E' a' w', Sim W0 R0 ns (· < n0 + l.length) s' E' a' w' → Q' s' → Q .normal a' w') : (Code.region id l.toArray true).wp P Q a w :=
  wp_region_any hm (exec_anyC hT hB hE hs hQ)
end Go.Proofs.Ytjjoiihgpkhndaa.Eng

/-
  The engine, part O: control, loops, functions. No program is named here.
-/
namespace Go.Proofs.Ytjjoiihgpkhndaa.Eng
open Go.RowKit
variable {P : Program} {T : Tab} {tp : Bool} {ns : Nat}

abbrev Post := Exit → Nat → St → Prop
/-- From this state on, the code comes to an end as told; n: names of own blocks that are free from there on. -/
def AWp (P : Program) (tp : Bool) (ns : Nat) (c : Code) (n : Nat) (s : St) (Q : Post) : Prop :=
  ∀ (W0 : Fix) (R0 : Nat → Prop) (E : Env) (a : Act) (w : World), (W0.plain ∧ (tp = true → ∀ b, W0.U b → R0 b)) → Sim W0 R0 ns (· < n) s E a w → c.wp P (fun e a' w' => ∃ n' s' E', Sim W0 R0 ns (· < n') s' E' a' w' ∧ Q e n' s') a w
theorem AWp.mono {c : Code} {n : Nat} {s : St} {Q Q' : Post} (h : AWp P tp ns c n s Q) (hq : ∀ e n s, Q e n s → Q' e n s) : AWp P tp ns c n s Q' :=
  fun W0 R0 E a w ht hs => wp_mono (h W0 R0 E a w ht hs) fun _ _ _ ⟨n', s', E', h1, h2⟩ => ⟨n', s', E', h1, hq _ _ _ h2⟩
def thenP (k : Nat → St → Prop) (Q : Post) : Post
  | .normal, n, s => k n s
  | e, n, s => Q e n s
def blockP (id : Nat) (Q : Post) : Post
  | .exit id', n, s => if id' = id then Q .normal n s else Q (.exit id') n s
  | e, n, s => Q e n s
theorem AWp.seq {x y : Code} {n : Nat} {s : St} {Q : Post} (h : AWp P tp ns x n s (thenP (fun n s => AWp P tp ns y n s Q) Q)) : AWp P tp ns (.seq x y) n s Q := fun W0 R0 E a w ht hs => by
  refine wp_seq (wp_mono (h W0 R0 E a w ht hs) ?_)
  rintro e a' w' ⟨n', s', E', h1, h2⟩
  cases e with
  | normal => exact h2 W0 R0 E' a' w' ht h1
  | _ => exact ⟨n', s', E', h1, h2⟩
theorem AWp.skip {n : Nat} {s : St} {Q : Post} (h : Q .normal n s) : AWp P tp ns .skip n s Q := fun _ _ E _ _ _ hs => wp_skip ⟨n, s, E, hs, h⟩
theorem AWp.exit {id n : Nat} {s : St} {Q : Post} (h : Q (.exit id) n s) : AWp P tp ns (.exit id) n s Q := fun _ _ E _ _ _ hs => wp_exit ⟨n, s, E, hs, h⟩
theorem AWp.ret {n : Nat} {s : St} {Q : Post} (h : Q .ret n s) : AWp P tp ns .ret n s Q := fun _ _ E _ _ _ hs => wp_ret ⟨n, s, E, hs, h⟩
theorem AWp.block {id n : Nat} {c : Code} {s : St} {Q : Post} (h : AWp P tp ns c n s (blockP id Q)) : AWp P tp ns (.block id c) n s Q := fun W0 R0 E a w ht hs => by
  refine wp_block (wp_mono (h W0 R0 E a w ht hs) ?_)
  rintro e a' w' ⟨n', s', E', h1, h2⟩
  cases e with
  | exit id' =>
    simp only [blockP] at h2
    simp only [Exit.inBlock]
    split at h2
    · rename_i e; rw [if_pos e]; exact ⟨n', s', E', h1, h2⟩
    · rename_i e; rw [if_neg e]; exact ⟨n', s', E', h1, h2⟩
  | _ => exact ⟨n', s', E', h1, h2⟩
theorem AWp.scope {c : Code} {n : Nat} {s : St} {Q : Post} (h : AWp P tp ns c n s (fun e n s => (∀ l, e ≠ .goto l) ∧ Q e n s)) : AWp P tp ns (.scope c) n s Q := fun W0 R0 E a w ht hs => by
  refine wp_scope_straight (wp_mono (h W0 R0 E a w ht hs) ?_)
  rintro e a' w' ⟨n', s', E', h1, h2, h3⟩
  cases e with
  | goto l => exact absurd rfl (h2 l)
  | _ => exact ⟨n', s', E', h1, h3⟩
theorem AWp.cond {c : Operand} {x y : Code} {n : Nat} {s : St} {Q : Post} {t : Bool} (hc : opd ns s c = some (.d (.val (.bool t)))) (h1 : t = true → AWp P tp ns x n s Q) (h2 : t = false → AWp P tp ns y n s Q) : AWp P tp ns (.cond c x y) n s Q :=
  fun W0 R0 E a w ht hs => wp_cond_split (rep_bool (hs.opd hc)) (fun h => h1 h W0 R0 E a w ht hs) (fun h => h2 h W0 R0 E a w ht hs)
theorem AWp.region (hT : TabOk P T) {id n : Nat} {l : List Oper} {s : St} {Q : Post} (h : Exec P T l.toArray ns n l s [] (fun s' _ => Q .normal (n + l.length) s')) : AWp P tp ns (.region id l.toArray false) n s Q :=
  fun _ _ _ _ _ _ hs => wp_region_lit (exec_list hT l n h hs fun s' E' _ _ _ h1 h2 => ⟨_, s', E', h1, h2⟩)
theorem AWp.draws (hT : TabOk P T) (hm : P.follows .mixedOrders = true) {id n : Nat} {l : List Oper} {s : St} {Q : Post} (hB : backB l.toArray = true) (h : Exec P T l.toArray ns n l s [] (fun s' log => okLog l log = true ∧ Q .normal (n + l.length) s')) : AWp P tp ns (.region id l.toArray true) n s Q :=
  fun _ _ _ _ _ _ hs => exec_any hT hm hB h hs fun s' E' _ _ h1 h2 => ⟨_, s', E', h1, h2⟩

/-! ### Loops -/
theorem wp_loop_ix {ι : Type} {Q : Exit → Act → World → Prop} {a : Act} {w : World} {c : Code} (I : ι → Act → World → Prop) (μ : ι → Nat) {i : ι} (h₀ : I i a w)
    (round : ∀ i a w, I i a w → c.wp P (Exit.then (fun a' w' => ∃ j, I j a' w' ∧ μ j < μ i) Q) a w) : (Code.loop c).wp P Q a w := by
  intro b k cs
  have key : ∀ n i a w, μ i = n → I i a w →
      ∃ e a' w', Q e a' w' ∧ Arrives P (lone (b.at a (.code c :: .inLoop c :: k)) cs w) b k cs e a' w' := by
    intro n
    induction n using Nat.strongRecOn with
    | _ n ih =>
      intro i a w hn hI
      obtain ⟨e, a₁, w₁, hq, harr⟩ := round i a w hI b (.inLoop c :: k) cs
      cases e with
      | normal =>
        obtain ⟨j, hI₁, hlt⟩ := hq
        obtain ⟨e₂, a₂, w₂, hq₂, harr₂⟩ := ih (μ j) (hn ▸ hlt) j a₁ w₁ rfl hI₁
        exact ⟨e₂, a₂, w₂, hq₂, .of_steps (Steps.trans harr (.one step_inLoop)) harr₂⟩
      | exit id => exact ⟨_, a₁, w₁, hq, .pass (x := .inLoop c) rfl (fun _ _ => .inl (by simp)) harr⟩
      | goto l => exact ⟨_, a₁, w₁, hq, .pass (x := .inLoop c) rfl (fun _ _ => .inl (by simp)) harr⟩
      | ret => exact ⟨_, a₁, w₁, hq, .pass (x := .inLoop c) rfl (fun _ _ => .inl (by simp)) harr⟩
      | panic ch => exact ⟨_, a₁, w₁, hq, .pass (x := .inLoop c) rfl (fun _ _ => .inl (by simp)) harr⟩
      | outgrown => exact ⟨_, a₁, w₁, hq, .pass (x := .inLoop c) rfl (fun _ _ => .inl (by simp)) harr⟩
  obtain ⟨e, a', w', hq, harr⟩ := key _ i a w rfl h₀
  exact ⟨e, a', w', hq, .of_steps (.one step_loop) harr⟩

/-! ### What is told of a state, told less, with other names for the own blocks -/
def ren0 (n : Nat) (σ : Nat → Nat) : SV → Option SV
  | .d x => some (.d x)
  | .nilS => some .nilS
  | .lin i k => if i < n then some (.lin (σ i) k) else none
  | .own i k z => if i < n then some (.own (σ i) k z) else none
  | .rptr cs => some (.rptr cs)
  | .ptr i r j => if i < n then some (.ptr (σ i) r j) else none
  | _ => none
def ren0s (n : Nat) (σ : Nat → Nat) : List SV → Option (List SV)
  | [] => some []
  | c :: l => match ren0 n σ c, ren0s n σ l with
    | some d, some r => some (d :: r)
    | _, _ => none
def renC (n : Nat) (σ : Nat → Nat) : SV → Option SV
  | .d x => some (.d x)
  | .nilS => some .nilS
  | .lin i k => if i < n then some (.lin (σ i) k) else none
  | .own i k z => if i < n then some (.own (σ i) k z) else none
  | .rptr cs => some (.rptr cs)
  | .ptr i r j => if i < n then some (.ptr (σ i) r j) else none
  | .fn f xs ys => match ren0s n σ xs, ren0s n σ ys with
    | some a, some b => some (.fn f a b)
    | _, _ => none
  | _ => none
def renCs (n : Nat) (σ : Nat → Nat) : List SV → Option (List SV)
  | [] => some []
  | c :: l => match renC n σ c, renCs n σ l with
    | some d, some r => some (d :: r)
    | _, _ => none
def renS (n : Nat) (σ : Nat → Nat) : SV → Option SV
  | .agg cs => match renCs n σ cs with
    | some l => some (.agg l)
    | none => none
  | x => renC n σ x
def renB (n : Nat) (σ : Nat → Nat) : Blk → Option Blk
  | .box t cs f => match renCs n σ cs with
    | some l => some (.box t l f)
    | none => none
  | .row t z rows f => some (.row t z rows f)
  | .loop .. => none
  | .map .. => none
  | .part .. => none
  | .iter .. => none
def Env.ren (E : Env) (n : Nat) (σ : Nat → Nat) : Env := { ro := E.ro, dom := fun i => i < n ∧ E.dom (σ i), home := fun i => E.home (σ i) }
theorem ren0_rep {E : Env} {w : World} {n : Nat} {σ : Nat → Nat} {x y : SV} {v : Value} (h : ren0 n σ x = some y) (hy : Rep E w y v) : Rep (E.ren n σ) w x v := by
  unfold ren0 at h
  split at h
  · cases h; cases hy with | d _ _ h => exact .d _ _ h
  · cases h; cases hy; exact .nilS
  · split at h
    · rename_i hi
      cases h
      cases hy with | lin _ _ h1 h2 h3 => exact Rep.lin (E := E.ren n σ) _ _ ⟨hi, h1⟩ h2 h3
    · cases h
  · split at h
    · rename_i hi
      cases h
      cases hy with | own _ _ _ h1 h2 => exact Rep.own (E := E.ren n σ) _ _ _ ⟨hi, h1⟩ h2
    · cases h
  · cases h; cases hy with | rptr _ b off f h1 h2 h3 h4 => exact .rptr _ b off f h1 h2 h3 h4
  · split at h
    · rename_i hi
      cases h
      cases hy with | ptr _ _ _ h1 => exact Rep.ptr (E := E.ren n σ) _ _ _ ⟨hi, h1⟩
    · cases h
  · cases h
theorem ren0s_spec {n : Nat} {σ : Nat → Nat} : ∀ {l r : List SV}, ren0s n σ l = some r → r.length = l.length ∧ ∀ (i : Nat) x, l[i]? = some x → ∃ y, r[i]? = some y ∧ ren0 n σ x = some y
  | [], r, h => by cases h; simp
  | c :: l, r, h => by
    simp only [ren0s] at h
    split at h
    · rename_i d r' h1 h2
      cases h
      obtain ⟨k1, k2⟩ := ren0s_spec h2
      refine ⟨by simp [k1], fun i x hx => ?_⟩
      match i with
      | 0 => simp only [List.getElem?_cons_zero, Option.some.injEq] at hx; subst hx; exact ⟨d, rfl, h1⟩
      | i + 1 => exact k2 i x (by simpa using hx)
    · cases h
theorem renC_rep {E : Env} {w : World} {n : Nat} {σ : Nat → Nat} {x y : SV} {v : Value} (h : renC n σ x = some y) (hy : Rep E w y v) : Rep (E.ren n σ) w x v := by
  cases x with
  | fn f xs ys =>
    simp only [renC] at h
    split at h
    · rename_i a b h1 h2
      cases h
      obtain ⟨k1, k2⟩ := ren0s_spec h1
      obtain ⟨l1, l2⟩ := ren0s_spec h2
      cases hy with
      | fn _ _ _ us vs u1 u2 u3 u4 =>
        refine .fn f xs ys us vs (u1.trans k1) (u2.trans l1) (fun i c v hc hv => ?_) fun i c v hc hv => ?_
        · obtain ⟨y, hy, hr⟩ := k2 i c hc
          exact ren0_rep hr (u3 i y v hy hv)
        · obtain ⟨y, hy, hr⟩ := l2 i c hc
          exact ren0_rep hr (u4 i y v hy hv)
    · cases h
  | und => exact ren0_rep h hy
  | d x => exact ren0_rep h hy
  | agg cs => exact ren0_rep h hy
  | nilS => exact ren0_rep h hy
  | lin i k => exact ren0_rep h hy
  | own i k z => exact ren0_rep h hy
  | rptr cs => exact ren0_rep h hy
  | ptr i r j => exact ren0_rep h hy
  | full rows => exact ren0_rep h hy
  | tup cs => exact ren0_rep h hy
  | yield id => exact ren0_rep h hy
  | sl i o k c => exact ren0_rep h hy
  | mp i => exact ren0_rep h hy
theorem renC_one {n : Nat} {σ : Nat → Nat} {x y : SV} (h : renC n σ x = some y) : x.one = y.one := by
  unfold renC at h
  split at h <;> first | (cases h; rfl) | (split at h <;> first | (cases h; rfl) | cases h) | cases h
theorem renCs_spec {n : Nat} {σ : Nat → Nat} : ∀ {l r : List SV}, renCs n σ l = some r → r.length = l.length ∧ ∀ (i : Nat) x, l[i]? = some x → ∃ y, r[i]? = some y ∧ renC n σ x = some y
  | [], r, h => by cases h; simp
  | c :: l, r, h => by
    simp only [renCs] at h
    split at h
    · rename_i d r' h1 h2
      cases h
      obtain ⟨k1, k2⟩ := renCs_spec h2
      refine ⟨by simp [k1], fun i x hx => ?_⟩
      match i with
      | 0 => simp only [List.getElem?_cons_zero, Option.some.injEq] at hx; subst hx; exact ⟨d, rfl, h1⟩
      | i + 1 => exact k2 i x (by simpa using hx)
    · cases h
theorem renS_rep {E : Env} {w : World} {n : Nat} {σ : Nat → Nat} {x y : SV} {v : Value} (h : renS n σ x = some y) (hy : Rep E w y v) : Rep (E.ren n σ) w x v := by
  unfold renS at h
  split at h
  · rename_i cs
    split at h
    · rename_i l hl
      cases h
      obtain ⟨k1, k2⟩ := renCs_spec hl
      cases hy with
      | agg _ vs h1 h2 h3 =>
        refine .agg _ _ (h1.trans k1) (fun c hc => ?_) fun i c v hc hv => ?_
        · obtain ⟨i, hi, rfl⟩ := List.getElem_of_mem hc
          obtain ⟨y, hy, hr⟩ := k2 i _ (List.getElem?_eq_getElem hi)
          rw [renC_one hr]
          exact h2 y (List.mem_of_getElem? hy)
        · obtain ⟨y, hy, hr⟩ := k2 i c hc
          exact renC_rep hr (h3 i y v hy hv)
    · cases h
  · exact renC_rep h hy
theorem renB_holds {E : Env} {w : World} {n : Nat} {σ : Nat → Nat} {b b' : Blk} {h : Home} (hb : renB n σ b = some b') (hh : Holds E w h b') : Holds (E.ren n σ) w h b ∧ b.frz = b'.frz := by
  unfold renB at hb
  split at hb
  · rename_i t cs f
    split at hb
    · rename_i l hl
      cases hb
      obtain ⟨k1, k2⟩ := renCs_spec hl
      cases hh with
      | box _ _ _ cur h1 h2 h3 h4 =>
        refine ⟨.box _ _ _ cur h1 (h2.trans k1) (fun c hc => ?_) fun i c v hc hv => ?_, rfl⟩
        · obtain ⟨i, hi, rfl⟩ := List.getElem_of_mem hc
          obtain ⟨y, hy, hr⟩ := k2 i _ (List.getElem?_eq_getElem hi)
          rw [renC_one hr]
          exact h3 y (List.mem_of_getElem? hy)
        · obtain ⟨y, hy, hr⟩ := k2 i c hc
          exact renC_rep hr (h4 i y v hy hv)
    · cases hb
  · cases hb
    cases hh with
    | row _ _ _ _ cur h1 h2 h3 h4 h5 h6 h7 h8 => exact ⟨.row _ _ _ _ cur h1 h2 h3 h4 h5 h6 h7 h8, rfl⟩
  · cases hb
  · cases hb
  · cases hb
  · cases hb

def mkSlots : List (Nat × SV) → Nat → SV
  | [] => fun _ => .und
  | (t, x) :: l => fun k => if k = t then x else mkSlots l k
def mkMem : List (Nat × Blk) → Nat → Option Blk
  | [] => fun _ => none
  | (t, x) :: l => fun k => if k = t then some x else mkMem l k
def mkSt (l : List (Nat × SV)) (m : List (Nat × Blk)) : St := ⟨mkSlots l, mkMem m⟩
/-- What a state says of the slots and blocks in a list; σ: which block has which name from now on. -/
structure Fits (n : Nat) (l : List (Nat × SV)) (m : List (Nat × Blk)) (σ : List Nat) (s : St) : Prop where
  len : σ.length = n
  slots : ∀ p ∈ l, renS n (fun i => σ.getD i 0) p.2 = some (s.slots p.1)
  mem : ∀ p ∈ m, p.1 < n ∧ ∃ b, s.mem (σ.getD p.1 0) = some b ∧ renB n (fun i => σ.getD i 0) p.2 = some b
  inj : σ.Nodup
theorem mkSlots_mem {l : List (Nat × SV)} {t : Nat} : mkSlots l t = .und ∨ ∃ p ∈ l, p.1 = t ∧ mkSlots l t = p.2 := by
  induction l with
  | nil => exact .inl rfl
  | cons p l ih =>
    obtain ⟨k, x⟩ := p
    simp only [mkSlots]
    by_cases e : t = k
    · exact .inr ⟨(k, x), List.mem_cons_self, e.symm, if_pos e⟩
    · rw [if_neg e]
      rcases ih with h | ⟨p, hp, h1, h2⟩
      · exact .inl h
      · exact .inr ⟨p, List.mem_cons_of_mem _ hp, h1, h2⟩
theorem mkMem_mem {l : List (Nat × Blk)} {t : Nat} {b : Blk} (h : mkMem l t = some b) : ∃ p ∈ l, p.1 = t ∧ b = p.2 := by
  induction l with
  | nil => cases h
  | cons p l ih =>
    obtain ⟨k, x⟩ := p
    simp only [mkMem] at h
    split at h
    · rename_i e; cases h; exact ⟨(k, b), List.mem_cons_self, e.symm, rfl⟩
    · obtain ⟨p, hp, h1, h2⟩ := ih h
      exact ⟨p, List.mem_cons_of_mem _ hp, h1, h2⟩
theorem Sim.fitsE {W0 : Fix} {R0 : Nat → Prop} {D : Nat → Prop} {s : St} {E : Env} {a : Act} {w : World} (hp : W0.plain) (h : Sim W0 R0 ns D s E a w) {n : Nat} {l : List (Nat × SV)} {m : List (Nat × Blk)} {σ : List Nat} (hf : Fits n l m σ s) :
    Sim W0 R0 ns (· < n) (mkSt l m) (E.ren n (fun i => σ.getD i 0)) a w := by
  refine ⟨h.below, h.ro0, h.ro1, h.rlt, h.size, h.dfr, fun t => ?_, fun i hi => hi.1, fun i b hi => ?_, fun i b hi => ?_, fun i b hi => ?_, fun i b hi => ?_, fun i j b c hi hj hij => ?_, fun i hi => absurd hi (hp.dom i), fun b hb => h.re0 b hb⟩
  · rcases mkSlots_mem (l := l) (t := t) with e | ⟨p, hp, rfl, e⟩
    · simp only [mkSt]; rw [e]; exact .und _
    · simp only [mkSt]; rw [e]; exact renS_rep (hf.slots p hp) (h.slot p.1)
  · obtain ⟨p, hp, rfl, rfl⟩ := mkMem_mem hi
    obtain ⟨h1, b, h2, h3⟩ := hf.mem p hp
    exact ⟨h1, h.live _ b h2⟩
  · obtain ⟨p, hp, rfl, rfl⟩ := mkMem_mem hi
    obtain ⟨h1, b, h2, h3⟩ := hf.mem p hp
    exact (renB_holds h3 (h.mem _ b h2)).1
  · obtain ⟨p, hp, rfl, rfl⟩ := mkMem_mem hi
    obtain ⟨h1, b, h2, h3⟩ := hf.mem p hp
    exact h.base _ b h2
  · obtain ⟨p, hp, rfl, rfl⟩ := mkMem_mem hi
    obtain ⟨h1, b, h2, h3⟩ := hf.mem p hp
    rw [(renB_holds h3 (h.mem _ b h2)).2]
    exact h.frz _ b h2
  · obtain ⟨p, hp, rfl, rfl⟩ := mkMem_mem hi
    obtain ⟨q, hq, rfl, rfl⟩ := mkMem_mem hj
    obtain ⟨h1, b, h2, h3⟩ := hf.mem p hp
    obtain ⟨k1, c, k2, k3⟩ := hf.mem q hq
    refine h.inj _ _ b c h2 k2 fun e => hij ?_
    have e1 : p.1 < σ.length := by rw [hf.len]; exact h1
    have e2 : q.1 < σ.length := by rw [hf.len]; exact k1
    have e : σ.getD p.1 0 = σ.getD q.1 0 := e
    rw [List.getD_eq_getElem?_getD, List.getD_eq_getElem?_getD, List.getElem?_eq_getElem e1, List.getElem?_eq_getElem e2] at e
    exact (List.getElem_inj hf.inj).1 e
theorem Sim.fits {W0 : Fix} {R0 : Nat → Prop} {D : Nat → Prop} {s : St} {E : Env} {a : Act} {w : World} (hp : W0.plain) (h : Sim W0 R0 ns D s E a w) {n : Nat} {l : List (Nat × SV)} {m : List (Nat × Blk)} {σ : List Nat} (hf : Fits n l m σ s) :
    ∃ E', Sim W0 R0 ns (· < n) (mkSt l m) E' a w := ⟨_, h.fitsE hp hf⟩
theorem AWp.fits {c : Code} {n n' : Nat} {s : St} {Q : Post} {l : List (Nat × SV)} {m : List (Nat × Blk)} {σ : List Nat} (hf : Fits n l m σ s) (h : AWp P tp ns c n (mkSt l m) Q) : AWp P tp ns c n' s Q := fun W0 R0 E a w ht hs => by
  obtain ⟨E', h1⟩ := hs.fits ht.1 hf
  exact h W0 R0 E' a w ht h1
/-- A loop: at the head of round i it is in state i, as the lists say. -/
theorem AWp.loop {ι : Type} {c : Code} {n n0 : Nat} {s : St} {Q : Post} (l : ι → List (Nat × SV)) (m : ι → List (Nat × Blk)) (μ : ι → Nat) (i0 : ι) {σ : List Nat} (h0 : Fits n (l i0) (m i0) σ s)
    (round : ∀ i, AWp P tp ns c n (mkSt (l i) (m i)) (thenP (fun _ s' => ∃ j σ, Fits n (l j) (m j) σ s' ∧ μ j < μ i) Q)) : AWp P tp ns (.loop c) n0 s Q := fun W0 R0 E a w ht hs => by
  obtain ⟨E0, h1⟩ := hs.fits ht.1 h0
  refine wp_loop_ix (fun i a w => ∃ E, Sim W0 R0 ns (· < n) (mkSt (l i) (m i)) E a w) μ (i := i0) ⟨E0, h1⟩ ?_
  rintro i a w ⟨E, hs⟩
  refine wp_mono (round i W0 R0 E a w ht hs) ?_
  rintro e a' w' ⟨n', s', E', h1, h2⟩
  cases e with
  | normal =>
    obtain ⟨j, σ, h3, h4⟩ := h2
    obtain ⟨E2, h5⟩ := h1.fits ht.1 h3
    exact ⟨j, ⟨E2, h5⟩, h4⟩
  | _ => exact ⟨n', s', E', h1, h2⟩

/-! ### Functions -/
def startS (args : List Dat) : Nat → SV := fun t => match args[t]? with
  | some d => .d d
  | none => .und
/-- What a function returns. -/
def resSlot (T : Tab) (s : St) : ResultVar → Option SV
  | .tmp t => some (s.slots t)
  | .cell t ty => match T ty, s.slots t with
    | some i, .ptr id r j => loadSV s.mem i (.ptr id r j)
    | _, _ => none
def resSlots (T : Tab) (s : St) : List ResultVar → Option (List SV)
  | [] => some []
  | r :: rs => match resSlot T s r, resSlots T s rs with
    | some x, some l => some (x :: l)
    | _, _ => none
def resOk (rs : List ResultVar) (ns : Nat) : Bool := rs.all fun
  | .tmp t => decide (t < ns)
  | .cell t _ => decide (t < ns)
def resD : List Dat → Dat
  | [d] => d
  | ds => .tup ds
def Returns (T : Tab) (rs : List ResultVar) (s : St) (r : Dat) : Prop := ∃ xs ds is, resSlots T s rs = some xs ∧ escAll s.mem xs = some (ds, is) ∧ resD ds = r
def wrapRes : List Value → Value
  | [v] => v
  | vs => .tuple vs.toArray
def resGo (tmps : Array Value) : ResultVar → Sem Value
  | .tmp t => pure (tmps.getD t undef)
  | .cell a t => do loadVar t (← asAddr (tmps.getD a undef))
theorem resGo_run {W0 : Fix} {R0 : Nat → Prop} {D : Nat → Prop} {s : St} {E : Env} {a : Act} {w : World} (hT : TabOk P T) (h : Sim W0 R0 ns D s E a w) {r : ResultVar} (hr : resOk [r] ns = true) {x : SV} (hx : resSlot T s r = some x) : ∃ v, (resGo a.tmps r).run P w = .ok v w ∧ Rep E w x v := by
  cases r with
  | tmp t =>
    have ht : t < ns := by simpa [resOk] using hr
    cases hx
    have := h.slot t
    rw [if_pos ht] at this
    exact ⟨_, rfl, this⟩
  | cell t ty =>
    have ht : t < ns := by simpa [resOk] using hr
    simp only [resSlot] at hx
    split at hx
    · rename_i i id r' j hi hs
      have hp := h.slot t
      rw [if_pos ht, hs] at hp
      obtain ⟨z, hz, hrep⟩ := load_run hT h.mem hi hx hp
      obtain ⟨u, hu⟩ : ∃ u, a.tmps.getD t undef = u := ⟨_, rfl⟩
      rw [hu] at hp hz
      cases hp with
      | ptr _ _ _ hd =>
        refine ⟨z, ?_, hrep⟩
        simp only [resGo, hu]
        simpa [Instr.loadAt, Instr.sureAddr, asAddr] using hz
    · cases hx
theorem results_run {W0 : Fix} {R0 : Nat → Prop} {D : Nat → Prop} {s : St} {E : Env} {a : Act} {w : World} (hT : TabOk P T) (h : Sim W0 R0 ns D s E a w) {fn : Func} (hr : resOk fn.results.toList ns = true) {xs : List SV} (hx : resSlots T s fn.results.toList = some xs) :
    ∃ vs, (results fn a.tmps).run P w = .ok (wrapRes vs) w ∧ vs.length = xs.length ∧ ∀ (j : Nat) x v, xs[j]? = some x → vs[j]? = some v → Rep E w x v := by
  have key : ∀ (rs : List ResultVar) (xs : List SV), resOk rs ns = true → resSlots T s rs = some xs → ∃ vs, (rs.mapM (resGo a.tmps)).run P w = .ok vs w ∧ vs.length = xs.length ∧ ∀ (j : Nat) x v, xs[j]? = some x → vs[j]? = some v → Rep E w x v := by
    intro rs
    induction rs with
    | nil => intro xs _ hx; cases hx; exact ⟨[], by simp, rfl, by simp⟩
    | cons r rs ih =>
      intro xs hr hx
      simp only [resSlots] at hx
      split at hx
      · rename_i x l h1 h2
        cases hx
        have hr' : resOk [r] ns = true ∧ resOk rs ns = true := by simpa [resOk] using hr
        obtain ⟨v, hv, hrep⟩ := resGo_run hT h hr'.1 h1
        obtain ⟨vs, k1, k2, k3⟩ := ih l hr'.2 h2
        refine ⟨v :: vs, by simp only [List.mapM_cons, Sem.run_bind, hv, Result.andThen_ok, k1, Sem.run_pure], by simp [k2], fun j y u hy hu => ?_⟩
        match j with
        | 0 => simp at hy hu; subst hy; subst hu; exact hrep
        | j + 1 => exact k3 j y u (by simpa using hy) (by simpa using hu)
      · cases hx
  obtain ⟨vs, k1, k2, k3⟩ := key _ xs hr hx
  refine ⟨vs, ?_, k2, k3⟩
  have e : results fn a.tmps = (do let vs ← fn.results.mapM (resGo a.tmps); pure (if h : vs.size = 1 then vs[0] else .tuple vs)) := by
    unfold results
    congr 1
  rw [e, Array.mapM_eq_mapM_toList]
  simp only [Sem.run_bind, Sem.run_map, k1]
  match vs with
  | [] => rfl
  | [v] => rfl
  | v :: u :: l => simp [wrapRes]
/-- A function by its body. -/
theorem calls_core (hT : TabOk P T) {f : FuncId} {fn : Func} {c : Code} (hf : P.funcs[f]? = some fn) (hb : fn.body = some c) (args : List Dat) (r : Dat) (hl : args.length ≤ fn.ntmps) (hr : resOk fn.results.toList fn.ntmps = true)
    (h : AWp P tp fn.ntmps c 0 ⟨startS args, fun _ => none⟩ (fun e _ s => (e = .normal ∨ e = .ret) ∧ Returns T fn.results.toList s r)) (ro : Nat → Prop) (w : World) (vs : Array Value) (hro : ∀ b, ro b → b < w.heap.size) (htop : tp = true → ∀ b, b < w.heap.size → ro b)
    (hsz : vs.size = args.length) (hrep : ∀ (i : Nat) d v, args[i]? = some d → vs[i]? = some v → RepD ro w d v) :
    Calls P f vs w fun e w' => ∃ v, e = .returned v ∧ Below w.heap.size w w' ∧ RepD (fun b => ro b ∨ (w.heap.size ≤ b ∧ b < w'.heap.size)) w' r v := by
  refine calls_of_wp hf hb ?_
  have hs0 : Sim (fixOf w) ro fn.ntmps (· < 0) ⟨startS args, fun _ => none⟩ ⟨ro, fun _ => False, fun _ => ⟨0, 0, 0⟩⟩ { tmps := vs ++ Array.replicate (fn.ntmps - vs.size) undef, defers := [] } w := by
    refine ⟨Kept.refl _ _, fun b h => h, fun b h => .inl h, hro, by simp; omega, rfl, fun t => ?_, fun i h => h.elim, (fun i b h => by cases h), (fun i b h => by cases h), (fun i b h => by cases h), (fun i b h => by cases h), (fun i j b c h => by cases h), fun i h => h.elim, fun b h => h.elim⟩
    simp only [startS]
    cases hd : args[t]? with
    | none => exact .und _
    | some d =>
      have hlt : t < vs.size := by have := (List.getElem?_eq_some_iff.1 hd).1; omega
      have e : (vs ++ Array.replicate (fn.ntmps - vs.size) undef).getD t undef = vs[t] := by simp [Array.getElem?_append, hlt]
      rw [if_pos (by omega), e]
      exact .d _ _ (hrep t d _ hd (Array.getElem?_eq_getElem hlt))
  refine wp_mono (h (fixOf w) ro _ _ w ⟨fixOf_plain w, htop⟩ hs0) ?_
  rintro e a' w' ⟨n', s', E', hs, he, xs, ds, is, hxs, h1, h2⟩
  have fin : a'.defers = [] ∧ ∃ v, (results fn a'.tmps).run P w' = .ok v w' ∧ ∃ v', Ending.returned v = .returned v' ∧ Below w.heap.size w w' ∧ RepD (fun b => ro b ∨ (w.heap.size ≤ b ∧ b < w'.heap.size)) w' r v' := by
    obtain ⟨vs', r1, r2, r3⟩ := results_run hT hs hr hxs
    refine ⟨hs.dfr, _, r1, _, rfl, hs.below.below, ?_⟩
    obtain ⟨E1, e1, e2, e3, e4, e5⟩ := hs.freezes is (escAll_ids h1)
    obtain ⟨q1, q2⟩ := escAll_rep (m0 := s'.mem) (m := frzM s'.mem is) (fun i t z rows f hh => frzM_row hh) (fun i b hb => e2.mem i b hb) h1 e3
    have hD : ∀ (j : Nat) d v, ds[j]? = some d → vs'[j]? = some v → RepD (fun b => ro b ∨ (w.heap.size ≤ b ∧ b < w'.heap.size)) w' d v := by
      intro j d v hd hv
      have hj : j < xs.length := by rw [← r2]; exact (List.getElem?_eq_some_iff.1 hv).1
      refine (q2 j _ d v (List.getElem?_eq_getElem hj) hd ((r3 j _ v (List.getElem?_eq_getElem hj) hv).keep e1 fun _ _ => rfl)).keep (fun b hb => ?_) fun _ _ => rfl
      rcases e2.ro1 b hb with h | h
      · exact .inl h
      · exact .inr ⟨Nat.le_of_not_lt h, e2.rlt b hb⟩
    have hvl : vs'.length = ds.length := by rw [r2, q1]
    subst h2
    match ds, vs', hvl, hD with
    | [], [], _, _ => exact .tup _ _ rfl (by simp)
    | [d], [v], _, hD => exact hD 0 d v rfl rfl
    | d :: d' :: ds, v :: v' :: vs', hvl, hD => exact .tup _ _ (by simpa using hvl) fun i c v hc hv => hD i c v hc (by simpa using hv)
  rcases he with rfl | rfl
  · exact fin
  · exact fin
theorem acall_of (hT : TabOk P T) {f : FuncId} {fn : Func} {c : Code} (hf : P.funcs[f]? = some fn) (hn : (fn.name == "runtime.NumGoroutine") = false) (hb : fn.body = some c) (args : List Dat) (r : Dat) (hl : args.length ≤ fn.ntmps) (hr : resOk fn.results.toList fn.ntmps = true)
    (h : AWp P false fn.ntmps c 0 ⟨startS args, fun _ => none⟩ (fun e _ s => (e = .normal ∨ e = .ret) ∧ Returns T fn.results.toList s r)) : ACall P f args r :=
  ⟨callable_of hf hn (by rw [hb]; rfl), fun ro w vs hro hsz hrep => calls_core hT hf hb args r hl hr h ro w vs hro (fun h => by cases h) hsz hrep⟩
end Go.Proofs.Ytjjoiihgpkhndaa.Eng

/-
  The engine, part P: entries of a table of types. No program is named here.
-/
namespace Go.Proofs.Ytjjoiihgpkhndaa.Eng
open Go.RowKit
variable {P : Program}

theorem tiOk_mk {t : TypeId} {i : TI} {z : Value} (h : (P.info? t).map (fun i => (i.zero, i.size, i.bytes)) = some (some z, i.size, i.bytes)) (hz : z.cells = i.zero.toArray) (h1 : i.zero.all Value.oneCell' = true) (hl : i.zero.length = i.size) (hp : 0 < i.size)
    (und : match i.kind with
      | .int k => P.underlying t = some (.int k)
      | .bool => P.underlying t = some .bool
      | .cell => ∃ d, P.underlying t = some d ∧ (∀ fs, d ≠ .struct fs) ∧ ∀ n e, d ≠ .array n e
      | .slice e => P.underlying t = some (.slice e)
      | .struct fs => ∃ fields, P.underlying t = some (.struct fields) ∧ fields.toList.map (fun f => (f.offset, f.type)) = fs
      | .array n e => P.underlying t = some (.array n e))
    (hs : (i.kind.agg || i.size == 1) = true)
    (eqs : i.eqk ≠ [] → ∀ (w : World) (x y : Operand) (m n : List Int), m.length = i.eqk.length → n.length = i.eqk.length →
      (do eqGuard .eql t x y (aggInts i.eqk m) (aggInts i.eqk n); binOp .eql t (aggInts i.eqk m) (aggInts i.eqk n) : Sem Value).run P w = .ok (.bool (decide (m = n))) w ∧
      (do eqGuard .neq t x y (aggInts i.eqk m) (aggInts i.eqk n); binOp .neq t (aggInts i.eqk m) (aggInts i.eqk n) : Sem Value).run P w = .ok (.bool (decide (m ≠ n))) w) : TiOk P t i := by
  refine ⟨?_, fun v hv => List.all_eq_true.1 h1 v hv, hl, hp, und, fun ha => ?_, eqs⟩
  · rw [Option.map_eq_some_iff] at h
    obtain ⟨inf, h2, h3⟩ := h
    simp only [Prod.mk.injEq] at h3
    exact ⟨inf, z, h2, h3.2.1, h3.2.2, h3.1, hz⟩
  · rw [ha, Bool.false_or, beq_iff_eq] at hs
    exact hs

theorem agg_eq_run {t : TypeId} (w : World) (x y : Operand) (xs ys : Array Value) (b : Bool) (hg : P.eqGuardType P.depth t = false) (h : (Op.equal t (.agg xs) (.agg ys)).run P w = .ok b w) :
    (do eqGuard .eql t x y (.agg xs) (.agg ys); binOp .eql t (.agg xs) (.agg ys) : Sem Value).run P w = .ok (.bool b) w ∧
    (do eqGuard .neq t x y (.agg xs) (.agg ys); binOp .neq t (.agg xs) (.agg ys) : Sem Value).run P w = .ok (.bool (!b)) w := by
  have e1 : binOp .eql t (.agg xs) (.agg ys) = (do pure (.bool (← Op.equal t (.agg xs) (.agg ys)))) := rfl
  have e2 : binOp .neq t (.agg xs) (.agg ys) = (do pure (.bool (!(← Op.equal t (.agg xs) (.agg ys))))) := rfl
  have g1 : (eqGuard .eql t x y (.agg xs) (.agg ys)).run P w = .ok () w := by simp [eqGuard, hg]
  have g2 : (eqGuard .neq t x y (.agg xs) (.agg ys)).run P w = .ok () w := by simp [eqGuard, hg]
  rw [e1, e2]
  simp only [Sem.run_bind, g1, g2, h, Result.andThen_ok, Sem.run_pure, and_self]
theorem fieldsOf_eq {t : TypeId} {fs : Array Field} (h : P.underlying t = some (.struct fs)) : P.fieldsOf t = fs := by simp [Program.fieldsOf, h]
theorem part_int {t : TypeId} {k : IntKind} (h : P.underlying t = some (.int k)) (w : World) (cs : Array Value) (i : Nat) (v : Value) (hv : cs[i]? = some v) : (part t cs i).run P w = .ok v w := by
  simp [part, isAgg, run_underlying h, hv]
theorem decide_not_eq (p : Prop) [Decidable p] : (!decide p) = decide (¬ p) := by by_cases h : p <;> simp [h]
theorem eqs_by_1 {t t0 : TypeId} {f0 : Field} {k0 : IntKind} (w : World) (x y : Operand) {m n : List Int} (hm : m.length = 1) (hn : n.length = 1) (hg : P.eqGuardType P.depth t = false) (hs : P.stoodInHeld t = false) (hu : P.underlying t = some (.struct #[f0])) (h0 : P.underlying t0 = some (.int k0))
    (hf : f0.type = t0 ∧ f0.offset = 0 ∧ f0.name ≠ "_") :
    (do eqGuard .eql t x y (aggInts [k0] m) (aggInts [k0] n); binOp .eql t (aggInts [k0] m) (aggInts [k0] n) : Sem Value).run P w = .ok (.bool (decide (m = n))) w ∧
    (do eqGuard .neq t x y (aggInts [k0] m) (aggInts [k0] n); binOp .neq t (aggInts [k0] m) (aggInts [k0] n) : Sem Value).run P w = .ok (.bool (decide (m ≠ n))) w := by
  match m, n, hm, hn with
  | [a], [b], _, _ =>
    obtain ⟨rfl, o0, n0⟩ := hf
    have he : (Op.equal t (aggInts [k0] [a]) (aggInts [k0] [b])).run P w = .ok (decide ([a] = [b])) w := by
      unfold Op.equal aggInts
      rw [show Op.maxDepth = 9998 + 1 + 1 from rfl, run_equalIn_struct w _ t _ _ (by rw [fieldsOf_eq hu]; exact hu) hs, fieldsOf_eq hu]
      by_cases c : a = b
      · subst c; simp [Op.eqFields, n0, o0, part_int h0, run_equalIn_int w _ _ k0 k0 _ _ h0]
      · simp [Op.eqFields, n0, o0, part_int h0, run_equalIn_int w _ _ k0 k0 _ _ h0, c]
    have := agg_eq_run w x y _ _ _ hg he
    rw [decide_not_eq] at this
    exact this
theorem eqs_by_2 {t t0 t1 : TypeId} {f0 f1 : Field} {k0 k1 : IntKind} (w : World) (x y : Operand) {m n : List Int} (hm : m.length = 2) (hn : n.length = 2) (hg : P.eqGuardType P.depth t = false) (hs : P.stoodInHeld t = false) (hu : P.underlying t = some (.struct #[f0, f1])) (h0 : P.underlying t0 = some (.int k0)) (h1 : P.underlying t1 = some (.int k1))
    (hf : f0.type = t0 ∧ f0.offset = 0 ∧ f0.name ≠ "_" ∧ f1.type = t1 ∧ f1.offset = 1 ∧ f1.name ≠ "_") :
    (do eqGuard .eql t x y (aggInts [k0, k1] m) (aggInts [k0, k1] n); binOp .eql t (aggInts [k0, k1] m) (aggInts [k0, k1] n) : Sem Value).run P w = .ok (.bool (decide (m = n))) w ∧
    (do eqGuard .neq t x y (aggInts [k0, k1] m) (aggInts [k0, k1] n); binOp .neq t (aggInts [k0, k1] m) (aggInts [k0, k1] n) : Sem Value).run P w = .ok (.bool (decide (m ≠ n))) w := by
  match m, n, hm, hn with
  | [a, c], [b, d], _, _ =>
    obtain ⟨rfl, o0, n0, rfl, o1, n1⟩ := hf
    have he : (Op.equal t (aggInts [k0, k1] [a, c]) (aggInts [k0, k1] [b, d])).run P w = .ok (decide ([a, c] = [b, d])) w := by
      unfold Op.equal aggInts
      rw [show Op.maxDepth = 9998 + 1 + 1 from rfl, run_equalIn_struct w _ t _ _ (by rw [fieldsOf_eq hu]; exact hu) hs, fieldsOf_eq hu]
      by_cases q : a = b
      · subst q
        by_cases q : c = d
        · subst q; simp [Op.eqFields, n0, o0, n1, o1, part_int h0, part_int h1, run_equalIn_int w _ _ k0 k0 _ _ h0, run_equalIn_int w _ _ k1 k1 _ _ h1]
        · simp [Op.eqFields, n0, o0, n1, o1, part_int h0, part_int h1, run_equalIn_int w _ _ k0 k0 _ _ h0, run_equalIn_int w _ _ k1 k1 _ _ h1, q]
      · simp [Op.eqFields, n0, o0, n1, o1, part_int h0, part_int h1, run_equalIn_int w _ _ k0 k0 _ _ h0, run_equalIn_int w _ _ k1 k1 _ _ h1, q]
    have := agg_eq_run w x y _ _ _ hg he
    rw [decide_not_eq] at this
    exact this
theorem eqs_by_3 {t t0 t1 t2 : TypeId} {f0 f1 f2 : Field} {k0 k1 k2 : IntKind} (w : World) (x y : Operand) {m n : List Int} (hm : m.length = 3) (hn : n.length = 3) (hg : P.eqGuardType P.depth t = false) (hs : P.stoodInHeld t = false) (hu : P.underlying t = some (.struct #[f0, f1, f2])) (h0 : P.underlying t0 = some (.int k0)) (h1 : P.underlying t1 = some (.int k1)) (h2 : P.underlying t2 = some (.int k2))
    (hf : f0.type = t0 ∧ f0.offset = 0 ∧ f0.name ≠ "_" ∧ f1.type = t1 ∧ f1.offset = 1 ∧ f1.name ≠ "_" ∧ f2.type = t2 ∧ f2.offset = 2 ∧ f2.name ≠ "_") :
    (do eqGuard .eql t x y (aggInts [k0, k1, k2] m) (aggInts [k0, k1, k2] n); binOp .eql t (aggInts [k0, k1, k2] m) (aggInts [k0, k1, k2] n) : Sem Value).run P w = .ok (.bool (decide (m = n))) w ∧
    (do eqGuard .neq t x y (aggInts [k0, k1, k2] m) (aggInts [k0, k1, k2] n); binOp .neq t (aggInts [k0, k1, k2] m) (aggInts [k0, k1, k2] n) : Sem Value).run P w = .ok (.bool (decide (m ≠ n))) w := by
  match m, n, hm, hn with
  | [a, c, e], [b, d, f], _, _ =>
    obtain ⟨rfl, o0, n0, rfl, o1, n1, rfl, o2, n2⟩ := hf
    have he : (Op.equal t (aggInts [k0, k1, k2] [a, c, e]) (aggInts [k0, k1, k2] [b, d, f])).run P w = .ok (decide ([a, c, e] = [b, d, f])) w := by
      unfold Op.equal aggInts
      rw [show Op.maxDepth = 9998 + 1 + 1 from rfl, run_equalIn_struct w _ t _ _ (by rw [fieldsOf_eq hu]; exact hu) hs, fieldsOf_eq hu]
      by_cases q : a = b
      · subst q
        by_cases q : c = d
        · subst q
          by_cases q : e = f
          · subst q; simp [Op.eqFields, n0, o0, n1, o1, n2, o2, part_int h0, part_int h1, part_int h2, run_equalIn_int w _ _ k0 k0 _ _ h0, run_equalIn_int w _ _ k1 k1 _ _ h1, run_equalIn_int w _ _ k2 k2 _ _ h2]
          · simp [Op.eqFields, n0, o0, n1, o1, n2, o2, part_int h0, part_int h1, part_int h2, run_equalIn_int w _ _ k0 k0 _ _ h0, run_equalIn_int w _ _ k1 k1 _ _ h1, run_equalIn_int w _ _ k2 k2 _ _ h2, q]
        · simp [Op.eqFields, n0, o0, n1, o1, n2, o2, part_int h0, part_int h1, part_int h2, run_equalIn_int w _ _ k0 k0 _ _ h0, run_equalIn_int w _ _ k1 k1 _ _ h1, run_equalIn_int w _ _ k2 k2 _ _ h2, q]
      · simp [Op.eqFields, n0, o0, n1, o1, n2, o2, part_int h0, part_int h1, part_int h2, run_equalIn_int w _ _ k0 k0 _ _ h0, run_equalIn_int w _ _ k1 k1 _ _ h1, run_equalIn_int w _ _ k2 k2 _ _ h2, q]
    have := agg_eq_run w x y _ _ _ hg he
    rw [decide_not_eq] at this
    exact this

/-! ### Regions whose order is the text's; calls of which less is known -/
/-- Called with values that say these data, wherever they lie, it returns one that says that, somewhere, and leaves what was there as it is. -/
structure WCall (P : Program) (f : FuncId) (args : List Dat) (r : Dat) : Prop where
  callable : Callable P f
  calls : ∀ (w : World) (vs : Array Value), vs.size = args.length → (∀ (i : Nat) d v, args[i]? = some d → vs[i]? = some v → RepD (· < w.heap.size) w d v) →
    Calls P f vs w fun e w' => ∃ v, e = .returned v ∧ Below w.heap.size w w' ∧ RepD (· < w'.heap.size) w' r v
theorem ACall.weak {f : FuncId} {args : List Dat} {r : Dat} (h : ACall P f args r) : WCall P f args r :=
  ⟨h.callable, fun w vs hs hr => (h.calls (· < w.heap.size) w vs (fun _ h => h) hs hr).mono fun e w' ⟨v, he, hb, hv⟩ => ⟨v, he, hb, hv.keep (fun b hb' => by
    rcases hb' with h | h
    · exact Nat.lt_of_lt_of_le h hb.size
    · exact h.2) fun _ _ => rfl⟩⟩
theorem wcall_of {T : Tab} (hT : TabOk P T) {f : FuncId} {fn : Func} {c : Code} (hf : P.funcs[f]? = some fn) (hn : (fn.name == "runtime.NumGoroutine") = false) (hb : fn.body = some c) (args : List Dat) (r : Dat) (hl : args.length ≤ fn.ntmps) (hr : resOk fn.results.toList fn.ntmps = true)
    (h : AWp P true fn.ntmps c 0 ⟨startS args, fun _ => none⟩ (fun e _ s => (e = .normal ∨ e = .ret) ∧ Returns T fn.results.toList s r)) : WCall P f args r :=
  ⟨callable_of hf hn (by rw [hb]; rfl), fun w vs hsz hrep => (calls_core hT hf hb args r hl hr h (· < w.heap.size) w vs (fun _ h => h) (fun _ _ h => h) hsz hrep).mono fun e w' ⟨v, he, hb, hv⟩ => ⟨v, he, hb, hv.keep (fun b hb' => by
    rcases hb' with h | h
    · exact Nat.lt_of_lt_of_le h hb.size
    · exact h.2) fun _ _ => rfl⟩⟩
/-- Data without memory behind them. -/
inductive Flat : Dat → Prop
  | val (v) : Flat (.val v)
  | agg (cs : List Dat) : (∀ c ∈ cs, ∃ v, c = .val v) → Flat (.agg cs)
  | tup (cs : List Dat) : (∀ c ∈ cs, ∃ v, c = .val v) → Flat (.tup cs)
theorem flat_any {ro ro' : Nat → Prop} {w w' : World} {x : Dat} {v : Value} (hf : Flat x) (h : RepD ro w x v) : RepD ro' w' x v := by
  have key : ∀ {c : Dat} {u : Value}, (∃ v, c = .val v) → RepD ro w c u → RepD ro' w' c u := fun {c u} ⟨v, e⟩ hr => by subst e; cases hr with | val _ h => exact .val _ h
  cases hf with
  | val => exact key ⟨_, rfl⟩ h
  | agg cs hc => cases h with | agg _ vs h1 h2 h3 => exact .agg _ _ h1 h2 fun i c v hc' hv => key (hc c (List.mem_of_getElem? hc')) (h3 i c v hc' hv)
  | tup cs hc => cases h with | tup _ vs h1 h3 => exact .tup _ _ h1 fun i c v hc' hv => key (hc c (List.mem_of_getElem? hc')) (h3 i c v hc' hv)
/-- What returns no memory is known whole. -/
theorem WCall.strong {f : FuncId} {args : List Dat} {r : Dat} (h : WCall P f args r) (hf : Flat r) : ACall P f args r :=
  ⟨h.callable, fun ro w vs hro hs hr => (h.calls w vs hs fun i d v hd hv => (hr i d v hd hv).keep hro fun _ _ => rfl).mono fun e w' ⟨v, he, hb, hv⟩ => ⟨v, he, hb, flat_any hf hv⟩⟩
/-- All own blocks are read for good. -/
def AllFrz (m : Nat → Option Blk) : Prop := ∀ i b, m i = some b → b.frz = true
/-- As a weak call, but what it returns is one of some data. -/
structure ECall (P : Program) (f : FuncId) (args : List Dat) (R : Dat → Prop) : Prop where
  callable : Callable P f
  calls : ∀ (w : World) (vs : Array Value), vs.size = args.length → (∀ (i : Nat) d v, args[i]? = some d → vs[i]? = some v → RepD (· < w.heap.size) w d v) →
    Calls P f vs w fun e w' => ∃ r v, R r ∧ e = .returned v ∧ Below w.heap.size w w' ∧ RepD (· < w'.heap.size) w' r v
theorem WCall.one {f : FuncId} {args : List Dat} {r : Dat} (h : WCall P f args r) : ECall P f args (· = r) :=
  ⟨h.callable, fun w vs hs hr => (h.calls w vs hs hr).mono fun e w' ⟨v, h1, h2, h3⟩ => ⟨r, v, rfl, h1, h2, h3⟩⟩
def StepW (P : Program) (ev : Operand → Option SV) (m : Nat → Option Blk) (o : Op) (R : Dat → Prop) : Prop :=
  ∃ f args svs ds, fnOf o = some (f, args) ∧ evList ev args = some svs ∧ escAll m svs = some (ds, []) ∧ ECall P f ds R ∧ AllFrz m
variable {W0 : Fix} {R0 : Nat → Prop} {T : Tab} {ns : Nat} {D : Nat → Prop} {s : St} {E : Env} {a : Act} {w : World}
theorem stepW_wp (h : Sim W0 R0 ns D s E a w) (htop : ∀ b, W0.U b → R0 b) {nid : Nat} {o : Oper} (hd : ∀ t, o.dst = some t → t < ns) {R : Dat → Prop} (hs : StepW P (opd ns s) s.mem o.op R) {K : Act → World → Prop} {Q : Exit → Act → World → Prop}
    (hK : ∀ r, R r → ∀ E' a' w', Sim W0 R0 ns (fun k => k = nid ∨ D k) (putS s nid o.dst { res := .d r }) E' a' w' → K a' w') : o.wp P a w K Q := by
  obtain ⟨f, args, svs, ds, hf, h1, h2, h3, h4⟩ := hs
  obtain ⟨c, ho, hc, ha⟩ := fnOf_eq hf
  obtain ⟨p1, p2⟩ := evList_rep (w := w) (E := E) (ev := opd ns s) (ρ := a.eval) (fun x v hx => h.opd hx) h1
  obtain ⟨q1, q2⟩ := escAll_rep (m0 := s.mem) (m := s.mem) (fun i t z rows f hh => ⟨f, hh⟩) (fun i b hb => h.mem i b hb) h2 (by simp)
  have hex : (execOp a.eval o).run P w = .ok (.enter f (c.args.map a.eval)) w := by
    have hcc := h3.callable (c.args.map a.eval) w
    simp only [execOp, ho, resolve, hc, Act.eval, Deferred.ofValue, invoke, Sem.run_bind, Sem.run_pure, Result.andThen_ok, Array.append_empty, Array.empty_append]
    exact hcc
  unfold Oper.wp
  rw [hex, Oper.upon_enter]
  refine (h3.calls w (c.args.map a.eval) (by simp; have := congrArg List.length ha; simp at this; omega) fun i d v hd hv => ?_).mono ?_
  · have hi : i < svs.length := by have := (List.getElem?_eq_some_iff.1 hd).1; omega
    refine (q2 i svs[i] d v (List.getElem?_eq_getElem hi) hd (p2 i svs[i] v (List.getElem?_eq_getElem hi) ?_)).keep h.rlt fun _ _ => rfl
    rw [← ha]
    simpa using hv
  · rintro e w' ⟨r, v, hR, rfl, hb, hr⟩
    let E2 : Env := { E with ro := fun b => b < w'.heap.size }
    have hE : E.le E2 := ⟨fun b hb' => Nat.lt_of_lt_of_le (h.rlt b hb') hb.size, fun _ h => h, fun _ _ => rfl⟩
    have hw : ∀ b, E.ro b → w'.heap[b]? = w.heap[b]? := fun b hb' => hb.block b (h.rlt b hb')
    have h5 : Sim W0 R0 ns (fun k => k = nid ∨ D k) s E2 a w' := by
      refine ⟨h.below.trans (h.kept hb), fun b hb' => hE.ro b (h.ro0 b hb'), fun b hb' => ?_, fun b hb' => hb', h.size, h.dfr, fun t => (h.slot t).keep hE hw, fun i hi => .inr (h.dom i hi), h.live, fun i b hi => (h.mem i b hi).keep hE hw (hb.block _ (h.mem i b hi).lt), h.base, fun i b hi => ?_, h.inj, h.le0, fun b hb => ⟨hE.ro b (h.re0 b hb).1, (hw b (h.re0 b hb).1).trans (h.re0 b hb).2⟩⟩
      · rcases Classical.em (W0.U b) with h | h
        · exact .inl (htop b h)
        · exact .inr h
      · exact ⟨fun _ => Nat.lt_of_lt_of_le (h.mem i b hi).lt hb.size, fun _ => h4 i b hi⟩
    exact hK r hR E2 _ w' (h5.put hd (.d _ _ hr))

/-- After this operation one goes on in one of some states. -/
def StepG (P : Program) (tp : Bool) (ns nid : Nat) (s : St) (o : Oper) (G : St → Prop) : Prop :=
  ∀ (W0 : Fix) (R0 : Nat → Prop) (D : Nat → Prop) (E : Env) (a : Act) (w : World), (tp = true → ∀ b, W0.U b → R0 b) → Sim W0 R0 ns D s E a w → ¬ D nid → (∀ t, o.dst = some t → t < ns) →
    ∀ (K : Act → World → Prop) (Q : Exit → Act → World → Prop), (∀ s' E' a' w', G s' → Sim W0 R0 ns (fun k => k = nid ∨ D k) s' E' a' w' → K a' w') → o.wp P a w K Q
theorem stepG_w {tp : Bool} (ht : tp = true) {ns nid : Nat} {s : St} {o : Oper} {R : Dat → Prop} (hs : StepW P (opd ns s) s.mem o.op R) : StepG P tp ns nid s o fun s' => ∃ r, R r ∧ s' = putS s nid o.dst { res := .d r } :=
  fun _ _ _ _ _ _ htop h _ hd _ _ hK => stepW_wp h (htop ht) hd hs fun r hr _ _ _ h' => hK _ _ _ _ ⟨r, hr, rfl⟩ h'
/-- Operations that call a Go function. -/
def waits : Op → Bool
  | .call c => match c.callee with
    | .builtin .delete => true
    | .builtin _ => false
    | _ => true
  | .range _ _ => true
  | .next _ _ => true
  | .entry _ => true
  | _ => false
theorem calleeS_waits {ns : Nat} {s : St} {o : Op} {f : FuncId} {svs : List SV} (h : calleeS ns s o = some (f, svs)) : waits o = true := by
  unfold calleeS at h
  split at h
  · split at h
    · rename_i hc; simp [waits, hc]
    · rename_i hc; simp [waits, hc]
    · cases h
  · cases h
theorem stepR_waits {s : St} {ns : Nat} {o : Op} {out : Out} (h : StepR P ns s o out) : waits o = true := by
  obtain ⟨f, svs, r, m0, h1, _⟩ := h
  exact calleeS_waits h1
theorem waits_fnOf {o : Op} (h : waits o = false) : fnOf o = none := by
  cases hf : fnOf o with
  | none => rfl
  | some x =>
    obtain ⟨f, args⟩ := x
    obtain ⟨c, rfl, hc, _⟩ := fnOf_eq hf
    simp [waits, hc] at h
/-- The operations one behind the other, without a log. -/
def Exec0 (P : Program) (tp : Bool) (T : Tab) (ops : Array Oper) (ns : Nat) : Nat → List Oper → St → (St → Prop) → Prop
  | _, [], s, Q => Q s
  | nid, o :: l, s, Q => match guardS ops ns s o with
    | some true => (∃ out, Step P T ns nid s o.op out ∧ Exec0 P tp T ops ns (nid + 1) l (putS s nid o.dst out) Q) ∨
      (waits o.op = true ∧ ∃ G, StepG P tp ns nid s o G ∧ ∀ s', G s' → Exec0 P tp T ops ns (nid + 1) l s' Q)
    | some false => Exec0 P tp T ops ns (nid + 1) l { s with slots := setSlot s.slots o.dst (.tup []) } Q
    | none => False
theorem exec0_list {tp : Bool} (hT : TabOk P T) (htop : tp = true → ∀ b, W0.U b → R0 b) {ops : Array Oper} {Q : Exit → Act → World → Prop} : ∀ (l : List Oper) (nid : Nat) {s : St} {E : Env} {a : Act} {w : World} {Q' : St → Prop}, Exec0 P tp T ops ns nid l s Q' →
    Sim W0 R0 ns (· < nid) s E a w → (∀ s' E' a' w', Sim W0 R0 ns (· < nid + l.length) s' E' a' w' → Q' s' → Q .normal a' w') → wpList P ops Q l a w
  | [], nid, s, E, a, w, Q', h, hs, hQ => hQ s E a w hs h
  | o :: l, nid, s, E, a, w, Q', h, hs, hQ => by
    simp only [Exec0] at h
    refine wpList_step fun K hK => ?_
    split at h
    · rename_i hg
      rw [guard_ok hs hg, if_pos rfl]
      have fin : ∀ s1, Exec0 P tp T ops ns (nid + 1) l s1 Q' → ∀ E' a' w', Sim W0 R0 ns (fun k => k = nid ∨ k < nid) s1 E' a' w' → K a' w' := fun s1 h2 E' a' w' hs' => hK _ _ (by
        refine exec0_list hT htop l (nid + 1) h2 (hs'.weak fun i hi => by omega) fun s' E' a' w' hs2 hq => hQ s' E' a' w' ?_ hq
        rw [List.length_cons, show nid + (l.length + 1) = nid + 1 + l.length by omega]
        exact hs2)
      rcases h with ⟨out, h1, h2⟩ | ⟨_, G, h1, h2⟩
      · exact step_wp hT hs (nid := nid) (by omega) (N := nid) (fun _ h => h) (guardS_dst hg) h1 (fin _ h2)
      · exact h1 W0 R0 _ E a w htop hs (by omega) (guardS_dst hg) _ _ fun s' E' a' w' hG h' => fin s' (h2 s' hG) E' a' w' h'
    · rename_i hg
      rw [guard_ok hs hg, if_neg (by simp)]
      refine hK _ _ (exec0_list hT htop l (nid + 1) h ((hs.put (guardS_dst hg) rep_no).weak fun i hi => by omega) fun s' E' a' w' hs2 hq => hQ s' E' a' w' ?_ hq)
      rw [List.length_cons, show nid + (l.length + 1) = nid + 1 + l.length by omega]
      exact hs2
    · exact h.elim
theorem AWp.reg {tp : Bool} (hT : TabOk P T) {id n : Nat} {l : List Oper} {s : St} {Q : Post} (h : Exec0 P tp T l.toArray ns n l s (fun s' => Q .normal (n + l.length) s')) : AWp P tp ns (.region id l.toArray false) n s Q :=
  fun _ _ _ _ _ ht hs => wp_region_lit (exec0_list hT ht.2 l n h hs fun s' E' _ _ h1 h2 => ⟨_, s', E', h1, h2⟩)
/-- All own blocks are read for good from here on. -/
theorem Sim.sealL : ∀ (ids : List Nat) {s : St} {E : Env}, Sim W0 R0 ns D s E a w → ∃ E', E.le E' ∧ Sim W0 R0 ns D { s with mem := frzM s.mem ids } E' a w
  | [], s, E, h => ⟨E, Env.le.refl E, h⟩
  | i :: l, s, E, h => by
    cases hi : s.mem i with
    | none =>
      obtain ⟨E1, e1, h1⟩ := Sim.sealL l h
      refine ⟨E1, e1, ?_⟩
      have : frzM s.mem (i :: l) = frzM s.mem l := by
        simp only [frzM, hi, Option.map_none]
        congr 1
        funext k
        unfold setMem
        split
        · rename_i e; rw [e, hi]
        · rfl
      rw [this]
      exact h1
    | some b =>
      obtain ⟨E1, e1, h1, _⟩ := h.freeze hi
      obtain ⟨E2, e2, h2⟩ := Sim.sealL l h1
      refine ⟨E2, e1.trans e2, ?_⟩
      simp only [frzM, hi, Option.map_some]
      exact h2
theorem frzM_get (i : Nat) : ∀ (ids : List Nat) (m : Nat → Option Blk), frzM m ids i = if i ∈ ids then (m i).map frzB else m i
  | [], m => by simp [frzM]
  | k :: l, m => by
    simp only [frzM]
    rw [frzM_get i l]
    by_cases e : i = k
    · subst e
      have e1 : setMem m i ((m i).map frzB) i = (m i).map frzB := if_pos rfl
      rw [e1, if_pos List.mem_cons_self]
      split
      · cases m i with
        | none => rfl
        | some b => cases b <;> rfl
      · rfl
    · have e1 : setMem m k ((m k).map frzB) i = m i := if_neg e
      rw [e1]
      simp only [List.mem_cons, e, false_or]
theorem mkMem_frz (i : Nat) : ∀ (m : List (Nat × Blk)), (mkMem m i).map frzB = mkMem (m.map fun p => (p.1, frzB p.2)) i
  | [] => rfl
  | (k, b) :: m => by
    simp only [mkMem, List.map_cons]
    by_cases e : i = k
    · rw [if_pos e, if_pos e]; rfl
    · rw [if_neg e, if_neg e]
      exact mkMem_frz i m
theorem AWp.frost {tp : Bool} {c : Code} {n : Nat} {l : List (Nat × SV)} {m : List (Nat × Blk)} {Q : Post} (h : AWp P tp ns c n (mkSt l (m.map fun p => (p.1, frzB p.2))) Q) : AWp P tp ns c n (mkSt l m) Q := fun W0 R0 E a w ht hs => by
  obtain ⟨E', _, h1⟩ := hs.sealL (m.map (·.1))
  refine h W0 R0 E' a w ht ?_
  have e : frzM (mkSt l m).mem (m.map (·.1)) = (mkSt l (m.map fun p => (p.1, frzB p.2))).mem := by
    funext i
    rw [frzM_get]
    simp only [mkSt]
    split
    · exact mkMem_frz i m
    · rename_i hn
      rw [← mkMem_frz]
      cases hb : mkMem m i with
      | none => rfl
      | some b =>
        obtain ⟨p, hp, rfl, _⟩ := mkMem_mem hb
        exact absurd (List.mem_map_of_mem hp) hn
  have e' : ({ mkSt l m with mem := frzM (mkSt l m).mem (m.map (·.1)) } : St) = mkSt l (m.map fun p => (p.1, frzB p.2)) := by
    rw [e]; rfl
  rw [← e']
  exact h1
theorem AllFrz_mk {l : List (Nat × Blk)} (h : ∀ p ∈ l, p.2.frz = true) : AllFrz (mkMem l) := fun i b hb => by
  obtain ⟨p, hp, _, rfl⟩ := mkMem_mem hb
  exact h p hp
end Go.Proofs.Ytjjoiihgpkhndaa.Eng

/-
  The engine, part Q: the rules of control with what follows under one name, and what is computed by simp. No program is named here.
-/
namespace Go.Proofs.Ytjjoiihgpkhndaa.Eng
open Go.RowKit
variable {P : Program} {tp : Bool} {ns : Nat}

/-- What follows, under a name: code. -/
structure KK (P : Program) (tp : Bool) (ns : Nat) (y : Code) (Q : Post) where
  K : Nat → St → Prop
  h : ∀ n s, AWp P tp ns y n s Q → K n s
theorem KK.go {y : Code} {Q : Post} {k : KK P tp ns y Q} {n : Nat} {s : St} (h : AWp P tp ns y n s Q) : k.K n s := k.h n s h
/-- What follows, under a name: behind a block. -/
structure BB (id : Nat) (Q : Post) where
  B : Post
  h : ∀ e n s, blockP id Q e n s → B e n s
theorem BB.go {id : Nat} {Q : Post} {b : BB id Q} {e : Exit} {n : Nat} {s : St} (h : blockP id Q e n s) : b.B e n s := b.h e n s h
/-- What follows, under a name: a function's end. -/
structure RR (T : Tab) (rs : List ResultVar) (r : Dat) where
  R : Post
  h : ∀ e n s, (e = .normal ∨ e = .ret) → Returns T rs s r → R e n s
theorem RR.ret {T : Tab} {rs : List ResultVar} {r : Dat} {q : RR T rs r} {n : Nat} {s : St} (h : Returns T rs s r) : q.R .ret n s := q.h _ n s (.inr rfl) h
theorem RR.normal {T : Tab} {rs : List ResultVar} {r : Dat} {q : RR T rs r} {n : Nat} {s : St} (h : Returns T rs s r) : q.R .normal n s := q.h _ n s (.inl rfl) h
/-- What follows, under a name: the next round. -/
structure LL (ι : Type) (n : Nat) (l : ι → List (Nat × SV)) (m : ι → List (Nat × Blk)) (μ : ι → Nat) (i : ι) where
  L : Nat → St → Prop
  h : ∀ n' s', (∃ j σ, Fits n (l j) (m j) σ s' ∧ μ j < μ i) → L n' s'
theorem LL.go {ι : Type} {n : Nat} {l : ι → List (Nat × SV)} {m : ι → List (Nat × Blk)} {μ : ι → Nat} {i : ι} {k : LL ι n l m μ i} {n' : Nat} {s' : St} (j : ι) (σ : List Nat) (h : Fits n (l j) (m j) σ s') (hm : μ j < μ i) : k.L n' s' := k.h n' s' ⟨j, σ, h, hm⟩

/-- What follows, under a name: behind what has labels. -/
structure SS (Q : Post) where
  S : Post
  h : ∀ e n s, (∀ l, e ≠ .goto l) → Q e n s → S e n s
theorem SS.go {Q : Post} {k : SS Q} {e : Exit} {n : Nat} {s : St} (h1 : ∀ l, e ≠ .goto l) (h2 : Q e n s) : k.S e n s := k.h e n s h1 h2
theorem AWp.scopeK {n : Nat} {c : Code} {s : St} {Q : Post} (h : ∀ k : SS Q, AWp P tp ns c n s k.S) : AWp P tp ns (.scope c) n s Q := AWp.scope (h ⟨fun e n s => (∀ l, e ≠ .goto l) ∧ Q e n s, fun _ _ _ h1 h2 => ⟨h1, h2⟩⟩)
theorem AWp.seqK {x y : Code} {n : Nat} {s : St} {Q : Post} (h : ∀ k : KK P tp ns y Q, AWp P tp ns x n s (thenP k.K Q)) : AWp P tp ns (.seq x y) n s Q := AWp.seq (h ⟨fun n s => AWp P tp ns y n s Q, fun _ _ h => h⟩)
theorem AWp.blockK {id n : Nat} {c : Code} {s : St} {Q : Post} (h : ∀ b : BB id Q, AWp P tp ns c n s b.B) : AWp P tp ns (.block id c) n s Q := AWp.block (h ⟨blockP id Q, fun _ _ _ h => h⟩)
def CondG (v : Option SV) (A B : Prop) : Prop := match v with
  | some (.d (.val (.bool t))) => if t = true then A else B
  | _ => False
theorem AWp.condK {c : Operand} {x y : Code} {n : Nat} {s : St} {Q : Post} (h : ∀ (kx : KK P tp ns x Q) (ky : KK P tp ns y Q), CondG (opd ns s c) (kx.K n s) (ky.K n s)) : AWp P tp ns (.cond c x y) n s Q := by
  have h := h ⟨fun n s => AWp P tp ns x n s Q, fun _ _ h => h⟩ ⟨fun n s => AWp P tp ns y n s Q, fun _ _ h => h⟩
  unfold CondG at h
  split at h
  · rename_i t ht
    refine AWp.cond ht (fun e => ?_) fun e => ?_
    · rw [if_pos e] at h; exact h
    · rw [if_neg (by rw [e]; simp)] at h; exact h
  · exact h.elim
theorem AWp.loopK {ι : Type} {c : Code} {n n0 : Nat} {s : St} {Q : Post} (l : ι → List (Nat × SV)) (m : ι → List (Nat × Blk)) (μ : ι → Nat) (i0 : ι) (σ : List Nat) (h0 : Fits n (l i0) (m i0) σ s)
    (round : ∀ i, ∀ k : LL ι n l m μ i, AWp P tp ns c n (mkSt (l i) (m i)) (thenP k.L Q)) : AWp P tp ns (.loop c) n0 s Q :=
  AWp.loop l m μ i0 h0 fun i => round i ⟨fun _ s' => ∃ j σ, Fits n (l j) (m j) σ s' ∧ μ j < μ i, fun _ _ h => h⟩
theorem acallK {T : Tab} (hT : TabOk P T) {f : FuncId} {fn : Func} {c : Code} (hf : P.funcs[f]? = some fn) (hn : (fn.name == "runtime.NumGoroutine") = false) (hb : fn.body = some c) {args : List Dat} {r : Dat} (hl : args.length ≤ fn.ntmps) (hr : resOk fn.results.toList fn.ntmps = true)
    (h : ∀ q : RR T fn.results.toList r, AWp P false fn.ntmps c 0 ⟨startS args, fun _ => none⟩ q.R) : ACall P f args r :=
  acall_of hT hf hn hb args r hl hr (h ⟨fun e _ s => (e = .normal ∨ e = .ret) ∧ Returns T fn.results.toList s r, fun _ _ _ h1 h2 => ⟨h1, h2⟩⟩)

@[simp] theorem setSlot_app (f : Nat → SV) (d : Nat) (x : SV) (t : Nat) : setSlot f (some d) x t = if t = d then x else f t := rfl
@[simp] theorem setSlot_none (f : Nat → SV) (x : SV) : setSlot f none x = f := rfl
@[simp] theorem setMem_app (f : Nat → Option Blk) (d : Nat) (x : Option Blk) (t : Nat) : setMem f d x t = if t = d then x else f t := rfl
@[simp] theorem mkSlots_nil (t : Nat) : mkSlots [] t = .und := rfl
@[simp] theorem mkSlots_cons (k : Nat) (x : SV) (l : List (Nat × SV)) (t : Nat) : mkSlots ((k, x) :: l) t = if t = k then x else mkSlots l t := rfl
@[simp] theorem mkMem_nil (t : Nat) : mkMem [] t = none := rfl
@[simp] theorem mkMem_cons (k : Nat) (x : Blk) (l : List (Nat × Blk)) (t : Nat) : mkMem ((k, x) :: l) t = if t = k then some x else mkMem l t := rfl
@[simp] theorem startS_app (l : List Dat) (t : Nat) : startS l t = match l[t]? with | some d => .d d | none => .und := rfl
theorem wcallK {T : Tab} (hT : TabOk P T) {f : FuncId} {fn : Func} {c : Code} (hf : P.funcs[f]? = some fn) (hn : (fn.name == "runtime.NumGoroutine") = false) (hb : fn.body = some c) {args : List Dat} {r : Dat} (hl : args.length ≤ fn.ntmps) (hr : resOk fn.results.toList fn.ntmps = true)
    (h : ∀ q : RR T fn.results.toList r, AWp P true fn.ntmps c 0 ⟨startS args, fun _ => none⟩ q.R) : WCall P f args r :=
  wcall_of hT hf hn hb args r hl hr (h ⟨fun e _ s => (e = .normal ∨ e = .ret) ∧ Returns T fn.results.toList s r, fun _ _ _ h1 h2 => ⟨h1, h2⟩⟩)
/-- What lies at a place, under short names for simp. -/
theorem z0 {α : Type} (a : α) (l : List α) : (a :: l)[0]? = some a := List.getElem?_cons_zero
theorem z1 {α : Type} (a : α) (l : List α) (i : Nat) : (a :: l)[i + 1]? = l[i]? := List.getElem?_cons_succ
theorem z2 {α : Type} (i : Nat) : ([] : List α)[i]? = none := List.getElem?_nil
/-- A list of the call's own that grows, from nothing. -/
def gS (id z : Nat) : List (List Dat) → SV
  | [] => .nilS
  | r :: l => .own id (l.length + 1) z
def gM (id : Nat) (ty : TypeId) (z : Nat) : List (List Dat) → List (Nat × Blk)
  | [] => []
  | r :: l => [(id, .row ty z (r :: l) false)]
@[simp] theorem gS_app (id z : Nat) (l : List (List Dat)) (x : List Dat) : gS id z (l ++ [x]) = .own id (l.length + 1) z := by cases l <;> simp [gS]
@[simp] theorem gM_app (id : Nat) (ty : TypeId) (z : Nat) (l : List (List Dat)) (x : List Dat) : gM id ty z (l ++ [x]) = [(id, .row ty z (l ++ [x]) false)] := by cases l <;> simp [gM]
@[simp] theorem gS_nil (id z : Nat) : gS id z [] = .nilS := rfl
@[simp] theorem gM_nil (id : Nat) (ty : TypeId) (z : Nat) : gM id ty z [] = [] := rfl
@[simp] theorem gS_cons (id z : Nat) (r : List Dat) (l : List (List Dat)) : gS id z (r :: l) = .own id (l.length + 1) z := rfl
@[simp] theorem gM_cons (id : Nat) (ty : TypeId) (z : Nat) (r : List Dat) (l : List (List Dat)) : gM id ty z (r :: l) = [(id, .row ty z (r :: l) false)] := rfl
theorem gS_ne {id z : Nat} {l : List (List Dat)} (h : l ≠ []) : gS id z l = .own id l.length z := by cases l with | nil => exact absurd rfl h | cons => rfl
theorem ren_gS {n id : Nat} (σ : Nat → Nat) (z : Nat) (l : List (List Dat)) (h : id < n) : renS n σ (gS id z l) = some (gS (σ id) z l) := by cases l <;> simp [gS, renS, renC, h]
attribute [simp] ren_gS
@[simp] theorem len_gS (id z : Nat) (l : List (List Dat)) : lenSV (gS id z l) = some l.length := by cases l <;> rfl
@[simp] theorem mkMem_app (a b : List (Nat × Blk)) (k : Nat) : mkMem (a ++ b) k = match mkMem a k with | some x => some x | none => mkMem b k := by
  induction a with
  | nil => rfl
  | cons p a ih =>
    obtain ⟨t, x⟩ := p
    simp only [List.cons_append, mkMem]
    split
    · rfl
    · exact ih
@[simp] theorem gM_mem {id : Nat} {ty : TypeId} {z : Nat} {l : List (List Dat)} {a : Nat} {b : Blk} : (a, b) ∈ gM id ty z l ↔ a = id ∧ b = .row ty z l false ∧ l ≠ [] := by cases l <;> simp [gM]
@[simp] theorem mkMem_gM (id : Nat) (ty : TypeId) (z : Nat) (l : List (List Dat)) (k : Nat) : mkMem (gM id ty z l) k = if k = id ∧ l ≠ [] then some (.row ty z l false) else none := by cases l <;> simp [gM, mkMem]
theorem gM_fit {id n : Nat} {ty : TypeId} {z : Nat} {l : List (List Dat)} {σ : Nat → Nat} {m : Nat → Option Blk} (h : id < n) (hm : ∀ r o, l = r :: o → m (σ id) = some (.row ty z l false)) : ∀ p ∈ gM id ty z l, p.1 < n ∧ ∃ b, m (σ p.1) = some b ∧ renB n σ p.2 = some b := by
  cases l with
  | nil => simp [gM]
  | cons r o =>
    intro p hp
    simp only [gM, List.mem_singleton] at hp
    subst hp
    exact ⟨h, _, hm r o rfl, rfl⟩
theorem gM_get (id : Nat) (ty : TypeId) (z : Nat) (r : List Dat) (o : List (List Dat)) (m : List (Nat × Blk)) {l : List (List Dat)} (h : l = r :: o) : mkMem (gM id ty z l ++ m) id = some (.row ty z l false) := by subst h; simp [gM, mkMem]
theorem gM_get' (id : Nat) (ty : TypeId) (z : Nat) (r : List Dat) (o : List (List Dat)) {l : List (List Dat)} (h : l = r :: o) : mkMem (gM id ty z l) id = some (.row ty z l false) := by subst h; simp [gM, mkMem]
theorem wrap64_in {x : Int} (h : -9223372036854775808 ≤ x ∧ x ≤ 9223372036854775807) : IntKind.i64.wrap x = x := by rw [IntKind.wrap_i64]; omega
abbrev iD (n : Int) : Dat := .val (.int .i64 n)
abbrev bD (b : Bool) : Dat := .val (.bool b)
/-- Rows of one integer. -/
def iRows (l : List Int) : List (List Dat) := l.map fun n => [iD n]
abbrev intL (l : List Int) : Dat := .list (iRows l)
@[simp] theorem iRows_nil : iRows [] = [] := rfl
@[simp] theorem iRows_app (l m : List Int) : iRows (l ++ m) = iRows l ++ iRows m := List.map_append
@[simp] theorem iRows_one (n : Int) : iRows [n] = [[iD n]] := rfl
@[simp] theorem iRows_len (l : List Int) : (iRows l).length = l.length := List.length_map _
@[simp] theorem iRows_get (l : List Int) (i : Nat) : (iRows l)[i]? = (l[i]?).map fun n => [iD n] := List.getElem?_map
@[simp] theorem iRows_mem (l : List Int) (p : List Dat → Prop) : (∀ r ∈ iRows l, p r) ↔ ∀ n ∈ l, p [iD n] := by simp [iRows]
@[simp] theorem iRows_set (l : List Int) (i : Nat) (n : Int) : (iRows l).set i [iD n] = iRows (l.set i n) := by simp [iRows, List.map_set]
@[simp] theorem ren_und (n : Nat) (σ : Nat → Nat) : renS n σ .und = none := rfl
@[simp] theorem ren_d (n : Nat) (σ : Nat → Nat) (x : Dat) : renS n σ (.d x) = some (.d x) := rfl
@[simp] theorem ren_nilS (n : Nat) (σ : Nat → Nat) : renS n σ .nilS = some .nilS := rfl
@[simp] theorem ren_own (n : Nat) (σ : Nat → Nat) (i k z : Nat) : renS n σ (.own i k z) = if i < n then some (.own (σ i) k z) else none := rfl
@[simp] theorem ren_lin (n : Nat) (σ : Nat → Nat) (i k : Nat) : renS n σ (.lin i k) = if i < n then some (.lin (σ i) k) else none := rfl
@[simp] theorem ren_ptr (n : Nat) (σ : Nat → Nat) (i r j : Nat) : renS n σ (.ptr i r j) = if i < n then some (.ptr (σ i) r j) else none := rfl
@[simp] theorem ren_rptr (n : Nat) (σ : Nat → Nat) (x : List Dat) : renS n σ (.rptr x) = some (.rptr x) := rfl
@[simp] theorem ren_agg (n : Nat) (σ : Nat → Nat) (x : List SV) : renS n σ (.agg x) = match renCs n σ x with | some l => some (.agg l) | none => none := rfl
theorem esc_gS {m : Nat → Option Blk} {id z : Nat} {l : List (List Dat)} {ty : TypeId} {z' : Nat} {f : Bool} (h : ∀ r o, l = r :: o → m id = some (.row ty z' l f)) : ∃ is, esc m (gS id z l) = some (.list l, is) := by
  cases l with
  | nil => exact ⟨[], rfl⟩
  | cons r o => exact ⟨[id], by simp [gS, esc, esc1, h r o rfl]⟩
/-- A function that returns a list of its own. -/
theorem RR.list {t : Tmp} {l : List (List Dat)} {T : Tab} {q : RR T [.tmp t] (.list l)} {n : Nat} {s : St} {id z : Nat} (hs : s.slots t = gS id z l) (h : ∀ r o, l = r :: o → ∃ ty z' f, s.mem id = some (.row ty z' l f)) : q.R .ret n s := by
  refine RR.ret ?_
  have : ∃ is, esc s.mem (gS id z l) = some (.list l, is) := by
    cases l with
    | nil => exact ⟨[], rfl⟩
    | cons r o =>
      obtain ⟨ty, z', f, h⟩ := h r o rfl
      exact ⟨[id], by simp [gS, esc, esc1, h]⟩
  obtain ⟨is, hi⟩ := this
  refine ⟨[gS id z l], [.list l], is ++ [], ?_, ?_, rfl⟩
  · simp only [resSlots, resSlot, hs]
  · simp only [escAll, hi]
section
variable {T : Tab} {ops : Array Oper} {nid : Nat} {o : Oper} {l : List Oper} {s : St} {Q : St → Prop}
theorem step_plain {ns : Nat} {out : Out} {o : Op} (hw : waits o = false) : Step P T ns nid s o out ↔ aop T s.mem nid (opd ns s) o = some out := by
  unfold Step
  rw [waits_fnOf hw]
  exact ⟨fun h => h.elim id fun h => (by rw [stepR_waits h] at hw; cases hw), .inl⟩
@[simp] theorem Exec0_nil : Exec0 P tp T ops ns nid [] s Q = Q s := rfl
/-- The same, where it waits for a call. -/
def ExecC (P : Program) (tp : Bool) (T : Tab) (ops : Array Oper) (ns : Nat) (nid : Nat) (l : List Oper) (s : St) (Q : St → Prop) : Prop := Exec0 P tp T ops ns nid l s Q
@[simp] theorem Exec0_cons : Exec0 P tp T ops ns nid (o :: l) s Q = match guardS ops ns s o, waits o.op with
    | some true, false => match aop T s.mem nid (opd ns s) o.op with
      | some out => Exec0 P tp T ops ns (nid + 1) l (putS s nid o.dst out) Q
      | none => False
    | some false, _ => Exec0 P tp T ops ns (nid + 1) l { s with slots := setSlot s.slots o.dst (.tup []) } Q
    | _, _ => ExecC P tp T ops ns nid (o :: l) s Q := by
  split
  · rename_i hg hf
    simp only [Exec0, hg, step_plain hf, hf]
    cases aop T s.mem nid (opd ns s) o.op <;> simp
  · rename_i hg; simp only [Exec0, hg]
  · rfl
theorem Exec0.callG {G : St → Prop} (hg : guardS ops ns s o = some true) (hw : waits o.op = true) (hG : StepG P tp ns nid s o G) (h : ∀ s', G s' → Exec0 P tp T ops ns (nid + 1) l s' Q) : ExecC P tp T ops ns nid (o :: l) s Q := by
  show Exec0 P tp T ops ns nid (o :: l) s Q
  simp only [Exec0, hg]
  exact .inr ⟨hw, G, hG, h⟩
theorem waits_of {op : Op} {f : FuncId} {args : List Operand} (h : fnOf op = some (f, args)) : waits op = true := by
  cases hw : waits op with
  | true => rfl
  | false => rw [waits_fnOf hw] at h; cases h
theorem Exec0.call {f : FuncId} {args : List Operand} {ds : List Dat} {r : Dat} (is : List Nat) (h3 : ACall P f ds r) (hg : guardS ops ns s o = some true) (hf : fnOf o.op = some (f, args)) (h12 : (evList (opd ns s) args).bind (escAll s.mem) = some (ds, is))
    (h : Exec0 P tp T ops ns (nid + 1) l (putS s nid o.dst { res := .d r, frz := is }) Q) : ExecC P tp T ops ns nid (o :: l) s Q := by
  show Exec0 P tp T ops ns nid (o :: l) s Q
  simp only [Exec0, hg]
  rw [Option.bind_eq_some_iff] at h12
  obtain ⟨svs, h1, h2⟩ := h12
  refine .inl ⟨_, ?_, h⟩
  refine .inl ?_
  rw [hf]
  exact ⟨svs, ds, is, r, h1, h2, h3, rfl⟩
theorem Exec0.callE {f : FuncId} {args : List Operand} {ds : List Dat} {R : Dat → Prop} (h3 : ECall P f ds R) (ht : tp = true) (hg : guardS ops ns s o = some true) (hf : fnOf o.op = some (f, args)) (h12 : (evList (opd ns s) args).bind (escAll s.mem) = some (ds, [])) (hz : AllFrz s.mem)
    (h : ∀ r, R r → Exec0 P tp T ops ns (nid + 1) l (putS s nid o.dst { res := .d r }) Q) : ExecC P tp T ops ns nid (o :: l) s Q := by
  rw [Option.bind_eq_some_iff] at h12
  obtain ⟨svs, h1, h2⟩ := h12
  exact Exec0.callG hg (waits_of hf) (stepG_w ht ⟨f, args, svs, ds, hf, h1, h2, h3, hz⟩) fun s' ⟨r, hr, e⟩ => e ▸ h r hr
theorem Exec0.callW {f : FuncId} {args : List Operand} {ds : List Dat} {r : Dat} (h3 : WCall P f ds r) (ht : tp = true) (hg : guardS ops ns s o = some true) (hf : fnOf o.op = some (f, args)) (h12 : (evList (opd ns s) args).bind (escAll s.mem) = some (ds, [])) (hz : AllFrz s.mem)
    (h : Exec0 P tp T ops ns (nid + 1) l (putS s nid o.dst { res := .d r }) Q) : ExecC P tp T ops ns nid (o :: l) s Q :=
  Exec0.callE h3.one ht hg hf h12 hz fun _ e => e ▸ h
variable {log : List Foot} {Q2 : St → List Foot → Prop}
@[simp] theorem Exec_nil : Exec P T ops ns nid [] s log Q2 = Q2 s log := rfl
def ExecD (P : Program) (T : Tab) (ops : Array Oper) (ns : Nat) (nid : Nat) (l : List Oper) (s : St) (log : List Foot) (Q : St → List Foot → Prop) : Prop := Exec P T ops ns nid l s log Q
@[simp] theorem Exec_cons : Exec P T ops ns nid (o :: l) s log Q2 = match guardS ops ns s o, waits o.op with
    | some true, false => match aop T s.mem nid (opd ns s) o.op with
      | some out => Exec P T ops ns (nid + 1) l (putS s nid o.dst out) (log ++ [footOf ops nid s o (some out)]) Q2
      | none => False
    | some false, _ => Exec P T ops ns (nid + 1) l { s with slots := setSlot s.slots o.dst (.tup []) } (log ++ [footOf ops nid s o none]) Q2
    | _, _ => ExecD P T ops ns nid (o :: l) s log Q2 := by
  split
  · rename_i hg hf
    simp only [Exec, hg, step_plain hf]
    cases aop T s.mem nid (opd ns s) o.op <;> simp
  · rename_i hg; simp only [Exec, hg]
  · rfl
theorem Exec.call {f : FuncId} {args : List Operand} {ds : List Dat} {r : Dat} (is : List Nat) (h3 : ACall P f ds r) (hg : guardS ops ns s o = some true) (hf : fnOf o.op = some (f, args)) (h12 : (evList (opd ns s) args).bind (escAll s.mem) = some (ds, is))
    (h : Exec P T ops ns (nid + 1) l (putS s nid o.dst { res := .d r, frz := is }) (log ++ [footOf ops nid s o (some { res := .d r, frz := is })]) Q2) : ExecD P T ops ns nid (o :: l) s log Q2 := by
  show Exec P T ops ns nid (o :: l) s log Q2
  simp only [Exec, hg]
  rw [Option.bind_eq_some_iff] at h12
  obtain ⟨svs, h1, h2⟩ := h12
  refine ⟨_, ?_, h⟩
  refine .inl ?_
  rw [hf]
  exact ⟨svs, ds, is, r, h1, h2, h3, rfl⟩
end
theorem maxLen_small {n : Nat} (h : n ≤ 1000000) : n ≤ maxLen := by simp only [maxLen]; omega
attribute [simp] footOf guardSlot idsRead looks slotsOf idsOf idsOf1 idsWritten Op.operands Call.operands
@[simp] theorem len_list (rows : List (List Dat)) : lenSV (.d (.list rows)) = some rows.length := rfl
@[simp] theorem len_own (i n z : Nat) : lenSV (.own i n z) = some n := rfl
@[simp] theorem len_nilS : lenSV .nilS = some 0 := rfl
@[simp] theorem len_lin (i n : Nat) : lenSV (.lin i n) = some n := rfl
attribute [simp] ren0 ren0s
attribute [simp] isNilL
attribute [simp] maxLen_small fitsB_small guardS dstOk waits fnOf aop aopR opd putS memApp frzM constSV cSV cD SV.fit SV.cells SV.one Dat.one binSV intBin intsOf fieldOf loadSV indexSV partSV intOp boundOr sliceSV mk mkD
  evParts rowsOf spliceD splice srcRows storeOut appendOut esc1 escL esc frzB placeOf fillSV knownB evList escAll TK.agg CondG thenP blockP mkSt resSlots resSlot resD Returns renCs renC renB
end Go.Proofs.Ytjjoiihgpkhndaa.Eng

/-
  The engine, part R: a cut in a walk; calls that return one of some data. No program is named here.
-/
namespace Go.Proofs.Ytjjoiihgpkhndaa.Eng
open Go.RowKit
variable {P : Program} {tp : Bool} {ns : Nat}

/-- What follows, under a name: a state that several ways lead to. -/
structure JJ (n : Nat) (l : List (Nat × SV)) (m : List (Nat × Blk)) where
  K : Nat → St → Prop
  h : ∀ n' s', (∃ σ, Fits n l m σ s') → K n' s'
theorem JJ.go {n : Nat} {l : List (Nat × SV)} {m : List (Nat × Blk)} {k : JJ n l m} {n' : Nat} {s' : St} (σ : List Nat) (h : Fits n l m σ s') : k.K n' s' := k.h n' s' ⟨σ, h⟩
theorem AWp.cut {x y : Code} {n : Nat} {s : St} {Q : Post} (n' : Nat) (l : List (Nat × SV)) (m : List (Nat × Blk)) (h1 : ∀ k : JJ n' l m, AWp P tp ns x n s (thenP k.K Q)) (h2 : AWp P tp ns y n' (mkSt l m) Q) : AWp P tp ns (.seq x y) n s Q :=
  AWp.seq (h1 ⟨fun n s => AWp P tp ns y n s Q, fun _ _ ⟨_, hf⟩ => AWp.fits hf h2⟩)
theorem AWp.seqFits {x y : Code} {n : Nat} {s : St} {Q : Post} {n' : Nat} {l : List (Nat × SV)} {m : List (Nat × Blk)} (h2 : AWp P tp ns y n' (mkSt l m) Q) (h1 : ∀ k : JJ n' l m, AWp P tp ns x n s (thenP k.K Q)) : AWp P tp ns (.seq x y) n s Q := AWp.cut n' l m h1 h2
theorem KK.plan0 {y : Code} {Q : Post} {G : Prop} (_ : KK P tp ns y Q) (n' : Nat) (l : List (Nat × SV)) (m : List (Nat × Blk)) (h2 : AWp P tp ns y n' (mkSt l m) Q) (h : AWp P tp ns y n' (mkSt l m) Q → G) : G := h h2
theorem KK.plan1 {a y : Code} {Q : Post} {G : Prop} (_ : KK P tp ns (.seq a y) Q) (n' : Nat) (l : List (Nat × SV)) (m : List (Nat × Blk)) (h2 : AWp P tp ns y n' (mkSt l m) Q) (h : AWp P tp ns y n' (mkSt l m) Q → G) : G := h h2
theorem KK.plan2 {a b y : Code} {Q : Post} {G : Prop} (_ : KK P tp ns (.seq a (.seq b y)) Q) (n' : Nat) (l : List (Nat × SV)) (m : List (Nat × Blk)) (h2 : AWp P tp ns y n' (mkSt l m) Q) (h : AWp P tp ns y n' (mkSt l m) Q → G) : G := h h2
theorem KK.plan3 {a b c y : Code} {Q : Post} {G : Prop} (_ : KK P tp ns (.seq a (.seq b (.seq c y))) Q) (n' : Nat) (l : List (Nat × SV)) (m : List (Nat × Blk)) (h2 : AWp P tp ns y n' (mkSt l m) Q) (h : AWp P tp ns y n' (mkSt l m) Q → G) : G := h h2
end Go.Proofs.Ytjjoiihgpkhndaa.Eng

/-
  The engine, part S: calls that are handed own variables by their address. No program is named here.
-/
namespace Go.Proofs.Ytjjoiihgpkhndaa.Eng
open Go.RowKit
variable {P : Program} {T : Tab} {W0 : Fix} {R0 : Nat → Prop} {ns : Nat} {D : Nat → Prop} {s : St} {E : Env} {a : Act} {w : World}

/-- Called with these values, the own variables m (0 .. k-1) in its hands, it returns what says r, with the variables as m' says, among them at most one new block k; all else stays as it is. -/
structure MCall (P : Program) (f : FuncId) (args : List SV) (m : List (Nat × Blk)) (k : Nat) (r : SV) (m' : List (Nat × Blk)) : Prop where
  callable : Callable P f
  calls : ∀ (W0 : Fix) (R0 : Nat → Prop) (E : Env) (w : World) (vs : Array Value), MS W0 R0 (· < k) (mkMem m) E w → vs.size = args.length → (∀ (i : Nat) x v, args[i]? = some x → vs[i]? = some v → Rep E w x v) →
    Calls P f vs w fun e w' => ∃ v E', e = .returned v ∧ MS W0 R0 (· < k + 1) (mkMem m') E' w' ∧ Rep E' w' r v ∧ ∀ i, i < k → (E'.home i).blk = (E.home i).blk

/-! ### Names of the callee's own blocks as names of the caller's -/
def rev0 (k nid : Nat) (σ : Nat → Nat) : SV → Option SV
  | .d x => some (.d x)
  | .nilS => some .nilS
  | .own i n z => if i = k then some (.own nid n z) else none
  | .rptr cs => some (.rptr cs)
  | .ptr i r j => if i = k then some (.ptr nid r j) else if i < k ∧ r = 0 then some (.ptr (σ i) 0 j) else none
  | _ => none
def rev0s (k nid : Nat) (σ : Nat → Nat) : List SV → Option (List SV)
  | [] => some []
  | c :: l => match rev0 k nid σ c, rev0s k nid σ l with
    | some d, some r => some (d :: r)
    | _, _ => none
def revC (k nid : Nat) (σ : Nat → Nat) : SV → Option SV
  | .d x => some (.d x)
  | .nilS => some .nilS
  | .own i n z => if i = k then some (.own nid n z) else none
  | .rptr cs => some (.rptr cs)
  | .ptr i r j => if i = k then some (.ptr nid r j) else if i < k ∧ r = 0 then some (.ptr (σ i) 0 j) else none
  | .fn f xs ys => match rev0s k nid σ xs, rev0s k nid σ ys with
    | some a, some b => some (.fn f a b)
    | _, _ => none
  | _ => none
def revCs (k nid : Nat) (σ : Nat → Nat) : List SV → Option (List SV)
  | [] => some []
  | c :: l => match revC k nid σ c, revCs k nid σ l with
    | some d, some r => some (d :: r)
    | _, _ => none
def revS (k nid : Nat) (σ : Nat → Nat) : SV → Option SV
  | .agg cs => match revCs k nid σ cs with
    | some l => some (.agg l)
    | none => none
  | .und => some .und
  | x => revC k nid σ x
def revB (k nid : Nat) (σ : Nat → Nat) (new : Bool) : Blk → Option Blk
  | .box t cs f => match revCs k nid σ cs with
    | some l => some (.box t l f)
    | none => none
  | .row t z rows f => if new = true then some (.row t z rows f) else none
  | .loop .. => none
  | .map .. => none
  | .part .. => none
  | .iter .. => none
def renN (k nid : Nat) (σ : Nat → Nat) (i : Nat) : Nat := if i = k then nid else σ i
def revM (k nid : Nat) (σ : Nat → Nat) : List (Nat × Blk) → Option (List (Nat × Blk))
  | [] => some []
  | p :: l => match revB k nid σ (p.1 == k) p.2, revM k nid σ l with
    | some b, some r => some ((renN k nid σ p.1, b) :: r)
    | _, _ => none
def memM (mem : Nat → Option Blk) (σ : List Nat) (mm : List (Nat × Blk)) : Nat → Option Blk := fun i => match mkMem mm i with
  | some b => some b
  | none => if σ.contains i = true then none else mem i
/-- The caller's memory knows the callee's names. -/
structure Rev (k nid : Nat) (σ : Nat → Nat) (E' E2 : Env) : Prop where
  ro : ∀ b, E'.ro b → E2.ro b
  new : E'.dom k → E2.dom nid ∧ E2.home nid = E'.home k
  old : ∀ i, i < k → (E2.home (σ i)).blk = (E'.home i).blk
  odom : ∀ i, i < k → E2.dom (σ i)
theorem rev0_rep {k nid : Nat} {σ : Nat → Nat} {E' E2 : Env} (H : Rev k nid σ E' E2) {x y : SV} {v : Value} (h : rev0 k nid σ x = some y) (hx : Rep E' w x v) : Rep E2 w y v := by
  unfold rev0 at h
  split at h
  · cases h; cases hx with | d _ _ h => exact .d _ _ (h.keep H.ro fun _ _ => rfl)
  · cases h; cases hx; exact .nilS
  · split at h
    · rename_i e
      cases h
      cases hx with
      | own _ _ _ h1 h2 =>
        subst e
        obtain ⟨n1, n2⟩ := H.new h1
        rw [← n2]
        exact .own _ _ _ n1 (by rw [n2]; exact h2)
    · cases h
  · cases h; cases hx with | rptr _ b off f h1 h2 h3 h4 => exact .rptr _ b off f (H.ro b h1) h2 h3 fun j c hj => (h4 j c hj).keep H.ro fun _ _ => rfl
  · rename_i i r j
    split at h
    · rename_i e
      cases h
      cases hx with
      | ptr _ _ _ h1 =>
        subst e
        obtain ⟨n1, n2⟩ := H.new h1
        rw [← n2]
        exact .ptr _ _ _ n1
    · split at h
      · rename_i e
        cases h
        cases hx with
        | ptr _ _ _ h1 =>
          obtain ⟨e1, rfl⟩ := e
          rw [← H.old i e1, Nat.zero_mul]
          have := Rep.ptr (E := E2) (w := w) (σ i) 0 j (H.odom i e1)
          rwa [Nat.zero_mul] at this
      · cases h
  · cases h
theorem rev0s_spec {k nid : Nat} {σ : Nat → Nat} : ∀ {l r : List SV}, rev0s k nid σ l = some r → r.length = l.length ∧ ∀ (i : Nat) y, r[i]? = some y → ∃ x, l[i]? = some x ∧ rev0 k nid σ x = some y
  | [], r, h => by cases h; simp
  | c :: l, r, h => by
    simp only [rev0s] at h
    split at h
    · rename_i d r' h1 h2
      cases h
      obtain ⟨k1, k2⟩ := rev0s_spec h2
      refine ⟨by simp [k1], fun i y hy => ?_⟩
      match i with
      | 0 => simp only [List.getElem?_cons_zero, Option.some.injEq] at hy; subst hy; exact ⟨c, rfl, h1⟩
      | i + 1 => exact k2 i y (by simpa using hy)
    · cases h
theorem revC_rep {k nid : Nat} {σ : Nat → Nat} {E' E2 : Env} (H : Rev k nid σ E' E2) {x y : SV} {v : Value} (h : revC k nid σ x = some y) (hx : Rep E' w x v) : Rep E2 w y v := by
  cases x with
  | fn f xs ys =>
    simp only [revC] at h
    split at h
    · rename_i a b h1 h2
      cases h
      obtain ⟨k1, k2⟩ := rev0s_spec h1
      obtain ⟨l1, l2⟩ := rev0s_spec h2
      cases hx with
      | fn _ _ _ us vs u1 u2 u3 u4 =>
        refine .fn f a b us vs (u1.trans k1.symm) (u2.trans l1.symm) (fun i c v hc hv => ?_) fun i c v hc hv => ?_
        · obtain ⟨y, hy, hr⟩ := k2 i c hc
          exact rev0_rep H hr (u3 i y v hy hv)
        · obtain ⟨y, hy, hr⟩ := l2 i c hc
          exact rev0_rep H hr (u4 i y v hy hv)
    · cases h
  | und => exact rev0_rep H (x := .und) h hx
  | d x => exact rev0_rep H (x := .d x) h hx
  | agg cs => exact rev0_rep H (x := .agg cs) h hx
  | nilS => exact rev0_rep H (x := .nilS) h hx
  | lin i n => exact rev0_rep H (x := .lin i n) h hx
  | own i n z => exact rev0_rep H (x := .own i n z) h hx
  | rptr cs => exact rev0_rep H (x := .rptr cs) h hx
  | ptr i r j => exact rev0_rep H (x := .ptr i r j) h hx
  | full rows => exact rev0_rep H (x := .full rows) h hx
  | tup cs => exact rev0_rep H (x := .tup cs) h hx
  | yield id => exact rev0_rep H (x := .yield id) h hx
  | sl i o n c => exact rev0_rep H (x := .sl i o n c) h hx
  | mp i => exact rev0_rep H (x := .mp i) h hx
theorem revC_one {k nid : Nat} {σ : Nat → Nat} {x y : SV} (h : revC k nid σ x = some y) : y.one = x.one := by
  unfold revC at h
  split at h
  · cases h; rfl
  · cases h; rfl
  · split at h <;> cases h; rfl
  · cases h; rfl
  · split at h
    · cases h; rfl
    · split at h <;> cases h; rfl
  · split at h <;> cases h; rfl
  · cases h
theorem revCs_spec {k nid : Nat} {σ : Nat → Nat} : ∀ {l r : List SV}, revCs k nid σ l = some r → r.length = l.length ∧ ∀ (i : Nat) y, r[i]? = some y → ∃ x, l[i]? = some x ∧ revC k nid σ x = some y
  | [], r, h => by cases h; simp
  | c :: l, r, h => by
    simp only [revCs] at h
    split at h
    · rename_i d r' h1 h2
      cases h
      obtain ⟨k1, k2⟩ := revCs_spec h2
      refine ⟨by simp [k1], fun i y hy => ?_⟩
      match i with
      | 0 => simp only [List.getElem?_cons_zero, Option.some.injEq] at hy; subst hy; exact ⟨c, rfl, h1⟩
      | i + 1 => exact k2 i y (by simpa using hy)
    · cases h
theorem revS_rep {k nid : Nat} {σ : Nat → Nat} {E' E2 : Env} (H : Rev k nid σ E' E2) {x y : SV} {v : Value} (h : revS k nid σ x = some y) (hx : Rep E' w x v) : Rep E2 w y v := by
  unfold revS at h
  split at h
  · rename_i cs
    split at h
    · rename_i l hl
      cases h
      obtain ⟨k1, k2⟩ := revCs_spec hl
      cases hx with
      | agg _ vs h1 h2 h3 =>
        refine .agg _ _ (h1.trans k1.symm) (fun c hc => ?_) fun i c v hc hv => ?_
        · obtain ⟨i, hi, rfl⟩ := List.getElem_of_mem hc
          obtain ⟨x, hx, hr⟩ := k2 i _ (List.getElem?_eq_getElem hi)
          rw [revC_one hr]
          exact h2 x (List.mem_of_getElem? hx)
        · obtain ⟨x, hx, hr⟩ := k2 i c hc
          exact revC_rep H hr (h3 i x v hx hv)
    · cases h
  · cases h; exact .und v
  · exact revC_rep H h hx
theorem revB_holds {k nid : Nat} {σ : Nat → Nat} {E' E2 : Env} (H : Rev k nid σ E' E2) {new : Bool} {b b' : Blk} {h h' : Home} (hb : revB k nid σ new b = some b') (hh : Holds E' w h b) (e1 : h'.blk = h.blk) (e2 : new = true → h' = h) : Holds E2 w h' b' ∧ b'.frz = b.frz := by
  unfold revB at hb
  split at hb
  · split at hb
    · rename_i l hl
      cases hb
      obtain ⟨k1, k2⟩ := revCs_spec hl
      cases hh with
      | box _ _ _ cur h1 h2 h3 h4 =>
        refine ⟨.box _ _ _ cur (by rw [e1]; exact h1) (h2.trans k1.symm) (fun c hc => ?_) fun i c v hc hv => ?_, rfl⟩
        · obtain ⟨i, hi, rfl⟩ := List.getElem_of_mem hc
          obtain ⟨x, hx, hr⟩ := k2 i _ (List.getElem?_eq_getElem hi)
          rw [revC_one hr]
          exact h3 x (List.mem_of_getElem? hx)
        · obtain ⟨x, hx, hr⟩ := k2 i c hc
          exact revC_rep H hr (h4 i x v hx hv)
    · cases hb
  · split at hb
    · rename_i e
      cases hb
      obtain rfl := e2 e
      cases hh with
      | row _ _ _ _ cur h1 h2 h3 h4 h5 h6 h7 h8 => exact ⟨.row _ _ _ _ cur h1 h2 h3 h4 h5 h6 h7 fun i j r c v hr hc hv => (h8 i j r c v hr hc hv).keep H.ro fun _ _ => rfl, rfl⟩
    · cases hb
  · cases hb
  · cases hb
  · cases hb
  · cases hb
theorem revM_spec {k nid : Nat} {σ : Nat → Nat} : ∀ {l r : List (Nat × Blk)}, revM k nid σ l = some r → ∀ {i : Nat} {b : Blk}, mkMem r i = some b → ∃ j b0, mkMem l j = some b0 ∧ i = renN k nid σ j ∧ revB k nid σ (j == k) b0 = some b
  | [], r, h, i, b, hb => by cases h; cases hb
  | p :: l, r, h, i, b, hb => by
    simp only [revM] at h
    split at h
    · rename_i b' r' h1 h2
      cases h
      simp only [mkMem] at hb
      split at hb
      · rename_i e
        cases hb
        exact ⟨p.1, p.2, by simp [mkMem], e, h1⟩
      · rename_i e
        obtain ⟨j, b0, k1, k2, k3⟩ := revM_spec h2 hb
        refine ⟨j, b0, ?_, k2, k3⟩
        simp only [mkMem]
        rw [if_neg (fun hj => e (by rw [k2, hj])), k1]
    · cases h
def renSs (n : Nat) (σ : Nat → Nat) : List SV → Option (List SV)
  | [] => some []
  | c :: l => match renS n σ c, renSs n σ l with
    | some d, some r => some (d :: r)
    | _, _ => none
theorem renSs_spec {n : Nat} {σ : Nat → Nat} : ∀ {l r : List SV}, renSs n σ l = some r → r.length = l.length ∧ ∀ (i : Nat) x, l[i]? = some x → ∃ y, r[i]? = some y ∧ renS n σ x = some y
  | [], r, h => by cases h; simp
  | c :: l, r, h => by
    simp only [renSs] at h
    split at h
    · rename_i d r' h1 h2
      cases h
      obtain ⟨k1, k2⟩ := renSs_spec h2
      refine ⟨by simp [k1], fun i x hx => ?_⟩
      match i with
      | 0 => simp only [List.getElem?_cons_zero, Option.some.injEq] at hx; subst hx; exact ⟨d, rfl, h1⟩
      | i + 1 => exact k2 i x (by simpa using hx)
    · cases h

/-! ### The step -/
/-- The callee's walk begins in this world; all blocks but those handed over stay. -/
def fixM (E : Env) (w : World) (σ : List Nat) : Fix := { w := w, U := fun b => b < w.heap.size ∧ ∀ j ∈ σ, (E.home j).blk ≠ b, lt := fun _ h => h.1, g := fun _ => undef }
/-- What is handed over: own variables, under the callee's names. -/
structure Hand (s : St) (σ : List Nat) (k : Nat) (m : List (Nat × Blk)) : Prop where
  len : σ.length = k
  inj : σ.Nodup
  mem : ∀ p ∈ m, p.1 < k ∧ p.2.frz = false ∧ ∃ b, s.mem (σ.getD p.1 0) = some b ∧ renB k (fun i => σ.getD i 0) p.2 = some b
  all : ∀ i, i < k → (mkMem m i).isSome = true
theorem mkMem_of {l : List (Nat × Blk)} {t : Nat} (h : (mkMem l t).isSome = true) : ∃ p ∈ l, p.1 = t := by
  obtain ⟨b, hb⟩ := Option.isSome_iff_exists.1 h
  obtain ⟨p, hp, h1, _⟩ := mkMem_mem hb
  exact ⟨p, hp, h1⟩
theorem renB_frz {n : Nat} {σ : Nat → Nat} {b b' : Blk} (h : renB n σ b = some b') : b.frz = b'.frz := by
  unfold renB at h
  split at h
  · split at h <;> cases h; rfl
  · cases h; rfl
  · cases h
  · cases h
  · cases h
  · cases h
theorem getD_mem {σ : List Nat} {i : Nat} (h : i < σ.length) : σ.getD i 0 ∈ σ := by
  rw [List.getD_eq_getElem?_getD, List.getElem?_eq_getElem h]
  exact List.getElem_mem h
theorem Hand.live {σ : List Nat} {k : Nat} {m : List (Nat × Blk)} (H : Hand s σ k m) {j : Nat} (hj : j ∈ σ) : ∃ b, s.mem j = some b ∧ b.frz = false := by
  obtain ⟨i, hi, rfl⟩ := List.getElem_of_mem hj
  obtain ⟨p, hp, e⟩ := mkMem_of (H.all i (by rw [← H.len]; exact hi))
  obtain ⟨_, h2, b, h3, h4⟩ := H.mem p hp
  have e2 : σ.getD p.1 0 = σ[i] := by rw [e, List.getD_eq_getElem?_getD, List.getElem?_eq_getElem hi]; rfl
  rw [e2] at h3
  exact ⟨b, h3, by rw [← renB_frz h4]; exact h2⟩
theorem ms_in (h : Sim W0 R0 ns D s E a w) {k : Nat} {σ : List Nat} {m : List (Nat × Blk)} (H : Hand s σ k m) : MS (fixM E w σ) E.ro (· < k) (mkMem m) (E.ren k fun i => σ.getD i 0) w := by
  have hl : ∀ p ∈ m, σ.getD p.1 0 ∈ σ := fun p hp => getD_mem (by rw [H.len]; exact (H.mem p hp).1)
  refine ⟨Kept.refl _ _, fun _ h => h, fun _ h => .inl h, h.rlt, fun i hi => hi.1, fun i b hi => ?_, fun i b hi => ?_, fun i b hi => ?_, fun i b hi => ?_, fun i j b c hi hj hij => ?_⟩
  · obtain ⟨p, hp, rfl, rfl⟩ := mkMem_mem hi
    obtain ⟨h1, _, b, h2, h3⟩ := H.mem p hp
    exact ⟨h1, h.live _ b h2⟩
  · obtain ⟨p, hp, rfl, rfl⟩ := mkMem_mem hi
    obtain ⟨h1, _, b, h2, h3⟩ := H.mem p hp
    exact (renB_holds h3 (h.mem _ b h2)).1
  · obtain ⟨p, hp, rfl, rfl⟩ := mkMem_mem hi
    exact fun hu => hu.2 _ (hl p hp) rfl
  · obtain ⟨p, hp, rfl, rfl⟩ := mkMem_mem hi
    obtain ⟨h1, _, b, h2, h3⟩ := H.mem p hp
    rw [(renB_holds h3 (h.mem _ b h2)).2]
    exact h.frz _ b h2
  · obtain ⟨p, hp, rfl, rfl⟩ := mkMem_mem hi
    obtain ⟨q, hq, rfl, rfl⟩ := mkMem_mem hj
    obtain ⟨h1, _, b, h2, h3⟩ := H.mem p hp
    obtain ⟨k1, _, c, k2, k3⟩ := H.mem q hq
    refine h.inj _ _ b c h2 k2 fun e => hij ?_
    have e1 : p.1 < σ.length := by rw [H.len]; exact h1
    have e2 : q.1 < σ.length := by rw [H.len]; exact k1
    have e : σ.getD p.1 0 = σ.getD q.1 0 := e
    rw [List.getD_eq_getElem?_getD, List.getD_eq_getElem?_getD, List.getElem?_eq_getElem e1, List.getElem?_eq_getElem e2] at e
    exact (List.getElem_inj H.inj).1 e
def envM (E E' : Env) (k nid : Nat) : Env := { ro := E'.ro, dom := fun i => (i = nid ∧ E'.dom k) ∨ E.dom i, home := fun i => if i = nid then E'.home k else E.home i }
theorem ms_out (h : Sim W0 R0 ns D s E a w) {nid : Nat} (hD : ¬ D nid) {k : Nat} {σ : List Nat} {m m' mm : List (Nat × Blk)} (H : Hand s σ k m) {E' : Env} {w' : World} (M : MS (fixM E w σ) E.ro (· < k + 1) (mkMem m') E' w')
    (hh : ∀ i, i < k → (E'.home i).blk = (E.home (σ.getD i 0)).blk) (hmm : revM k nid (fun i => σ.getD i 0) m' = some mm) :
    Sim W0 R0 ns (fun i => i = nid ∨ D i) { s with mem := memM s.mem σ mm } (envM E E' k nid) a w' ∧ Rev k nid (fun i => σ.getD i 0) E' (envM E E' k nid) := by
  have hnd : ¬ E.dom nid := fun hk => hD (h.dom _ hk)
  have hσ : ∀ i, i < k → σ.getD i 0 ∈ σ := fun i hi => getD_mem (by rw [H.len]; exact hi)
  have hsd : ∀ j ∈ σ, E.dom j := fun j hj => by obtain ⟨b, hb, _⟩ := H.live hj; exact h.live j b hb
  have hne : ∀ i, E.dom i → (envM E E' k nid).home i = E.home i := fun i hi => if_neg (fun e : i = nid => hnd (e ▸ hi))
  have hR : Rev k nid (fun i => σ.getD i 0) E' (envM E E' k nid) := ⟨fun _ h => h, fun hk => ⟨.inl ⟨rfl, hk⟩, if_pos rfl⟩, fun i hi => by
    show ((envM E E' k nid).home (σ.getD i 0)).blk = _
    rw [hne _ (hsd _ (hσ i hi)), hh i hi], fun i hi => .inr (hsd _ (hσ i hi))⟩
  have hU : ∀ b, W0.U b → (fixM E w σ).U b := fun b hb => ⟨Nat.lt_of_lt_of_le (W0.lt b hb) h.below.size, fun j hj e => by
    obtain ⟨c, hc, _⟩ := H.live hj
    exact h.base j c hc (e ▸ hb)⟩
  have hrou : ∀ b, E.ro b → (fixM E w σ).U b := fun b hb => ⟨h.rlt b hb, fun j hj e => by
    obtain ⟨c, hc, hf⟩ := H.live hj
    have := (h.frz j c hc).2 (e ▸ hb)
    rw [hf] at this
    cases this⟩
  have hw : ∀ b, E.ro b → w'.heap[b]? = w.heap[b]? := fun b hb => M.below.block b (hrou b hb)
  have hE : E.le (envM E E' k nid) := ⟨fun b hb => M.ro0 b hb, fun i hi => .inr hi, hne⟩
  have cls : ∀ i b, memM s.mem σ mm i = some b → (∃ j b0, mkMem m' j = some b0 ∧ i = renN k nid (fun i => σ.getD i 0) j ∧ revB k nid (fun i => σ.getD i 0) (j == k) b0 = some b ∧ ((envM E E' k nid).home i).blk = (E'.home j).blk ∧ ((j == k) = true → (envM E E' k nid).home i = E'.home j)) ∨
      (s.mem i = some b ∧ (envM E E' k nid).home i = E.home i ∧ (fixM E w σ).U (E.home i).blk) := by
    intro i b hb
    unfold memM at hb
    split at hb
    · rename_i b' hb'
      cases hb
      obtain ⟨j, b0, k1, k2, k3⟩ := revM_spec hmm hb'
      refine .inl ⟨j, b0, k1, k2, k3, ?_⟩
      have hj : j < k + 1 := M.dom j (M.live j b0 k1)
      unfold renN at k2
      split at k2
      · rename_i e
        subst e k2
        exact ⟨congrArg Home.blk (if_pos rfl), fun _ => if_pos rfl⟩
      · rename_i e
        subst k2
        have hjk : j < k := by omega
        refine ⟨hR.old j hjk, fun e' => absurd (by simpa using e') e⟩
    · split at hb
      · cases hb
      · rename_i hc
        have hid := h.live i b hb
        refine .inr ⟨hb, hne i hid, (h.mem i b hb).lt, fun j hj e => ?_⟩
        obtain ⟨c, hc2, _⟩ := H.live hj
        refine h.inj j i c b hc2 hb (fun e' => hc ?_) e
        rw [← e']
        simpa using hj
  refine ⟨⟨h.below.trans (M.below.mono hU), fun b hb => M.ro0 b (h.ro0 b hb), fun b hb => ?_, M.rlt, h.size, h.dfr, fun t => (h.slot t).keep hE hw, fun i hi => ?_, fun i b hi => ?_, fun i b hi => ?_, fun i b hi => ?_, fun i b hi => ?_, fun i j b c hi hj hij => ?_, fun i hi => ⟨.inr (h.le0 i hi).1, (hne i (h.le0 i hi).1).trans (h.le0 i hi).2⟩, fun b hb => ⟨M.ro0 b (h.re0 b hb).1, (hw b (h.re0 b hb).1).trans (h.re0 b hb).2⟩⟩, hR⟩
  · rcases M.ro1 b hb with k1 | k1
    · exact h.ro1 b k1
    · exact .inr fun hu => k1 (hU b hu)
  · rcases hi with ⟨e, _⟩ | hi
    · exact .inl e
    · exact .inr (h.dom i hi)
  · rcases cls i b hi with ⟨j, b0, k1, k2, k3, k4, k5⟩ | ⟨k1, _, _⟩
    · have hj : j < k + 1 := M.dom j (M.live j b0 k1)
      unfold renN at k2
      split at k2
      · rename_i e
        exact .inl ⟨k2, e ▸ M.live j b0 k1⟩
      · rename_i e
        rw [k2]
        exact .inr (hsd _ (hσ j (by omega)))
    · exact .inr (h.live i b k1)
  · rcases cls i b hi with ⟨j, b0, k1, k2, k3, k4, k5⟩ | ⟨k1, k2, k3⟩
    · exact (revB_holds hR k3 (M.mem j b0 k1) k4 k5).1
    · rw [k2]
      exact (h.mem i b k1).keep hE hw (M.below.block _ k3)
  · rcases cls i b hi with ⟨j, b0, k1, k2, k3, k4, k5⟩ | ⟨k1, k2, k3⟩
    · rw [k4]; exact fun hu => M.base j b0 k1 (hU _ hu)
    · rw [k2]; exact h.base i b k1
  · rcases cls i b hi with ⟨j, b0, k1, k2, k3, k4, k5⟩ | ⟨k1, k2, k3⟩
    · rw [k4, (revB_holds hR k3 (M.mem j b0 k1) k4 k5).2]; exact M.frz j b0 k1
    · rw [k2]
      refine (h.frz i b k1).trans ⟨fun hk => M.ro0 _ hk, fun hk => ?_⟩
      rcases M.ro1 _ hk with h1 | h1
      · exact h1
      · exact absurd k3 h1
  · rcases cls i b hi with ⟨i', b0, k1, k2, k3, k4, k5⟩ | ⟨k1, k2, k3⟩
    · rcases cls j c hj with ⟨j', c0, l1, l2, l3, l4, l5⟩ | ⟨l1, l2, l3⟩
      · rw [k4, l4]
        exact M.inj i' j' b0 c0 k1 l1 fun e => hij (by rw [k2, l2, e])
      · rw [k4, l2]
        exact fun e => M.base i' b0 k1 (e ▸ l3)
    · rcases cls j c hj with ⟨j', c0, l1, l2, l3, l4, l5⟩ | ⟨l1, l2, l3⟩
      · rw [k2, l4]
        exact fun e => M.base j' c0 l1 (e ▸ k3)
      · rw [k2, l2]
        exact h.inj i j b c k1 l1 hij
/-- A call that is handed own variables. -/
theorem stepG_m {tp : Bool} {nid : Nat} {o : Oper} {f : FuncId} {svs margs : List SV} {k : Nat} {σ : List Nat} {m m' mm : List (Nat × Blk)} {r res : SV} (h1 : calleeS ns s o.op = some (f, svs))
    (hc : MCall P f margs m k r m') (H : Hand s σ k m) (ha : renSs k (fun i => σ.getD i 0) margs = some svs) (hr : revS k nid (fun i => σ.getD i 0) r = some res) (hmm : revM k nid (fun i => σ.getD i 0) m' = some mm) :
    StepG P tp ns nid s o fun s' => s' = { slots := setSlot s.slots o.dst res, mem := memM s.mem σ mm } := by
  intro W0 R0 D E a w _ h hD hd K Q hK
  obtain ⟨q1, q2⟩ := renSs_spec ha
  obtain ⟨vs, hex, v1, v2⟩ := calleeS_run h h1 hc.callable
  unfold Oper.wp
  rw [hex, Oper.upon_enter]
  refine (hc.calls _ _ _ w vs (ms_in h H) (by omega) fun i x v hx hv => ?_).mono ?_
  · obtain ⟨y, hy, hxy⟩ := q2 i x hx
    exact renS_rep hxy (v2 i y v hy hv)
  · rintro e w' ⟨v, E', rfl, M, hv, hh⟩
    obtain ⟨h4, hR⟩ := ms_out h hD H M hh hmm
    exact hK _ _ _ w' rfl (h4.put hd (revS_rep hR hr hv))
theorem Exec0.callM {tp : Bool} {T : Tab} {ops : Array Oper} {nid : Nat} {o : Oper} {l : List Oper} {Q : St → Prop} {f : FuncId} {margs : List SV} {k : Nat} {m m' : List (Nat × Blk)} {r : SV} (σ : List Nat) (hc : MCall P f margs m k r m') (hg : guardS ops ns s o = some true)
    (h1 : ∃ svs, calleeS ns s o.op = some (f, svs) ∧ renSs k (fun i => σ.getD i 0) margs = some svs) (hm : ∀ p ∈ m, p.1 < k ∧ p.2.frz = false ∧ ∃ b, s.mem (σ.getD p.1 0) = some b ∧ renB k (fun i => σ.getD i 0) p.2 = some b) (hk : σ.length = k ∧ σ.Nodup ∧ (List.range k).all (fun i => (mkMem m i).isSome) = true)
    (h : match revS k nid (fun i => σ.getD i 0) r, revM k nid (fun i => σ.getD i 0) m' with
      | some res, some mm => Exec0 P tp T ops ns (nid + 1) l { slots := setSlot s.slots o.dst res, mem := memM s.mem σ mm } Q
      | _, _ => False) : ExecC P tp T ops ns nid (o :: l) s Q := by
  obtain ⟨svs, e1, e2⟩ := h1
  split at h
  · rename_i res mm hr hmm
    exact Exec0.callG hg (calleeS_waits e1) (stepG_m e1 hc ⟨hk.1, hk.2.1, hm, fun i hi => List.all_eq_true.1 hk.2.2 i (List.mem_range.2 hi)⟩ e2 hr hmm) fun s' e => e ▸ h
  · exact h.elim

/-! ### Functions that are handed own variables -/
/-- Under numbers beyond all slots, the addresses that a function is handed. -/
def ghosts (ns k : Nat) : List (Nat × SV) := (List.range k).map fun i => (ns + i, .ptr i 0 0)
/-- What a function's walk begins with. -/
def startM (ns k : Nat) (args : List SV) : List (Nat × SV) := (args.zipIdx.map fun p => (p.2, p.1)) ++ ghosts ns k
/-- It ends, and returns data. -/
def EndsD (T : Tab) (rs : List ResultVar) (ns k : Nat) (d : Dat) (m' : List (Nat × Blk)) (s : St) : Prop :=
  ∃ σ xs ds is, resSlots T s rs = some xs ∧ escAll s.mem xs = some (ds, is) ∧ resD ds = d ∧ Fits (k + 1) (ghosts ns k) m' σ { s with mem := frzM s.mem is }
/-- It ends, and returns what points into own blocks. -/
def EndsO (rs : List ResultVar) (ns k : Nat) (r : SV) (m' : List (Nat × Blk)) (s : St) : Prop :=
  ∃ σ t, rs = [.tmp t] ∧ Fits (k + 1) ((t, r) :: ghosts ns k) m' σ s
theorem ptr_inv {id i j : Nat} {v : Value} (h : Rep E w (.ptr id i j) v) : v = .pointer (some ⟨(E.home id).blk, i * (E.home id).esz + j, none⟩) := by cases h; rfl
theorem ghost_home {k : Nat} {l : List (Nat × SV)} {m' : List (Nat × Blk)} {σ : List Nat} {hm : Nat → Nat} (h : Sim W0 R0 ns D s E a w) (hg : ∀ i, i < k → W0.g (ns + i) = .pointer (some ⟨hm i, 0, none⟩)) (hf : Fits (k + 1) l m' σ s) (hl : ∀ p ∈ ghosts ns k, p ∈ l) :
    ∀ i, i < k → ((E.ren (k + 1) fun i => σ.getD i 0).home i).blk = hm i := fun i hi => by
  have h1 := hf.slots _ (hl (ns + i, .ptr i 0 0) (List.mem_map.2 ⟨i, List.mem_range.2 hi, rfl⟩))
  have h2 := h.slot (ns + i)
  rw [if_neg (by omega), hg i hi] at h2
  simp only [renS, renC] at h1
  rw [if_pos (by omega)] at h1
  cases h1' : s.slots (ns + i) with
  | ptr i' r' j' =>
    rw [h1'] at h1 h2
    simp only [Option.some.injEq, SV.ptr.injEq] at h1
    obtain ⟨rfl, rfl, rfl⟩ := h1
    have h3 := ptr_inv h2
    simp only [Value.pointer.injEq, Option.some.injEq, Addr.mk.injEq] at h3
    exact h3.1.symm
  | _ => rw [h1'] at h1; simp at h1
theorem start_sim (hp : W0.plain) {args : List SV} {m : List (Nat × Blk)} {k : Nat} {vs : Array Value} (M : MS W0 R0 (· < k) (mkMem m) E w) (hl : args.length ≤ ns) (hall : (List.range k).all (fun i => (mkMem m i).isSome) = true) (hg : ∀ i, i < k → W0.g (ns + i) = .pointer (some ⟨(E.home i).blk, 0, none⟩))
    (hsz : vs.size = args.length) (hrep : ∀ (i : Nat) x v, args[i]? = some x → vs[i]? = some v → Rep E w x v) :
    Sim W0 R0 ns (· < k) (mkSt (startM ns k args) m) E { tmps := vs ++ Array.replicate (ns - vs.size) undef, defers := [] } w := by
  refine ⟨M.below, M.ro0, M.ro1, M.rlt, by simp; omega, hp.ds.symm, fun t => ?_, M.dom, M.live, M.mem, M.base, M.frz, M.inj, fun i hi => absurd hi (hp.dom i), fun b hb => absurd hb (hp.ro b)⟩
  simp only [mkSt]
  rcases mkSlots_mem (l := startM ns k args) (t := t) with e | ⟨p, hp, rfl, e⟩
  · rw [e]; exact .und _
  · rw [e]
    rcases List.mem_append.1 hp with hp | hp
    · obtain ⟨q, hq, rfl⟩ := List.mem_map.1 hp
      have hq' := List.mem_zipIdx_iff_getElem?.1 hq
      simp only at hq' ⊢
      have hlt : q.2 < args.length := (List.getElem?_eq_some_iff.1 hq').1
      have hlt' : q.2 < vs.size := by omega
      rw [if_pos (by omega)]
      have e : (vs ++ Array.replicate (ns - vs.size) undef).getD q.2 undef = vs[q.2] := by simp [Array.getElem?_append, hlt']
      rw [e]
      exact hrep q.2 _ _ hq' (Array.getElem?_eq_getElem hlt')
    · obtain ⟨i, hi, rfl⟩ := List.mem_map.1 hp
      have hik := List.mem_range.1 hi
      obtain ⟨b, hb⟩ := Option.isSome_iff_exists.1 (List.all_eq_true.1 hall i hi)
      simp only
      rw [if_neg (by omega), hg i hik]
      have := Rep.ptr (E := E) (w := w) i 0 0 (M.live i b hb)
      rwa [Nat.zero_mul, Nat.zero_add] at this
theorem mcall_o (hT : TabOk P T) {f : FuncId} {fn : Func} {c : Code} (hf : P.funcs[f]? = some fn) (hn : (fn.name == "runtime.NumGoroutine") = false) (hb : fn.body = some c) {args : List SV} {m : List (Nat × Blk)} {k : Nat} {r : SV} {m' : List (Nat × Blk)} (hl : args.length ≤ fn.ntmps) (hr : resOk fn.results.toList fn.ntmps = true) (hall : (List.range k).all (fun i => (mkMem m i).isSome) = true)
    (h : AWp P false fn.ntmps c k (mkSt (startM fn.ntmps k args) m) (fun e _ s => (e = .normal ∨ e = .ret) ∧ EndsO fn.results.toList fn.ntmps k r m' s)) : MCall P f args m k r m' :=
  ⟨callable_of hf hn (by rw [hb]; rfl), fun W0 R0 E w vs M hsz hrep => by
    refine calls_of_wp hf hb ?_
    let W1 : Fix := { W0 with g := fun t => .pointer (some ⟨(E.home (t - fn.ntmps)).blk, 0, none⟩), ds := [], e0 := ⟨fun _ => False, fun _ => False, fun _ => ⟨0, 0, 0⟩⟩ }
    have hp1 : W1.plain := ⟨rfl, fun _ h => h, fun _ h => h⟩
    have hg : ∀ i, i < k → W1.g (fn.ntmps + i) = .pointer (some ⟨(E.home i).blk, 0, none⟩) := fun i _ => by simp [W1]
    have M1 : MS W1 R0 (· < k) (mkMem m) E w := ⟨M.below, M.ro0, M.ro1, M.rlt, M.dom, M.live, M.mem, M.base, M.frz, M.inj⟩
    refine wp_mono (h W1 R0 E _ w ⟨hp1, fun h => by cases h⟩ (start_sim hp1 M1 hl hall hg hsz hrep)) ?_
    rintro e a' w' ⟨n', s', E', hs, he, σ, t, ht, hfit⟩
    have h2 := hs.fitsE hp1 hfit
    have hm : MS W0 R0 (· < k + 1) (mkMem m') (E'.ren (k + 1) fun i => σ.getD i 0) w' := ⟨h2.below, h2.ro0, h2.ro1, h2.rlt, h2.dom, h2.live, h2.mem, h2.base, h2.frz, h2.inj⟩
    have hh := ghost_home hs hg hfit fun p hp => List.mem_cons_of_mem _ hp
    have fin : a'.defers = [] ∧ ∃ v, (results fn a'.tmps).run P w' = .ok v w' ∧ ∃ v' E2, Ending.returned v = .returned v' ∧ MS W0 R0 (· < k + 1) (mkMem m') E2 w' ∧ Rep E2 w' r v' ∧ ∀ i, i < k → (E2.home i).blk = (E.home i).blk := by
      obtain ⟨vs', r1, r2, r3⟩ := results_run hT hs hr (xs := [s'.slots t]) (by rw [ht]; rfl)
      refine ⟨hs.dfr, _, r1, _, _, rfl, hm, ?_, hh⟩
      match vs', r2, r3 with
      | [v], _, r3 => exact renS_rep (hfit.slots (t, r) List.mem_cons_self) (r3 0 _ v rfl rfl)
    rcases he with rfl | rfl
    · exact fin
    · exact fin⟩
theorem mcall_d (hT : TabOk P T) {f : FuncId} {fn : Func} {c : Code} (hf : P.funcs[f]? = some fn) (hn : (fn.name == "runtime.NumGoroutine") = false) (hb : fn.body = some c) {args : List SV} {m : List (Nat × Blk)} {k : Nat} {d : Dat} {m' : List (Nat × Blk)} (hl : args.length ≤ fn.ntmps) (hr : resOk fn.results.toList fn.ntmps = true) (hall : (List.range k).all (fun i => (mkMem m i).isSome) = true)
    (h : AWp P false fn.ntmps c k (mkSt (startM fn.ntmps k args) m) (fun e _ s => (e = .normal ∨ e = .ret) ∧ EndsD T fn.results.toList fn.ntmps k d m' s)) : MCall P f args m k (.d d) m' :=
  ⟨callable_of hf hn (by rw [hb]; rfl), fun W0 R0 E w vs M hsz hrep => by
    refine calls_of_wp hf hb ?_
    let W1 : Fix := { W0 with g := fun t => .pointer (some ⟨(E.home (t - fn.ntmps)).blk, 0, none⟩), ds := [], e0 := ⟨fun _ => False, fun _ => False, fun _ => ⟨0, 0, 0⟩⟩ }
    have hp1 : W1.plain := ⟨rfl, fun _ h => h, fun _ h => h⟩
    have hg : ∀ i, i < k → W1.g (fn.ntmps + i) = .pointer (some ⟨(E.home i).blk, 0, none⟩) := fun i _ => by simp [W1]
    have M1 : MS W1 R0 (· < k) (mkMem m) E w := ⟨M.below, M.ro0, M.ro1, M.rlt, M.dom, M.live, M.mem, M.base, M.frz, M.inj⟩
    refine wp_mono (h W1 R0 E _ w ⟨hp1, fun h => by cases h⟩ (start_sim hp1 M1 hl hall hg hsz hrep)) ?_
    rintro e a' w' ⟨n', s', E', hs, he, σ, xs, ds, is, hxs, h1, hd, hfit⟩
    obtain ⟨vs', r1, r2, r3⟩ := results_run hT hs hr hxs
    obtain ⟨E1, e1, hs2, e3, e4, e5⟩ := hs.freezes is (escAll_ids h1)
    obtain ⟨q1, q2⟩ := escAll_rep (m0 := s'.mem) (m := frzM s'.mem is) (fun i t z rows f hh => frzM_row hh) (fun i b hb => hs2.mem i b hb) h1 e3
    have h2 := hs2.fitsE hp1 hfit
    have hD : ∀ (j : Nat) d v, ds[j]? = some d → vs'[j]? = some v → RepD E1.ro w' d v := by
      intro j d v hd hv
      have hj : j < xs.length := by rw [← r2]; exact (List.getElem?_eq_some_iff.1 hv).1
      exact q2 j _ d v (List.getElem?_eq_getElem hj) hd ((r3 j _ v (List.getElem?_eq_getElem hj) hv).keep e1 fun _ _ => rfl)
    have hm : MS W0 R0 (· < k + 1) (mkMem m') (E1.ren (k + 1) fun i => σ.getD i 0) w' := ⟨h2.below, h2.ro0, h2.ro1, h2.rlt, h2.dom, h2.live, h2.mem, h2.base, h2.frz, h2.inj⟩
    have hh := ghost_home hs2 hg hfit fun p hp => hp
    have fin : a'.defers = [] ∧ ∃ v, (results fn a'.tmps).run P w' = .ok v w' ∧ ∃ v' E2, Ending.returned v = .returned v' ∧ MS W0 R0 (· < k + 1) (mkMem m') E2 w' ∧ Rep E2 w' (.d d) v' ∧ ∀ i, i < k → (E2.home i).blk = (E.home i).blk := by
      refine ⟨hs.dfr, _, r1, _, _, rfl, hm, .d _ _ ?_, hh⟩
      show RepD E1.ro w' d _
      have hvl : vs'.length = ds.length := by rw [r2, q1]
      subst hd
      match ds, vs', hvl, hD with
      | [], [], _, _ => exact .tup _ _ rfl (by simp)
      | [d], [v], _, hD => exact hD 0 d v rfl rfl
      | d :: d' :: ds, v :: v' :: vs', hvl, hD => exact .tup _ _ (by simpa using hvl) fun i c v hc hv => hD i c v hc (by simpa using hv)
    rcases he with rfl | rfl
    · exact fin
    · exact fin⟩
end Go.Proofs.Ytjjoiihgpkhndaa.Eng

/-
  The engine, part U: names for the ends of functions that are handed own variables; what simp computes of them. No program is named here.
-/
namespace Go.Proofs.Ytjjoiihgpkhndaa.Eng
open Go.RowKit
variable {P : Program}

/-- What follows, under a name: the end of a function that returns what points into own blocks. -/
structure RO (rs : List ResultVar) (ns k : Nat) (r : SV) (m' : List (Nat × Blk)) where
  R : Post
  h : ∀ e n s, (e = .normal ∨ e = .ret) → EndsO rs ns k r m' s → R e n s
section
variable {T : Tab} {rs : List ResultVar} {ns k : Nat} {r : SV} {d : Dat} {m' : List (Nat × Blk)} {n : Nat} {s : St}
theorem RO.ret {q : RO rs ns k r m'} (σ : List Nat) (t : Tmp) (ht : rs = [.tmp t]) (h : Fits (k + 1) ((t, r) :: ghosts ns k) m' σ s) : q.R .ret n s := q.h _ n s (.inr rfl) ⟨σ, t, ht, h⟩
theorem RO.normal {q : RO rs ns k r m'} (σ : List Nat) (t : Tmp) (ht : rs = [.tmp t]) (h : Fits (k + 1) ((t, r) :: ghosts ns k) m' σ s) : q.R .normal n s := q.h _ n s (.inl rfl) ⟨σ, t, ht, h⟩
/-- What follows, under a name: the end of a function that returns data. -/
structure RD (T : Tab) (rs : List ResultVar) (ns k : Nat) (d : Dat) (m' : List (Nat × Blk)) where
  R : Post
  h : ∀ e n s, (e = .normal ∨ e = .ret) → EndsD T rs ns k d m' s → R e n s
theorem RD.ret {q : RD T rs ns k d m'} (σ is : List Nat) (h1 : ∃ xs ds, resSlots T s rs = some xs ∧ escAll s.mem xs = some (ds, is) ∧ resD ds = d) (h : Fits (k + 1) (ghosts ns k) m' σ { s with mem := frzM s.mem is }) : q.R .ret n s :=
  q.h _ n s (.inr rfl) (by obtain ⟨xs, ds, h0, h1, h2⟩ := h1; exact ⟨σ, xs, ds, is, h0, h1, h2, h⟩)
theorem RD.normal {q : RD T rs ns k d m'} (σ is : List Nat) (h1 : ∃ xs ds, resSlots T s rs = some xs ∧ escAll s.mem xs = some (ds, is) ∧ resD ds = d) (h : Fits (k + 1) (ghosts ns k) m' σ { s with mem := frzM s.mem is }) : q.R .normal n s :=
  q.h _ n s (.inl rfl) (by obtain ⟨xs, ds, h0, h1, h2⟩ := h1; exact ⟨σ, xs, ds, is, h0, h1, h2, h⟩)
end
theorem mcallO {T : Tab} (hT : TabOk P T) {f : FuncId} {fn : Func} {c : Code} {nt : Nat} (hf : P.funcs[f]? = some fn) (en : fn.ntmps = nt) (hn : (fn.name == "runtime.NumGoroutine") = false) (hb : fn.body = some c) {args : List SV} {m : List (Nat × Blk)} {k : Nat} {r : SV} {m' : List (Nat × Blk)} (hl : args.length ≤ nt) (hr : resOk fn.results.toList nt = true) (hall : (List.range k).all (fun i => (mkMem m i).isSome) = true)
    {l : List (Nat × SV)} (e : startM nt k args = l) (h : ∀ q : RO fn.results.toList nt k r m', AWp P false nt c k (mkSt l m) q.R) : MCall P f args m k r m' := by
  subst en
  exact mcall_o hT hf hn hb hl hr hall (e ▸ h ⟨fun e _ s => (e = .normal ∨ e = .ret) ∧ EndsO fn.results.toList fn.ntmps k r m' s, fun _ _ _ h1 h2 => ⟨h1, h2⟩⟩)
theorem mcallD {T : Tab} (hT : TabOk P T) {f : FuncId} {fn : Func} {c : Code} {nt : Nat} (hf : P.funcs[f]? = some fn) (en : fn.ntmps = nt) (hn : (fn.name == "runtime.NumGoroutine") = false) (hb : fn.body = some c) {args : List SV} {m : List (Nat × Blk)} {k : Nat} {d : Dat} {m' : List (Nat × Blk)} (hl : args.length ≤ nt) (hr : resOk fn.results.toList nt = true) (hall : (List.range k).all (fun i => (mkMem m i).isSome) = true)
    {l : List (Nat × SV)} (e : startM nt k args = l) (h : ∀ q : RD T fn.results.toList nt k d m', AWp P false nt c k (mkSt l m) q.R) : MCall P f args m k (.d d) m' := by
  subst en
  exact mcall_d hT hf hn hb hl hr hall (e ▸ h ⟨fun e _ s => (e = .normal ∨ e = .ret) ∧ EndsD T fn.results.toList fn.ntmps k d m' s, fun _ _ _ h1 h2 => ⟨h1, h2⟩⟩)
@[simp] theorem memM_app (mem : Nat → Option Blk) (σ : List Nat) (mm : List (Nat × Blk)) (i : Nat) : memM mem σ mm i = match mkMem mm i with
  | some b => some b
  | none => if σ.contains i = true then none else mem i := rfl
attribute [simp] revC revCs revS revB revM renN rev0 rev0s renSs calleeS Blk.frz
end Go.Proofs.Ytjjoiihgpkhndaa.Eng

/-
  The engine, part V: a row of cells that may hold anything becomes a row of data. No program is named here.
-/
namespace Go.Proofs.Ytjjoiihgpkhndaa.Eng
open Go.RowKit
variable {P : Program} {T : Tab} {tp : Bool} {W0 : Fix} {R0 : Nat → Prop} {ns : Nat} {D : Nat → Prop} {s : St} {E : Env} {a : Act} {w : World}

/-- What is told of an own block, told otherwise. -/
theorem Sim.review (h : Sim W0 R0 ns D s E a w) {i : Nat} {b b' : Blk} (hi : s.mem i = some b) (hh : Holds E w (E.home i) b') (hf : b'.frz = b.frz) : Sim W0 R0 ns D { s with mem := setMem s.mem i (some b') } E a w := by
  have e : ∀ {k c}, setMem s.mem i (some b') k = some c → (k = i ∧ c = b') ∨ (k ≠ i ∧ s.mem k = some c) := fun {k c} hk => by
    unfold setMem at hk
    split at hk
    · rename_i e; cases hk; exact .inl ⟨e, rfl⟩
    · rename_i e; exact .inr ⟨e, hk⟩
  have e' : ∀ {k c}, setMem s.mem i (some b') k = some c → ∃ c0, s.mem k = some c0 := fun {k c} hk => by
    rcases e hk with ⟨rfl, _⟩ | ⟨_, hk⟩
    · exact ⟨b, hi⟩
    · exact ⟨c, hk⟩
  refine { h with live := fun k c hk => ?_, mem := fun k c hk => ?_, base := fun k c hk => ?_, frz := fun k c hk => ?_, inj := fun k j c c' hk hj hn => ?_ }
  · obtain ⟨c0, hk⟩ := e' hk; exact h.live k c0 hk
  · rcases e hk with ⟨rfl, rfl⟩ | ⟨_, hk⟩
    · exact hh
    · exact h.mem k c hk
  · obtain ⟨c0, hk⟩ := e' hk; exact h.base k c0 hk
  · rcases e hk with ⟨rfl, rfl⟩ | ⟨_, hk⟩
    · rw [hf]; exact h.frz k b hi
    · exact h.frz k c hk
  · obtain ⟨c0, hk⟩ := e' hk
    obtain ⟨c1, hj⟩ := e' hj
    exact h.inj k j c0 c1 hk hj hn
theorem Sim.shutL (h : Sim W0 R0 ns D s E a w) {t id k : Nat} {ty : TypeId} {cells : List SV} {ds : List Dat} {is : List Nat} (hs : s.slots t = .lin id k) (hm : s.mem id = some (.box ty cells false)) (he : escL s.mem cells = some (ds, is)) (hk : cells.length = k) (hk2 : k ≤ maxLen) :
    ∃ E', Sim W0 R0 ns D { slots := setSlot s.slots (some t) (.own id k 1), mem := setMem (frzM s.mem is) id (some (.row ty 1 (ds.map fun d => [d]) false)) } E' a w := by
  subst hk
  obtain ⟨E1, e1, e2, e3, e4, e5⟩ := h.freezes is (escL_ids he)
  have hnid : id ∉ is := fun hh => by
    obtain ⟨_, _, _, _, hr⟩ := escL_ids he id hh
    rw [hm] at hr
    cases hr
  have hm1 : frzM s.mem is id = some (.box ty cells false) := (frzM_far hnid).trans hm
  have hd := escL_rep (m0 := s.mem) (m := frzM s.mem is) (fun i t z rows f hh => frzM_row hh) (fun i b hb => e2.mem i b hb) he e3
  have hlin := e2.slot t
  have hlin2 : Rep E1 w (.lin id cells.length) (if t < ns then a.tmps.getD t undef else W0.g t) := by
    have := hlin
    simp only [hs] at this
    exact this
  obtain ⟨u, hu⟩ : ∃ u, (if t < ns then a.tmps.getD t undef else W0.g t) = u := ⟨_, rfl⟩
  rw [hu] at hlin2
  cases hlin2 with
  | lin _ _ q1 q2 q3 =>
  refine ⟨E1, ?_⟩
  have h2 : Sim W0 R0 ns D { s with mem := setMem (frzM s.mem is) id (some (.row ty 1 (ds.map fun d => [d]) false)) } E1 a w := by
    refine e2.review hm1 ?_ rfl
    cases e2.mem id _ hm1 with
    | box _ _ _ cur h1 h2 h3 h4 =>
      refine .row ty 1 _ false cur h1 q2 (by rw [q3, h2, Nat.mul_one]) (by simp [q3, hd.1]) (by rw [q3]; exact hk2) (by simp) (fun r hr c hc => ?_) fun i j r c v hr hc hv => ?_
      · obtain ⟨d, hd', rfl⟩ := List.mem_map.1 hr
        rw [List.mem_singleton] at hc
        subst hc
        obtain ⟨n, hn, rfl⟩ := List.getElem_of_mem hd'
        have hn1 : n < cells.length := by have := hd.1; omega
        have hn2 : n < cur.size := by omega
        exact (hd.2 n _ _ _ (List.getElem?_eq_getElem hn1) (List.getElem?_eq_getElem hn) (h4 n _ _ (List.getElem?_eq_getElem hn1) (Array.getElem?_eq_getElem hn2))).2 (h3 _ (List.getElem_mem hn1))
      · rw [List.getElem?_map, Option.map_eq_some_iff] at hr
        obtain ⟨d, hd', rfl⟩ := hr
        have hj : j = 0 := by have := (List.getElem?_eq_some_iff.1 hc).1; simpa using this
        subst hj
        simp only [List.getElem?_cons_zero, Option.some.injEq] at hc
        subst hc
        rw [Nat.mul_one, Nat.add_zero] at hv
        have hn1 : i < cells.length := by have := (List.getElem?_eq_some_iff.1 hd').1; have := hd.1; omega
        exact (hd.2 i _ _ _ (List.getElem?_eq_getElem hn1) hd' (h4 i _ _ (List.getElem?_eq_getElem hn1) hv)).1
  refine { h2 with slot := fun t' => ?_ }
  simp only [setSlot]
  by_cases c : t' = t
  · subst c
    rw [if_pos rfl, hu]
    have := Rep.own (E := E1) (w := w) id cells.length 1 q1 q2
    rwa [q3] at this
  · rw [if_neg c]
    exact h2.slot t'
theorem AWp.shutL {c : Code} {n : Nat} {Q : Post} (t id k : Nat) {ty : TypeId} {cells : List SV} {ds : List Dat} {is : List Nat} (hs : s.slots t = .lin id k) (hm : s.mem id = some (.box ty cells false)) (he : escL s.mem cells = some (ds, is)) (hk : cells.length = k) (hk2 : k ≤ maxLen)
    (h : AWp P tp ns c n { slots := setSlot s.slots (some t) (.own id k 1), mem := setMem (frzM s.mem is) id (some (.row ty 1 (ds.map fun d => [d]) false)) } Q) : AWp P tp ns c n s Q := fun W0 R0 E a w ht hs' => by
  obtain ⟨E', h2⟩ := hs'.shutL hs hm he hk hk2
  exact h W0 R0 E' a w ht h2
end Go.Proofs.Ytjjoiihgpkhndaa.Eng

/-
  The engine, part X: walks that may stand in a round of a range over a function. No program is named here.
-/
namespace Go.Proofs.Ytjjoiihgpkhndaa.Eng
open Go.RowKit
variable {P : Program} {T : Tab}

/-- The frames of which a walk speaks: plain ones, or those of a round of the loop whose record lies in block l. -/
def fen : Option Nat → Fence
  | none => Fence.wide
  | some l => Fence.wide.inRound l
theorem fen_round (r : Option Nat) : (fen r).round = r := by cases r <;> rfl
theorem fen_fn (r : Option Nat) (f : FuncId) : (fen r).fn f := by cases r <;> trivial
theorem fen_depth (r : Option Nat) : (fen r).depth = none := by cases r <;> rfl
theorem fen_fenced (r : Option Nat) : Machine.fenced P (fen r) = Machine.fenced P Fence.wide := by cases r <;> rfl
theorem callsIn_fen {r : Option Nat} {n : Nat} {f : FuncId} {args : Array Value} {w : World} {R : Ending → World → Prop} (h : Calls P f args w R) : CallsIn (fen r) n P f args w R := by
  cases r with
  | none => exact callsIn_wide.2 h
  | some l => exact (callsIn_wide.2 h : CallsIn Fence.wide n P f args w R)
theorem rowsIn_fen {r : Option Nat} {n : Nat} {row : String} {args : Array Value} {w : World} {R : Value → World → Prop} (h : Rows P row args w R) : RowsIn (fen r) n P row args w R := fun c cs _ => by
  obtain ⟨v, w', h1, h2⟩ := h c cs
  exact ⟨v, w', h1, by rw [fen_fenced]; exact stepsIn_wide.2 h2⟩
/-- What is no 'defer' goes in a round as anywhere. -/
theorem oper_in {r : Option Nat} {o : Oper} {a : Act} {w : World} {K : Act → World → Prop} {Q : Exit → Act → World → Prop} (hd : ∀ c, o.op ≠ .defer c) (h : o.wp P a w K Q) : o.wpIn (fen r) 0 P a w K Q := by
  refine ⟨fun f _ => fen_fn r f, ?_⟩
  have hn : (fen r).depth.isSome = true → 1 ≤ 0 := fun h => by rw [fen_depth] at h; cases h
  rw [fen_round, Oper.semAt_eq _ _ _ hd]
  unfold Oper.wp at h
  generalize (execOp a.eval o).run P w = res at h ⊢
  cases res with
  | ok x w' =>
    cases x <;> simp only [Oper.upon, Oper.uponIn] at h ⊢ <;> first
      | exact h
      | exact h.elim
      | exact ⟨hn, callsIn_fen h⟩
      | exact ⟨hn, rowsIn_fen h⟩
  | halt x w' => cases x <;> first | exact h | exact h.elim
def noDefer (l : List Oper) : Bool := l.all fun o => match o.op with
  | .defer _ => false
  | _ => true
theorem noDefer_spec {l : List Oper} (h : noDefer l = true) {o : Oper} (ho : o ∈ l) : ∀ c, o.op ≠ .defer c := fun c e => by
  have := List.all_eq_true.1 h o ho
  rw [e] at this
  cases this
/-- It ends normally. -/
def onN (R : Act → World → Prop) (e : Exit) (a : Act) (w : World) : Prop := e = .normal ∧ R a w
theorem onN_out {R : Act → World → Prop} : ¬ LetsOut (onN R) := fun ⟨_, _, h, _⟩ => by cases h
theorem list_in {r : Option Nat} {ops : Array Oper} {R : Act → World → Prop} : ∀ (l : List Oper) (a : Act) (w : World), (∀ o ∈ l, ∀ c, o.op ≠ .defer c) → wpList P ops (onN R) l a w → wpListIn (fen r) 0 P ops (onN R) l a w
  | [], _, _, _, h => h
  | o :: l, a, w, hd, h => by
    simp only [wpList] at h
    simp only [wpListIn]
    split at h
    · rename_i hw
      rw [if_pos hw]
      rcases h with h | ⟨_, h⟩
      · exact oper_in (hd o List.mem_cons_self) (Oper.wp_mono (fun a w h => list_in l a w (fun o ho => hd o (List.mem_cons_of_mem _ ho)) h) h)
      · exact absurd h onN_out
    · rename_i hw
      rw [if_neg hw]
      exact ⟨fun f _ => fen_fn r f, list_in l _ _ (fun o ho => hd o (List.mem_cons_of_mem _ ho)) h⟩
theorem ops_in {r : Option Nat} {ops : Array Oper} {R : Act → World → Prop} (hd : ∀ o ∈ ops.toList, ∀ c, o.op ≠ .defer c) : ∀ (l : List Nat) (a : Act) (w : World), wpOps P ops (onN R) l a w → wpOpsIn (fen r) 0 P ops (onN R) l a w
  | [], _, _, h => h
  | i :: l, a, w, h => by
    simp only [wpOps] at h
    simp only [wpOpsIn]
    cases ho : ops[i]? with
    | none => simp only [ho] at h ⊢; exact ops_in hd l _ _ h
    | some o =>
      simp only [ho] at h ⊢
      split at h
      · rename_i hw
        rw [if_pos hw]
        rcases h with h | ⟨_, h⟩
        · exact oper_in (hd o (by simpa using Array.mem_of_getElem? ho)) (Oper.wp_mono (fun a w h => ops_in hd l a w h) h)
        · exact absurd h onN_out
      · rename_i hw
        rw [if_neg hw]
        exact ⟨fun f _ => fen_fn r f, ops_in hd l _ _ h⟩
theorem onN_le {R : Act → World → Prop} {Q : Exit → Act → World → Prop} (h : ∀ a w, R a w → Q .normal a w) : ∀ e a w, onN R e a w → Q e a w := fun _ a w ⟨e, hr⟩ => e ▸ h a w hr

/-! ### Walks -/
/-- How a walk goes on in the same activation: more blocks stay, more is deferred. -/
structure Ext (W0 W1 : Fix) : Prop where
  U : ∀ b, W0.U b → W1.U b
  kept : Kept W0.U W0.w W1.w
  e0 : W1.e0 = W0.e0
  g : W1.g = W0.g
  re : ∀ b, W0.e0.ro b → W1.w.heap[b]? = W0.w.heap[b]?
theorem Ext.refl (W0 : Fix) : Ext W0 W0 := ⟨fun _ h => h, Kept.refl _ _, rfl, rfl, fun _ _ => rfl⟩
theorem Ext.trans {W0 W1 W2 : Fix} (h : Ext W0 W1) (k : Ext W1 W2) : Ext W0 W2 := ⟨fun b hb => k.U b (h.U b hb), h.kept.trans (k.kept.mono h.U), k.e0.trans h.e0, k.g.trans h.g, fun b hb => (k.re b (by rw [h.e0]; exact hb)).trans (h.re b hb)⟩
/-- The mark of a loop whose deferred calls are in block b. -/
def markOf (b : Nat) : Deferred := { target := .collected b, args := #[] }
/-- The block of the loop's record that bears this name. -/
def rOf (W0 : Fix) (r : Option Nat) : Option Nat := r.map fun id => (W0.e0.home id).blk
/-- What holds of an activation: its loop's record has a name, if it is a round; what is deferred are marks of loops, whose blocks are new. -/
structure InAct (r : Option Nat) (W0 : Fix) (R0 : Nat → Prop) (B : Nat) : Prop where
  rd : ∀ id, r = some id → W0.e0.dom id
  marks : ∃ bs : List Nat, W0.ds = bs.map markOf ∧ bs.Nodup ∧ ∀ b ∈ bs, W0.U b ∧ B ≤ b ∧ W0.w.heap[b]? = some (.deferred (some []))
  low : ∀ b, R0 b → b < B
  le : B ≤ W0.w.heap.size
theorem Ext.rOf {W0 W1 : Fix} (h : Ext W0 W1) (r : Option Nat) : rOf W1 r = rOf W0 r := by unfold Eng.rOf; rw [h.e0]
/-- From this state on, the code comes to an end as told, in a plain activation or in a round. -/
def AWi (P : Program) (r : Option Nat) (ns : Nat) (c : Code) (n : Nat) (s : St) (Q : Post) : Prop :=
  ∀ (W0 : Fix) (R0 : Nat → Prop) (B : Nat) (E : Env) (a : Act) (w : World), InAct r W0 R0 B → Sim W0 R0 ns (· < n) s E a w →
    c.wpIn (fen (rOf W0 r)) 0 P (fun e a' w' => ∃ n' s' E' W1, Ext W0 W1 ∧ InAct r W1 R0 B ∧ Sim W1 R0 ns (· < n') s' E' a' w' ∧ Q e n' s') a w
section
variable {r : Option Nat} {ns n : Nat} {s : St} {Q : Post}
theorem AWi.mono {c : Code} {Q' : Post} (h : AWi P r ns c n s Q) (hq : ∀ e n s, Q e n s → Q' e n s) : AWi P r ns c n s Q' :=
  fun W0 R0 B E a w hi hs => wpIn_mono (h W0 R0 B E a w hi hs) fun _ _ _ ⟨n', s', E', W1, x, i, h1, h2⟩ => ⟨n', s', E', W1, x, i, h1, hq _ _ _ h2⟩
theorem AWi.seq {x y : Code} (h : AWi P r ns x n s (thenP (fun n s => AWi P r ns y n s Q) Q)) : AWi P r ns (.seq x y) n s Q := fun W0 R0 B E a w hi hs => by
  refine wpIn_seq (wpIn_mono (h W0 R0 B E a w hi hs) ?_)
  rintro e a' w' ⟨n', s', E', W1, x1, i1, h1, h2⟩
  cases e with
  | normal =>
    have h5 := h2 W1 R0 B E' a' w' i1 h1
    rw [x1.rOf] at h5
    exact wpIn_mono h5 fun _ _ _ ⟨n2, s2, E2, W2, x2, i2, h3, h4⟩ => ⟨n2, s2, E2, W2, x1.trans x2, i2, h3, h4⟩
  | _ => exact ⟨n', s', E', W1, x1, i1, h1, h2⟩
theorem AWi.skip (h : Q .normal n s) : AWi P r ns .skip n s Q := fun W0 _ _ E _ _ hi hs => wpIn_skip ⟨n, s, E, W0, Ext.refl _, hi, hs, h⟩
theorem AWi.label {l : Nat} (h : Q .normal n s) : AWi P r ns (.label l) n s Q := fun W0 _ _ E _ _ hi hs => wpIn_label ⟨n, s, E, W0, Ext.refl _, hi, hs, h⟩
theorem AWi.exit {id : Nat} (h : Q (.exit id) n s) : AWi P r ns (.exit id) n s Q := fun W0 _ _ E _ _ hi hs => wpIn_exit ⟨n, s, E, W0, Ext.refl _, hi, hs, h⟩
theorem AWi.goto {l : Nat} (h : Q (.goto l) n s) : AWi P r ns (.goto l) n s Q := fun W0 _ _ E _ _ hi hs => wpIn_goto ⟨n, s, E, W0, Ext.refl _, hi, hs, h⟩
theorem AWi.ret (h : Q .ret n s) : AWi P r ns .ret n s Q := fun W0 _ _ E _ _ hi hs => wpIn_ret ⟨n, s, E, W0, Ext.refl _, hi, hs, h⟩
theorem AWi.block {id : Nat} {c : Code} (h : AWi P r ns c n s (blockP id Q)) : AWi P r ns (.block id c) n s Q := fun W0 R0 B E a w hi hs => by
  refine wpIn_block (wpIn_mono (h W0 R0 B E a w hi hs) ?_)
  rintro e a' w' ⟨n', s', E', W1, x1, i1, h1, h2⟩
  cases e with
  | exit id' =>
    simp only [blockP] at h2
    simp only [Exit.inBlock]
    split at h2
    · rename_i e; rw [if_pos e]; exact ⟨n', s', E', W1, x1, i1, h1, h2⟩
    · rename_i e; rw [if_neg e]; exact ⟨n', s', E', W1, x1, i1, h1, h2⟩
  | _ => exact ⟨n', s', E', W1, x1, i1, h1, h2⟩
theorem AWi.cond {c : Operand} {x y : Code} {t : Bool} (hc : opd ns s c = some (.d (.val (.bool t)))) (h1 : t = true → AWi P r ns x n s Q) (h2 : t = false → AWi P r ns y n s Q) : AWi P r ns (.cond c x y) n s Q :=
  fun W0 R0 B E a w hi hs => wpIn_cond_split (rep_bool (hs.opd hc)) (fun h => h1 h W0 R0 B E a w hi hs) (fun h => h2 h W0 R0 B E a w hi hs)
/-- A loop: an invariant over states, and what becomes less. -/
theorem AWi.loop {ι : Type} {c : Code} (I : ι → Nat → St → Prop) (μ : ι → Nat) (i0 : ι) (h0 : I i0 n s) (round : ∀ i n s, I i n s → AWi P r ns c n s (thenP (fun n' s' => ∃ j, I j n' s' ∧ μ j < μ i) Q)) : AWi P r ns (.loop c) n s Q := fun W0 R0 B E a w hi hs => by
  refine wpIn_loop_ghost (fun k a w => ∃ i n s E W1, μ i = k ∧ I i n s ∧ Ext W0 W1 ∧ InAct r W1 R0 B ∧ Sim W1 R0 ns (· < n) s E a w) (μ i0) ⟨i0, n, s, E, W0, rfl, h0, Ext.refl _, hi, hs⟩ ?_
  rintro k a w ⟨i, n, s, E, W1, rfl, hI, x1, i1, hs⟩
  have h5 := round i n s hI W1 R0 B E a w i1 hs
  rw [x1.rOf] at h5
  refine wpIn_mono h5 ?_
  rintro e a' w' ⟨n', s', E', W2, x2, i2, h1, h2⟩
  cases e with
  | normal =>
    obtain ⟨j, h3, h4⟩ := h2
    exact ⟨μ j, h4, j, n', s', E', W2, rfl, h3, x1.trans x2, i2, h1⟩
  | _ => exact ⟨n', s', E', W2, x1.trans x2, i2, h1, h2⟩

/-! ### Calls that are handed all of memory -/
/-- Called with these values in this memory, it returns as told; n: names that are free. -/
structure CWp (P : Program) (f : FuncId) (args : List SV) (n : Nat) (m : Nat → Option Blk) (Q : SV → Nat → (Nat → Option Blk) → Prop) : Prop where
  callable : Callable P f
  calls : ∀ (W0 : Fix) (R0 : Nat → Prop) (E : Env) (w : World) (vs : Array Value), MS W0 R0 (· < n) m E w → vs.size = args.length → (∀ (i : Nat) x v, args[i]? = some x → vs[i]? = some v → Rep E w x v) →
    Calls P f vs w fun e w' => ∃ v E' n' m' y, e = .returned v ∧ MS W0 R0 (· < n') m' E' w' ∧ E.le E' ∧ (∀ b, E.ro b → w'.heap[b]? = w.heap[b]?) ∧ Rep E' w' y v ∧ Q y n' m'
theorem CWp.mono {f : FuncId} {args : List SV} {m : Nat → Option Blk} {Q1 Q2 : SV → Nat → (Nat → Option Blk) → Prop} (h : CWp P f args n m Q1) (hq : ∀ y n m, Q1 y n m → Q2 y n m) : CWp P f args n m Q2 :=
  ⟨h.callable, fun W0 R0 E w vs h1 h2 h3 => (h.calls W0 R0 E w vs h1 h2 h3).mono fun _ _ ⟨v, E', n', m', y, a, b, c, d, e, f⟩ => ⟨v, E', n', m', y, a, b, c, d, e, hq _ _ _ f⟩⟩
/-- After this operation one goes on in one of some states, with names from n' on. -/
def StepI (P : Program) (r : Option Nat) (ns n : Nat) (s : St) (o : Oper) (G : Nat → St → Prop) : Prop :=
  ∀ (W0 : Fix) (R0 : Nat → Prop) (B : Nat) (E : Env) (a : Act) (w : World), InAct r W0 R0 B → Sim W0 R0 ns (· < n) s E a w → (∀ t, o.dst = some t → t < ns) →
    ∀ (K : Act → World → Prop) (Q : Exit → Act → World → Prop), (∀ n' s' E' a' w', G n' s' → Sim W0 R0 ns (· < n') s' E' a' w' → K a' w') → o.wpIn (fen (rOf W0 r)) 0 P a w K Q
/-- The operations one behind the other. -/
def ExecI (P : Program) (r : Option Nat) (T : Tab) (ops : Array Oper) (ns : Nat) : Nat → List Oper → St → (Nat → St → Prop) → Prop
  | n, [], s, Q => Q n s
  | n, o :: l, s, Q => match guardS ops ns s o with
    | some true => (noDefer [o] = true ∧ ∃ out, Step P T ns n s o.op out ∧ ExecI P r T ops ns (n + 1) l (putS s n o.dst out) Q) ∨
      (waits o.op = true ∧ ∃ G, StepI P r ns n s o G ∧ ∀ n' s', G n' s' → ExecI P r T ops ns n' l s' Q)
    | some false => ExecI P r T ops ns n l { s with slots := setSlot s.slots o.dst (.tup []) } Q
    | none => False
theorem execI_list (hT : TabOk P T) {W0 : Fix} {R0 : Nat → Prop} {B : Nat} (hi : InAct r W0 R0 B) {ops : Array Oper} {Q : Exit → Act → World → Prop} : ∀ (l : List Oper) (n : Nat) {s : St} {E : Env} {a : Act} {w : World} {Q' : Nat → St → Prop}, ExecI P r T ops ns n l s Q' →
    Sim W0 R0 ns (· < n) s E a w → (∀ n' s' E' a' w', Sim W0 R0 ns (· < n') s' E' a' w' → Q' n' s' → Q .normal a' w') → wpListIn (fen (rOf W0 r)) 0 P ops Q l a w
  | [], n, s, E, a, w, Q', h, hs, hQ => hQ n s E a w hs h
  | o :: l, n, s, E, a, w, Q', h, hs, hQ => by
    simp only [ExecI] at h
    refine wpListIn_step fun K hK => ?_
    split at h
    · rename_i hg
      rw [guard_ok hs hg, if_pos rfl]
      rcases h with ⟨hd, out, h1, h2⟩ | ⟨hw, G, h1, h2⟩
      · refine oper_in (noDefer_spec hd List.mem_cons_self) (step_wp hT hs (nid := n) (by omega) (N := n) (fun _ h => h) (guardS_dst hg) h1 fun E' a' w' hs' => hK _ _ ?_)
        exact execI_list hT hi l (n + 1) h2 (hs'.weak fun i hi => by omega) hQ
      · exact h1 W0 R0 B E a w hi hs (guardS_dst hg) K Q fun n' s' E' a' w' hG hs' => hK _ _ (execI_list hT hi l n' (h2 n' s' hG) hs' hQ)
    · rename_i hg
      rw [guard_ok hs hg, if_neg (by simp)]
      exact ⟨fun f _ => fen_fn _ f, hK _ _ (execI_list hT hi l n h (hs.put (guardS_dst hg) rep_no) hQ)⟩
    · exact h.elim
theorem AWi.region (hT : TabOk P T) {id : Nat} {l : List Oper} (h : ExecI P r T l.toArray ns n l s (fun n' s' => Q .normal n' s')) : AWi P r ns (.region id l.toArray false) n s Q :=
  fun W0 _ _ _ _ _ hi hs => wpIn_region_lit (execI_list hT hi l n h hs fun n' s' E' _ _ h1 h2 => ⟨n', s', E', W0, Ext.refl _, hi, h1, h2⟩)
theorem AWi.draws (hT : TabOk P T) (hm : P.follows .mixedOrders = true) {id : Nat} {l : List Oper} (hB : backB l.toArray = true) (hd : noDefer l = true) (h : Exec P T l.toArray ns n l s [] (fun s' log => okLog l log = true ∧ Q .normal (n + l.length) s')) : AWi P r ns (.region id l.toArray true) n s Q := fun W0 R0 B E a w hi hs => by
  have h1 := exec_anyC hT hB h hs (Q := onN fun a' w' => ∃ s' E', Sim W0 R0 ns (· < n + l.length) s' E' a' w' ∧ Q .normal (n + l.length) s') fun s' E' a' w' q1 q2 => ⟨rfl, s', E', q1, q2⟩
  refine wpIn_mono (wpIn_region_draw (Q := onN fun a' w' => ∃ s' E', Sim W0 R0 ns (· < n + l.length) s' E' a' w' ∧ Q .normal (n + l.length) s') fun t => ops_in (fun o ho => noDefer_spec hd (by simpa using ho)) _ _ _ ?_) (onN_le fun a' w' ⟨s', E', q1, q2⟩ => ⟨_, s', E', W0, Ext.refl _, hi, q1, q2⟩)
  simp only [Region.schedule, hm, Bool.true_or, if_true]
  exact wpAny_sound _ t _ a _ h1
end
/-! ### A call, a function -/
theorem stepI_call {r : Option Nat} {ns n : Nat} {s : St} {o : Oper} {f : FuncId} {svs : List SV} {Q : SV → Nat → (Nat → Option Blk) → Prop} (h1 : calleeS ns s o.op = some (f, svs)) (h2 : CWp P f svs n s.mem Q) :
    StepI P r ns n s o fun n' s' => ∃ y m', Q y n' m' ∧ s' = { slots := setSlot s.slots o.dst y, mem := m' } := by
  intro W0 R0 B E a w _ h hd K K2 hK
  have hdf : ∀ c, o.op ≠ .defer c := fun c e => by rw [e] at h1; cases h1
  obtain ⟨vs, hex, v1, v2⟩ := calleeS_run h h1 h2.callable
  refine oper_in hdf ?_
  unfold Oper.wp
  rw [hex, Oper.upon_enter]
  refine (h2.calls W0 R0 E w vs h.ms v1 v2).mono ?_
  rintro e w' ⟨v, E', n', m', y, rfl, M, hE, hw, hv, hq⟩
  have h3 := h.back M hE hw
  exact hK n' _ E' _ w' ⟨y, m', hq, rfl⟩ (h3.put hd hv)
def startI (args : List SV) : Nat → SV := fun t => (args[t]?).getD .und
def retV : List SV → SV
  | [x] => x
  | xs => .tup xs
def EndI (T : Tab) (rs : List ResultVar) (Q : SV → Nat → (Nat → Option Blk) → Prop) (n : Nat) (s : St) : Prop := ∃ xs, resSlots T s rs = some xs ∧ Q (retV xs) n s.mem
theorem leavesM {r : Option Nat} {fn : Func} {tmps : Array Value} {R : Ending → World → Prop} : ∀ (bs : List Nat) (w : World), bs.Nodup → (∀ b ∈ bs, w.heap[b]? = some (.deferred (some []))) →
    (∀ w', Kept (fun b => b ∉ bs) w w' → ∃ v, (results fn tmps).run P w' = .ok v w' ∧ R (.returned v) w') → LeavesInM (fen r) 0 P fn tmps R (bs.map markOf) .returning w
  | [], w, _, _, h => h w (Kept.refl _ _)
  | b :: bs, w, hn, hb, h => by
    have hb0 := hb b List.mem_cons_self
    rw [List.nodup_cons] at hn
    refine ⟨by simp, .inl ⟨b, _, rfl, run_takeDeferred hb0, ?_⟩⟩
    have hk : ∀ c, c ≠ b → (w.putObj b (.deferred none)).heap[c]? = w.heap[c]? := fun c hc => by
      simp only [World.putObj]
      rw [Array.getElem?_setIfInBounds_ne (Ne.symm hc)]
    refine leavesM bs _ hn.2 (fun c hc => ?_) fun w' hw' => h w' ?_
    · rw [hk c (fun e => hn.1 (e ▸ hc))]
      exact hb c (List.mem_cons_of_mem _ hc)
    · have h1 : Kept (fun c => c ∉ b :: bs) w (w.putObj b (.deferred none)) := ⟨rfl, rfl, rfl, by simp [World.putObj], fun c hc => hk c fun e => hc (e ▸ List.mem_cons_self)⟩
      exact h1.trans (hw'.mono fun c hc hh => hc (List.mem_cons_of_mem _ hh))
/-- A function by its body, handed all of memory. -/
theorem cwp_of (hT : TabOk P T) {f : FuncId} {fn : Func} {c : Code} (hf : P.funcs[f]? = some fn) (hn : (fn.name == "runtime.NumGoroutine") = false) (hb : fn.body = some c) {args : List SV} {n : Nat} {m : Nat → Option Blk} {Q : SV → Nat → (Nat → Option Blk) → Prop} (hl : args.length ≤ fn.ntmps) (hr : resOk fn.results.toList fn.ntmps = true)
    (h : AWi P none fn.ntmps c n ⟨startI args, m⟩ (fun e n' s' => (e = .normal ∨ e = .ret) ∧ EndI T fn.results.toList Q n' s')) : CWp P f args n m Q :=
  ⟨callable_of hf hn (by rw [hb]; rfl), fun W0 R0 E w vs M hsz hrep => by
    refine callsIn_wide.1 (callsIn_of_wp_marks (F := fen none) (n := 0) hf hb trivial ?_ rfl)
    let W1 : Fix := { w := w, U := W0.U, lt := fun b hb => Nat.lt_of_lt_of_le (W0.lt b hb) M.below.size, g := fun _ => undef, ds := [], e0 := E }
    have hi : InAct none W1 R0 w.heap.size := ⟨(fun l h => nomatch h), ⟨[], rfl, List.nodup_nil, by simp⟩, fun b hb => M.rlt b (M.ro0 b hb), Nat.le_refl _⟩
    have hs : Sim W1 R0 fn.ntmps (· < n) ⟨startI args, m⟩ E { tmps := vs ++ Array.replicate (fn.ntmps - vs.size) undef, defers := [] } w := by
      refine ⟨Kept.refl _ _, M.ro0, M.ro1, M.rlt, by simp; omega, rfl, fun t => ?_, M.dom, M.live, M.mem, M.base, M.frz, M.inj, fun i hi => ⟨hi, rfl⟩, fun b hb => ⟨hb, rfl⟩⟩
      simp only [startI]
      cases hd : args[t]? with
      | none => exact .und _
      | some d =>
        have hlt : t < vs.size := by have := (List.getElem?_eq_some_iff.1 hd).1; omega
        have e : (vs ++ Array.replicate (fn.ntmps - vs.size) undef).getD t undef = vs[t] := by simp [Array.getElem?_append, hlt]
        rw [if_pos (by omega), e]
        exact hrep t d _ hd (Array.getElem?_eq_getElem hlt)
    refine wpIn_mono (h W1 R0 w.heap.size E _ w hi hs) ?_
    rintro e a' w' ⟨n', s', E', W2, x2, i2, hs2, he, xs, hxs, hq⟩
    obtain ⟨bs, hbs, hnd, hbb⟩ := i2.marks
    have fin : LeavesInM (fen none) 0 P fn a'.tmps (fun e w' => ∃ v E' n' m' y, e = .returned v ∧ MS W0 R0 (· < n') m' E' w' ∧ E.le E' ∧ (∀ b, E.ro b → w'.heap[b]? = w.heap[b]?) ∧ Rep E' w' y v ∧ Q y n' m') a'.defers .returning w' := by
      rw [hs2.dfr, hbs]
      refine leavesM bs w' hnd (fun b hb => (hs2.below.block b (hbb b hb).1).trans (hbb b hb).2.2) fun w2 hk => ?_
      have hnm : ∀ b, W0.U b → b ∉ bs := fun b hb hh => by have := W1.lt b hb; have := (hbb b hh).2.1; exact absurd (show b < w.heap.size from W1.lt b hb) (by omega)
      have hnr : ∀ b, E'.ro b → b ∉ bs := fun b hb hh => by
        rcases hs2.ro1 b hb with h1 | h1
        · have := i2.low b h1; have := (hbb b hh).2.1; omega
        · exact h1 (hbb b hh).1
      -- back to the blocks that stay for the caller
      let W3 : Fix := { W1 with ds := W2.ds }
      have hs3 : Sim W3 R0 fn.ntmps (· < n') s' E' a' w' := { hs2 with
        below := x2.kept.trans (hs2.below.mono x2.U)
        ro1 := fun b hb => (hs2.ro1 b hb).imp id fun h1 h2 => h1 (x2.U b h2)
        base := fun i b hi h2 => hs2.base i b hi (x2.U _ h2)
        slot := fun t => by
          have := hs2.slot t
          by_cases ht : t < fn.ntmps
          · rw [if_pos ht] at this ⊢; exact this
          · rw [if_neg ht] at this ⊢; rw [x2.g] at this; exact this
        le0 := fun i hi => by have := hs2.le0 i (by rw [x2.e0]; exact hi); rw [x2.e0] at this; exact this
        re0 := fun b hb => by have := hs2.re0 b (by rw [x2.e0]; exact hb); exact ⟨this.1, this.2.trans (x2.re b hb)⟩ }
      have hs4 : Sim W3 R0 fn.ntmps (· < n') s' E' a' w2 := hs3.later (hk.mono hnm) (Env.le.refl E') (fun b hb => hk.block b (hnr b hb)) (fun i b hi => hk.block _ fun hh => hs2.base i b hi (hbb _ hh).1) (fun b hb => .inl hb) hs3.dom
      obtain ⟨vs', r1, r2, r3⟩ := results_run hT hs4 hr hxs
      refine ⟨_, r1, _, E', n', s'.mem, retV xs, rfl, ⟨M.below.trans hs4.below, hs4.ro0, hs4.ro1, hs4.rlt, hs4.dom, hs4.live, hs4.mem, hs4.base, hs4.frz, hs4.inj⟩, ⟨fun b hb => (hs4.re0 b hb).1, fun i hi => (hs4.le0 i hi).1, fun i hi => (hs4.le0 i hi).2⟩, fun b hb => (hs4.re0 b hb).2, ?_, hq⟩
      match xs, vs', r2, r3 with
      | [], [], _, _ => exact .tup _ _ rfl (by simp)
      | [x], [v], _, r3 => exact r3 0 _ _ rfl rfl
      | x :: y :: xs, v :: u :: vs', r2, r3 => exact .tup _ _ (by simpa using r2) fun i c v hc hv => r3 i c v hc (by simpa using hv)
    rcases he with rfl | rfl
    · exact fin
    · exact fin⟩
end Go.Proofs.Ytjjoiihgpkhndaa.Eng
