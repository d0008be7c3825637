/-
  A part of the texts that the claim builds on: see the last one.
-/
import Derived.Test.YtdkneonokbakjaaFc1
import Derived.Laws.StructEq
import Derived.RangeFuncIn
import Derived.RangeFuncLeaves
import Derived.RangeFuncRecord
import Derived.OrdersIn
import Derived.TacticsIn
import Derived.Sort.LoopGhostIn
import Derived.RangeFuncOwn
set_option linter.unusedSimpArgs false
set_option linter.unusedVariables false
namespace Go.Proofs.Ytdkneonokbakjaa.Eng
open Go.RowKit
variable {P : Program} {T : Tab} {ns : Nat}
theorem evParts_congr {ev ev' : Operand → Option SV} : ∀ {l : List (Nat × Operand)}, (∀ p ∈ l, ev' p.2 = ev p.2) → evParts ev' l = evParts ev l
  | [], _ => rfl
  | (k, x) :: l, h => by
    simp only [evParts, h (k, x) List.mem_cons_self, evParts_congr fun p hp => h p (List.mem_cons_of_mem _ hp)]
theorem evList_congr {ev ev' : Operand → Option SV} : ∀ {l : List Operand}, (∀ p ∈ l, ev' p = ev p) → evList ev' l = evList ev l
  | [], _ => rfl
  | x :: l, h => by
    simp only [evList, h x List.mem_cons_self, evList_congr fun p hp => h p (List.mem_cons_of_mem _ hp)]
theorem call_congr {m : Nat → Option Blk} {nid : Nat} {ev ev' : Operand → Option SV} (c : Call) (h : ∀ x ∈ c.args.toList, ev' x = ev x) : aop T m nid ev' (.call c) = aop T m nid ev (.call c) := by
  have h1 : aopR T m ev' (.call c) = aopR T m ev (.call c) := by
    simp only [aopR]
    split
    · rename_i x t hc ha ht; rw [h x (by rw [ha]; simp)]
    · rename_i x y hc ha; rw [h x (by rw [ha]; simp), h y (by rw [ha]; simp)]
    · rename_i x y hc ha; rw [h x (by rw [ha]; simp), h y (by rw [ha]; simp)]
    · rfl
  simp only [aop]
  split
  · rename_i sx x t t' hc ha ht
    rw [h sx (by rw [ha]; simp), h x (by rw [ha]; simp)]
  · rw [h1]
theorem aop_congr {m : Nat → Option Blk} {nid : Nat} {ev ev' : Operand → Option SV} (o : Op) (h : ∀ x ∈ o.operands.toList, ev' x = ev x) : aop T m nid ev' o = aop T m nid ev o := by
  cases o with
  | call c =>
    refine call_congr c fun x hx => h x ?_
    simp only [Op.operands, Call.operands, Array.toList_append, List.mem_append]
    exact .inr hx
  | build t ps =>
    have : evParts ev' ps.toList = evParts ev ps.toList := evParts_congr fun p hp => h p.2 (by simp only [Op.operands]; exact List.mem_map_of_mem hp)
    simp only [aop, this]
  | buildSlice t n ps =>
    have : evParts ev' ps.toList = evParts ev ps.toList := evParts_congr fun p hp => h p.2 (by simp only [Op.operands]; exact List.mem_map_of_mem hp)
    simp only [aop, this]
  | slice t x lo hi mx =>
    have h0 := h x (by simp [Op.operands])
    cases mx with
    | some m =>
      have hm := h m (by simp [Op.operands])
      cases lo with
      | none =>
        cases hi with
        | none => simp only [aop, aopR]
        | some hh => have h2 := h hh (by simp [Op.operands]); simp only [aop, aopR, h0, h2, hm]
      | some l => simp only [aop, aopR]
    | none =>
      cases lo with
      | none =>
        cases hi with
        | none => simp only [aop, aopR, h0]
        | some hh => have h2 := h hh (by simp [Op.operands]); simp only [aop, aopR, h0, h2]
      | some l =>
        have h1 := h l (by simp [Op.operands])
        cases hi with
        | none => simp only [aop, aopR, h0, h1]
        | some hh => have h2 := h hh (by simp [Op.operands]); simp only [aop, aopR, h0, h1, h2]
  | pick c x y => have h0 := h c (by simp [Op.operands]); have h1 := h x (by simp [Op.operands]); have h2 := h y (by simp [Op.operands]); simp only [aop, aopR, h0, h1, h2]
  | binOp op t x y yt => have h0 := h x (by simp [Op.operands]); have h1 := h y (by simp [Op.operands]); simp only [aop, aopR, h0, h1]
  | indexAddr t x y => have h0 := h x (by simp [Op.operands]); have h1 := h y (by simp [Op.operands]); simp only [aop, aopR, h0, h1]
  | index t x y => have h0 := h x (by simp [Op.operands]); have h1 := h y (by simp [Op.operands]); simp only [aop, aopR, h0, h1]
  | makeSlice t x y => have h0 := h x (by simp [Op.operands]); have h1 := h y (by simp [Op.operands]); simp only [aop, h0, h1]
  | store t x y => have h0 := h x (by simp [Op.operands]); have h1 := h y (by simp [Op.operands]); simp only [aop, h0, h1]
  | move x => have h0 := h x (by simp [Op.operands]); simp only [aop, aopR, h0]
  | assign x => have h0 := h x (by simp [Op.operands]); simp only [aop, aopR, h0]
  | unOp op t x => have h0 := h x (by simp [Op.operands]); simp only [aop, aopR, h0]
  | convert s d x => have h0 := h x (by simp [Op.operands]); simp only [aop, aopR, h0]
  | nilCheck x => have h0 := h x (by simp [Op.operands]); simp only [aop, aopR, h0]
  | fieldAddr s x f => have h0 := h x (by simp [Op.operands]); simp only [aop, aopR, h0]
  | field s x f => have h0 := h x (by simp [Op.operands]); simp only [aop, aopR, h0]
  | extract x i => have h0 := h x (by simp [Op.operands]); simp only [aop, aopR, h0]
  | load t x => have h0 := h x (by simp [Op.operands]); simp only [aop, aopR, h0]
  | box e x => have h0 := h x (by simp [Op.operands]); simp only [aop, h0]
  | makeFunc fn first captured =>
    have h0 : evList ev' first.toList = evList ev first.toList := evList_congr fun x hx => h x (by simp only [Op.operands, Array.toList_append, List.mem_append]; exact .inl hx)
    have h1 : evList ev' captured.toList = evList ev captured.toList := evList_congr fun x hx => h x (by simp only [Op.operands, Array.toList_append, List.mem_append]; exact .inr hx)
    cases fn <;> simp only [aop, aopR, h0, h1]
  | _ => simp only [aop, aopR]
theorem esc1_congr {m m' : Nat → Option Blk} {x : SV} (h : ∀ i ∈ idsOf1 x, m' i = m i) : esc1 m' x = esc1 m x := by
  cases x <;> simp only [esc1]
  rename_i id n z
  rw [h id (by simp [idsOf1])]
theorem escL_congr {m m' : Nat → Option Blk} : ∀ {l : List SV}, (∀ x ∈ l, ∀ i ∈ idsOf1 x, m' i = m i) → escL m' l = escL m l
  | [], _ => rfl
  | x :: l, h => by
    simp only [escL, esc1_congr (h x List.mem_cons_self), escL_congr fun y hy => h y (List.mem_cons_of_mem _ hy)]
theorem esc_congr {m m' : Nat → Option Blk} {x : SV} (h : ∀ i ∈ idsOf x, m' i = m i) : esc m' x = esc m x := by
  cases x with
  | agg cs =>
    simp only [esc]
    rw [escL_congr fun y hy i hi => h i (List.mem_flatMap.2 ⟨y, hy, hi⟩)]
  | _ => simp only [esc]; exact esc1_congr fun i hi => h i hi
theorem cells_ids {x : SV} {c : SV} (hc : c ∈ x.cells) {i : Nat} (hi : i ∈ idsOf1 c) : i ∈ idsOf x := by
  unfold SV.cells at hc
  split at hc
  · obtain ⟨d, _, rfl⟩ := List.mem_map.1 hc
    simp [idsOf1] at hi
  · exact List.mem_flatMap.2 ⟨c, hc, hi⟩
  · rename_i h1 h2
    rw [List.mem_singleton] at hc
    subst hc
    cases c <;> first | exact hi | exact absurd rfl (h2 _)
theorem escAll_congr {m m' : Nat → Option Blk} : ∀ {l : List SV}, (∀ x ∈ l, ∀ i ∈ idsOf x, m' i = m i) → escAll m' l = escAll m l
  | [], _ => rfl
  | x :: l, h => by
    simp only [escAll, esc_congr (h x List.mem_cons_self), escAll_congr fun y hy => h y (List.mem_cons_of_mem _ hy)]
theorem rowsOf_congr {m m' : Nat → Option Blk} {z : Nat} : ∀ {k : Nat} {l : List (Nat × SV)}, (∀ p ∈ l, ∀ i ∈ idsOf p.2, m' i = m i) → rowsOf m' z k l = rowsOf m z k l
  | _, [], _ => rfl
  | k, (j, x) :: l, h => by
    simp only [rowsOf, escL_congr fun y hy i hi => h (j, x) List.mem_cons_self i (cells_ids hy hi), rowsOf_congr (k := k + 1) fun p hp => h p (List.mem_cons_of_mem _ hp)]
theorem loadSV_congr {m m' : Nat → Option Blk} {i : TI} {x : SV} (h : ∀ i ∈ idsOf x, m' i = m i) : loadSV m' i x = loadSV m i x := by
  cases x <;> simp only [loadSV]
  rename_i id r j
  rw [h id (by simp [idsOf, idsOf1])]
theorem srcRows_congr {m m' : Nat → Option Blk} {z : Nat} {x : SV} (h : ∀ i ∈ idsOf x, m' i = m i) : srcRows m' z x = srcRows m z x := by
  cases x with
  | own id n z' => simp only [srcRows]; rw [h id (by simp [idsOf, idsOf1])]
  | d d => cases d <;> simp only [srcRows]
  | _ => simp only [srcRows]
theorem appendOut_congr {m m' : Nat → Option Blk} {nid : Nat} {e : TypeId} {ie : TI} {x : SV} {xr : List (List Dat)} (h : ∀ i ∈ idsOf x, m' i = m i) : appendOut m' nid e ie x xr = appendOut m nid e ie x xr := by
  cases x <;> simp only [appendOut]
  rename_i id n z
  rw [h id (by simp [idsOf, idsOf1])]
theorem storeOut_congr {m m' : Nat → Option Blk} {i : TI} {id r j : Nat} {v : SV} (h0 : m' id = m id) (h : ∀ i ∈ idsOf v, m' i = m i) : storeOut m' i id r j v = storeOut m i id r j v := by
  unfold storeOut
  rw [h0, escL_congr fun y hy i hi => h i (cells_ids hy hi)]
theorem cSV_ids (v : Value) : idsOf1 (cSV v) = [] := by unfold cSV; split <;> rfl
theorem constSV_ids {v : Value} {x : SV} (h : constSV v = some x) : idsOf x = [] := by
  have key : ∀ v : Value, some (cSV v) = some x → idsOf x = [] := fun v hv => by
    cases hv
    unfold cSV
    split <;> rfl
  cases v with
  | agg cs =>
    simp only [constSV] at h
    split at h
    · cases h
      simp only [idsOf, List.flatMap_eq_nil_iff]
      intro c hc
      obtain ⟨u, _, rfl⟩ := List.mem_map.1 hc
      exact cSV_ids u
    · cases h
  | tuple => cases h
  | _ => exact key _ h
theorem opd_ids {s : St} {x : Operand} {v : SV} (h : opd ns s x = some v) {i : Nat} (hi : i ∈ idsOf v) : ∃ t, x = .tmp t ∧ i ∈ idsOf (s.slots t) := by
  cases x with
  | tmp t =>
    simp only [opd] at h
    split at h
    · cases h; exact ⟨t, rfl, hi⟩
    · cases h
  | const v => rw [constSV_ids h] at hi; cases hi
  | global => cases h
  | func f => cases h; simp [idsOf, idsOf1] at hi
theorem opd_congr {s s' : St} {x : Operand} (h : ∀ t, x = .tmp t → s'.slots t = s.slots t) : opd ns s' x = opd ns s x := by
  cases x <;> simp only [opd]
  rename_i t
  rw [h t rfl]
theorem mem_slotsOf {o : Op} {t : Nat} (h : Operand.tmp t ∈ o.operands.toList) : t ∈ slotsOf o := List.mem_filterMap.2 ⟨_, h, rfl⟩
theorem evParts_mem {ev : Operand → Option SV} : ∀ {l : List (Nat × Operand)} {r : List (Nat × SV)}, evParts ev l = some r → ∀ p ∈ r, ∃ x, (p.1, x) ∈ l ∧ ev x = some p.2
  | [], r, h => by cases h; simp
  | (k, x) :: l, r, h => by
    simp only [evParts] at h
    split at h
    · rename_i v r' h1 h2
      cases h
      intro p hp
      rcases List.mem_cons.1 hp with rfl | hp
      · exact ⟨x, List.mem_cons_self, h1⟩
      · obtain ⟨y, h3, h4⟩ := evParts_mem h2 p hp
        exact ⟨y, List.mem_cons_of_mem _ h3, h4⟩
    · cases h
theorem evList_mem {ev : Operand → Option SV} : ∀ {l : List Operand} {r : List SV}, evList ev l = some r → ∀ p ∈ r, ∃ x, x ∈ l ∧ ev x = some p
  | [], r, h => by cases h; simp
  | x :: l, r, h => by
    simp only [evList] at h
    split at h
    · rename_i v r' h1 h2
      cases h
      intro p hp
      rcases List.mem_cons.1 hp with rfl | hp
      · exact ⟨x, List.mem_cons_self, h1⟩
      · obtain ⟨y, h3, h4⟩ := evList_mem h2 p hp
        exact ⟨y, List.mem_cons_of_mem _ h3, h4⟩
    · cases h
theorem calleeS_congr {s s' : St} {o : Op} (h : ∀ x ∈ o.operands.toList, opd ns s' x = opd ns s x) : calleeS ns s' o = calleeS ns s o := by
  cases o <;> try rfl
  rename_i c
  have ha : evList (opd ns s') c.args.toList = evList (opd ns s) c.args.toList := evList_congr fun x hx => h x (by
    simp only [Op.operands, Call.operands, Array.toList_append, List.mem_append]
    exact .inr hx)
  simp only [calleeS, ha]
  cases hc : c.callee with
  | value x =>
    cases x with
    | tmp t => simp only [h (.tmp t) (by simp [Op.operands, Call.operands, hc])]
    | _ => rfl
  | _ => rfl
theorem step_local {nid : Nat} {s s' : St} {o : Op} {out : Out} (h : Step P T ns nid s o out) (h1 : ∀ t ∈ slotsOf o, s'.slots t = s.slots t) (h2 : ∀ i ∈ idsRead s o, s'.mem i = s.mem i) (h3 : ∀ i ∈ out.rds, s'.mem i = s.mem i) : Step P T ns nid s' o out := by
  have hev : ∀ x ∈ o.operands.toList, opd ns s' x = opd ns s x := fun x hx => opd_congr fun t ht => h1 t (mem_slotsOf (ht ▸ hx))
  have hids : looks o = true → ∀ x ∈ o.operands.toList, ∀ v, opd ns s x = some v → ∀ i ∈ idsOf v, s'.mem i = s.mem i := fun hl x hx v hv i hi => by
    obtain ⟨t, rfl, ht⟩ := opd_ids hv hi
    refine h2 i ?_
    unfold idsRead
    rw [if_pos hl]
    exact List.mem_flatMap.2 ⟨t, mem_slotsOf hx, ht⟩
  rcases h with h | ⟨f, svs, r, m0, k1, k2, k3, k4⟩
  rotate_left
  · refine .inr ⟨f, svs, r, m0, ?_, k2, fun i b hi => ⟨(k3 i b hi).1, (h3 i (k3 i b hi).1).trans (k3 i b hi).2⟩, k4⟩
    rw [← k1]
    exact calleeS_congr hev
  refine .inl ?_
  cases hf : fnOf o with
  | some p =>
    obtain ⟨f, args⟩ := p
    rw [hf] at h
    obtain ⟨c, rfl, hc, ha⟩ := fnOf_eq hf
    have hmem : ∀ x ∈ args, x ∈ (Op.call c).operands.toList := fun x hx => by
      simp only [Op.operands, Call.operands, Array.toList_append, List.mem_append]
      exact .inr (ha ▸ hx)
    obtain ⟨svs, ds, is, r, k1, k2, k3, k4⟩ := h
    refine ⟨svs, ds, is, r, ?_, ?_, k3, k4⟩
    · rw [evList_congr fun x hx => hev x (hmem x hx)]; exact k1
    · rw [escAll_congr fun v hv i hi => ?_]
      · exact k2
      · obtain ⟨x, hx, hxv⟩ := evList_mem k1 v hv
        exact hids rfl x (hmem x hx) v hxv i hi
  | none =>
    rw [hf] at h
    show aop T s'.mem nid (opd ns s') o = some out
    have h : aop T s.mem nid (opd ns s) o = some out := h
    rw [aop_congr o hev, ← h]
    have hidx : ∀ {x : Operand} {v : SV}, looks o = true → x ∈ o.operands.toList → opd ns s x = some v → ∀ i ∈ idsOf v, s'.mem i = s.mem i := fun {x v} hl hx hv => hids hl x hx v hv
    cases o with
    | load t x =>
      simp only [aop, aopR]
      cases hi : T t with
      | none => rfl
      | some i =>
        cases hx : opd ns s x with
        | none => rfl
        | some v => simp only; rw [loadSV_congr (hidx rfl (by simp [Op.operands]) hx)]
    | store t x y =>
      simp only [aop]
      cases hi : T t with
      | none => rfl
      | some i =>
        cases hx : opd ns s x with
        | none => rfl
        | some v =>
          cases hy : opd ns s y with
          | none => cases v <;> rfl
          | some u =>
            cases v with
            | ptr id r j => simp only; rw [storeOut_congr (hidx rfl (by simp [Op.operands]) hx id (by simp [idsOf, idsOf1])) (hidx rfl (by simp [Op.operands]) hy)]
            | _ => rfl
    | buildSlice t n ps =>
      simp only [aop]
      cases hi : T t with
      | none => rfl
      | some i =>
        simp only
        cases hk : i.kind with
        | slice e =>
          simp only
          cases hie : T e with
          | none => rfl
          | some ie =>
            cases hl : evParts (opd ns s) ps.toList with
            | none => rfl
            | some l =>
              simp only
              rw [rowsOf_congr fun p hp i hi => ?_]
              obtain ⟨x, hx, hxv⟩ := evParts_mem hl p hp
              exact hidx rfl (by simp only [Op.operands]; exact List.mem_map.2 ⟨(p.1, x), hx, rfl⟩) hxv i hi
        | _ => rfl
    | call c =>
      have hmem : ∀ x ∈ c.args.toList, x ∈ (Op.call c).operands.toList := fun x hx => by
        simp only [Op.operands, Call.operands, Array.toList_append, List.mem_append]
        exact .inr hx
      have hr : aopR T s'.mem (opd ns s) (.call c) = aopR T s.mem (opd ns s) (.call c) := by simp only [aopR]
      simp only [aop]
      split
      · rename_i sx x t t' hc ha ht
        cases hi : T t with
        | none => rfl
        | some i =>
          simp only
          cases hk : i.kind with
          | slice e =>
            simp only
            cases hie : T e with
            | none => rfl
            | some ie =>
              cases hx : opd ns s sx with
              | none => rfl
              | some u =>
                cases hy : opd ns s x with
                | none => rfl
                | some v =>
                  simp only
                  rw [srcRows_congr (hidx rfl (hmem x (by rw [ha]; simp)) hy)]
                  cases srcRows s.mem ie.size v with
                  | none => rfl
                  | some xr => simp only; rw [appendOut_congr (hidx rfl (hmem sx (by rw [ha]; simp)) hx)]
          | _ => rfl
      · rw [hr]
    | slice t x lo hi mx => cases mx <;> cases lo <;> cases hi <;> simp only [aop, aopR]
    | _ => simp only [aop, aopR]
end Go.Proofs.Ytdkneonokbakjaa.Eng

namespace Go.Proofs.Ytdkneonokbakjaa.Eng
open Go.RowKit
variable {P : Program} {T : Tab} {ns : Nat}
def maskL (l : List Nat) : Nat := l.foldl (fun s x => s ||| 2 ^ x) 0
theorem foldl_mask : ∀ (l : List Nat) (s x : Nat), (s.testBit x = true ∨ x ∈ l) → (l.foldl (fun s x => s ||| 2 ^ x) s).testBit x = true
  | [], s, x, h => by simpa using h
  | y :: l, s, x, h => by
    rw [List.foldl_cons]
    refine foldl_mask l _ x ?_
    rcases h with h | h
    · exact .inl (by simp [Nat.testBit_or, h])
    · rcases List.mem_cons.1 h with rfl | h
      · exact .inl (by simp [Nat.testBit_or, Nat.testBit_two_pow_self])
      · exact .inr h
theorem maskL_mem {l : List Nat} {x : Nat} (h : x ∈ l) : (maskL l).testBit x = true := foldl_mask l 0 x (.inr h)
inductive Anc (l : List Oper) : Nat → Nat → Prop
  | one {k : Nat} {o : Oper} {e : Edge} : l[k]? = some o → e ∈ o.after.toList → Region.binds .any e = true → Anc l e.on k
  | more {i k : Nat} {o : Oper} {e : Edge} : l[k]? = some o → e ∈ o.after.toList → Region.binds .any e = true → Anc l i e.on → Anc l i k
def ancOf (acc : List Nat) (es : List Edge) : Nat := es.foldl (fun s e => if Region.binds .any e = true then s ||| 2 ^ e.on ||| acc.getD e.on 0 else s) 0
def ancs : List Oper → List Nat → List Nat
  | [], acc => acc
  | o :: l, acc => ancs l (acc ++ [ancOf acc o.after.toList])
theorem ancOf_bit {acc : List Nat} {i : Nat} : ∀ (es : List Edge) (s : Nat), (es.foldl (fun s e => if Region.binds .any e = true then s ||| 2 ^ e.on ||| acc.getD e.on 0 else s) s).testBit i = true →
    s.testBit i = true ∨ ∃ e ∈ es, Region.binds .any e = true ∧ (i = e.on ∨ (acc.getD e.on 0).testBit i = true)
  | [], s, h => .inl h
  | e :: es, s, h => by
    rw [List.foldl_cons] at h
    rcases ancOf_bit es _ h with h | ⟨e', he, h⟩
    · split at h
      · rename_i hb
        rw [Nat.testBit_or, Nat.testBit_or, Bool.or_eq_true, Bool.or_eq_true] at h
        rcases h with (h | h) | h
        · exact .inl h
        · rw [Nat.testBit_two_pow] at h
          exact .inr ⟨e, List.mem_cons_self, hb, .inl (of_decide_eq_true h).symm⟩
        · exact .inr ⟨e, List.mem_cons_self, hb, .inr h⟩
      · exact .inl h
    · exact .inr ⟨e', List.mem_cons_of_mem _ he, h⟩
theorem ancs_ok {l0 : List Oper} : ∀ (l pre : List Oper) (acc : List Nat), l0 = pre ++ l → acc.length = pre.length → (∀ k i, (acc.getD k 0).testBit i = true → Anc l0 i k) → ∀ k i, ((ancs l acc).getD k 0).testBit i = true → Anc l0 i k
  | [], pre, acc, _, _, h => h
  | o :: l, pre, acc, hl, hlen, h => by
    refine ancs_ok l (pre ++ [o]) _ (by simp [hl]) (by simp [hlen]) fun k i hk => ?_
    by_cases c : k < acc.length
    · rw [List.getD_eq_getElem?_getD, List.getElem?_append_left c, ← List.getD_eq_getElem?_getD] at hk
      exact h k i hk
    · rw [List.getD_eq_getElem?_getD, List.getElem?_append_right (by omega), ← List.getD_eq_getElem?_getD] at hk
      by_cases c2 : k = acc.length
      · subst c2
        rw [Nat.sub_self] at hk
        have ho : l0[acc.length]? = some o := by rw [hl, hlen]; simp
        rcases ancOf_bit _ _ hk with h0 | ⟨e, he, hb, h1⟩
        · simp at h0
        · rcases h1 with rfl | h1
          · exact .one ho he hb
          · exact .more ho he hb (h _ _ h1)
      · have : ([ancOf acc o.after.toList] : List Nat).getD (k - acc.length) 0 = 0 := by
          rw [List.getD_eq_getElem?_getD, List.getElem?_eq_none (by simp; omega)]
          rfl
        rw [this] at hk
        simp at hk
def okLog (l : List Oper) (log : List Foot) : Bool :=
  let ms := log.map fun f => (maskL f.rd, maskL f.wr)
  let an := ancs l []
  (List.range log.length).all fun k => (List.range k).all fun i =>
    (((ms.getD i (0, 0)).2 &&& ((ms.getD k (0, 0)).1 ||| (ms.getD k (0, 0)).2)) ||| ((ms.getD i (0, 0)).1 &&& (ms.getD k (0, 0)).2)) == 0 || (an.getD k 0).testBit i
theorem and_bit {a b x : Nat} (h : a &&& b = 0) (ha : a.testBit x = true) (hb : b.testBit x = true) : False := by
  have : (a &&& b).testBit x = true := by rw [Nat.testBit_and, ha, hb]; rfl
  rw [h] at this
  simp at this
theorem or_zero {a b : Nat} (h : a ||| b = 0) : a = 0 ∧ b = 0 := by
  constructor
  · apply Nat.eq_of_testBit_eq
    intro i
    have : (a ||| b).testBit i = false := by rw [h]; simp
    rw [Nat.testBit_or, Bool.or_eq_false_iff] at this
    simpa using this.1
  · apply Nat.eq_of_testBit_eq
    intro i
    have : (a ||| b).testBit i = false := by rw [h]; simp
    rw [Nat.testBit_or, Bool.or_eq_false_iff] at this
    simpa using this.2
theorem okLog_anc {l : List Oper} {log : List Foot} (h : okLog l log = true) {i k : Nat} {fi fk : Foot} (hik : i < k) (hi : log[i]? = some fi) (hk : log[k]? = some fk) {x : Nat}
    (hx : (x ∈ fi.wr ∧ (x ∈ fk.rd ∨ x ∈ fk.wr)) ∨ (x ∈ fi.rd ∧ x ∈ fk.wr)) : Anc l i k := by
  unfold okLog at h
  have hkl := (List.getElem?_eq_some_iff.1 hk).1
  have h1 := List.all_eq_true.1 h k (List.mem_range.2 hkl)
  have h2 := List.all_eq_true.1 h1 i (List.mem_range.2 hik)
  rw [Bool.or_eq_true] at h2
  rcases h2 with h2 | h2
  · exfalso
    rw [beq_iff_eq] at h2
    have e1 : (log.map fun f => (maskL f.rd, maskL f.wr)).getD i (0, 0) = (maskL fi.rd, maskL fi.wr) := by rw [List.getD_eq_getElem?_getD, List.getElem?_map, hi]; rfl
    have e2 : (log.map fun f => (maskL f.rd, maskL f.wr)).getD k (0, 0) = (maskL fk.rd, maskL fk.wr) := by rw [List.getD_eq_getElem?_getD, List.getElem?_map, hk]; rfl
    rw [e1, e2] at h2
    obtain ⟨h3, h4⟩ := or_zero h2
    rcases hx with ⟨hx, hx2⟩ | ⟨hx, hx2⟩
    · refine and_bit h3 (maskL_mem hx) ?_
      rw [Nat.testBit_or, Bool.or_eq_true]
      exact hx2.imp maskL_mem maskL_mem
    · exact and_bit h4 (maskL_mem hx) (maskL_mem hx2)
  · exact ancs_ok l [] [] rfl rfl (fun k i hk => by simp at hk) k i h2
def stepO (s : St) (nid : Nat) (o : Oper) : Option Out → St
  | none => { s with slots := setSlot s.slots o.dst (.tup []) }
  | some x => putS s nid o.dst x
structure Trace (P : Program) (T : Tab) (ops : Array Oper) (ns n0 : Nat) (l : List Oper) (st : Nat → St) (out : Nat → Option Out) (log : List Foot) : Prop where
  len : log.length = l.length
  foot : ∀ k o, l[k]? = some o → log[k]? = some (footOf ops (n0 + k) (st k) o (out k))
  next : ∀ k o, l[k]? = some o → st (k + 1) = stepO (st k) (n0 + k) o (out k)
  step : ∀ k o, l[k]? = some o → (∃ x, out k = some x ∧ guardS ops ns (st k) o = some true ∧ Step P T ns (n0 + k) (st k) o.op x) ∨ (out k = none ∧ guardS ops ns (st k) o = some false)
theorem exec_trace {ops : Array Oper} : ∀ (l : List Oper) (nid : Nat) (s : St) (log : List Foot) {Q : St → List Foot → Prop}, Exec P T ops ns nid l s log Q →
    ∃ st out log', st 0 = s ∧ Trace P T ops ns nid l st out log' ∧ Q (st l.length) (log ++ log')
  | [], nid, s, log, Q, h => ⟨fun _ => s, fun _ => none, [], rfl, ⟨rfl, by simp, by simp, by simp⟩, by simp only [Exec] at h; simpa using h⟩
  | o :: l, nid, s, log, Q, h => by
    have main : ∀ (x : Option Out) (s1 : St), s1 = stepO s nid o x → ((∃ y, x = some y ∧ guardS ops ns s o = some true ∧ Step P T ns nid s o.op y) ∨ (x = none ∧ guardS ops ns s o = some false)) →
        Exec P T ops ns (nid + 1) l s1 (log ++ [footOf ops nid s o x]) Q → ∃ st out log', st 0 = s ∧ Trace P T ops ns nid (o :: l) st out log' ∧ Q (st (o :: l).length) (log ++ log') := by
      intro x s1 hs1 hx h
      obtain ⟨st, out, log', h0, ht, hq⟩ := exec_trace l (nid + 1) s1 _ h
      refine ⟨fun k => match k with | 0 => s | k + 1 => st k, fun k => match k with | 0 => x | k + 1 => out k, footOf ops nid s o x :: log', rfl, ⟨by simp [ht.len], ?_, ?_, ?_⟩, by simpa using hq⟩
      · intro k o' hk
        match k with
        | 0 => simp only [List.getElem?_cons_zero, Option.some.injEq] at hk ⊢; subst hk; rfl
        | k + 1 =>
          simp only [List.getElem?_cons_succ] at hk ⊢
          rw [ht.foot k o' hk, Nat.add_right_comm, Nat.add_assoc]
      · intro k o' hk
        match k with
        | 0 => simp only [List.getElem?_cons_zero, Option.some.injEq] at hk; subst hk; exact h0.trans hs1
        | k + 1 =>
          simp only [List.getElem?_cons_succ] at hk
          have := ht.next k o' hk
          rw [Nat.add_right_comm, Nat.add_assoc] at this
          exact this
      · intro k o' hk
        match k with
        | 0 => simp only [List.getElem?_cons_zero, Option.some.injEq] at hk; subst hk; exact hx
        | k + 1 =>
          simp only [List.getElem?_cons_succ] at hk
          have := ht.step k o' hk
          rw [Nat.add_right_comm, Nat.add_assoc] at this
          exact this
    simp only [Exec] at h
    split at h
    · rename_i hg
      obtain ⟨out, h1, h2⟩ := h
      exact main (some out) _ rfl (.inl ⟨out, rfl, hg, h1⟩) h2
    · rename_i hg
      exact main none _ rfl (.inr ⟨rfl, hg⟩) h
    · exact h.elim
theorem stepO_slot (s : St) (nid : Nat) (o : Oper) (x : Option Out) (t : Nat) : (stepO s nid o x).slots t = if o.dst = some t then (match x with | none => .tup [] | some y => y.res) else s.slots t := by
  cases x <;> simp only [stepO, putS] <;> (cases hd : o.dst <;> simp [setSlot, eq_comm])
theorem frzM_far {i : Nat} : ∀ {l : List Nat} {m : Nat → Option Blk}, i ∉ l → frzM m l i = m i
  | [], _, _ => rfl
  | k :: l, m, h => by
    simp only [frzM]
    rw [frzM_far (fun hh => h (List.mem_cons_of_mem _ hh)), setMem, if_neg (fun (e : i = k) => h (e ▸ List.mem_cons_self))]
theorem frzM_same {i : Nat} : ∀ {l : List Nat} {m m' : Nat → Option Blk}, m i = m' i → frzM m l i = frzM m' l i
  | [], _, _, h => h
  | k :: l, m, m', h => by
    simp only [frzM]
    refine frzM_same ?_
    unfold setMem
    by_cases e : i = k
    · subst e; rw [if_pos rfl, if_pos rfl, h]
    · rw [if_neg e, if_neg e, h]
theorem stepO_mem_far {s : St} {nid : Nat} {o : Oper} {x : Option Out} {i : Nat} (h : ∀ y, x = some y → i ∉ idsWritten nid y) : (stepO s nid o x).mem i = s.mem i := by
  cases x with
  | none => rfl
  | some y =>
    have h := h y rfl
    unfold idsWritten at h
    simp only [List.mem_append, not_or] at h
    obtain ⟨⟨h1, h2⟩, h3⟩ := h
    simp only [stepO, putS, memApp]
    have e1 := frzM_far (m := s.mem) h1
    cases hw : y.wr with
    | none =>
      cases hn : y.nw with
      | none => exact e1
      | some b =>
        rw [hn] at h3
        simp only [setMem]
        rw [if_neg (by simpa using h3)]
        exact e1
    | some p =>
      obtain ⟨j, b'⟩ := p
      rw [hw] at h2
      have e2 : setMem (frzM s.mem y.frz) j b' i = s.mem i := by
        unfold setMem
        rw [if_neg (by simpa using h2)]
        exact e1
      cases hn : y.nw with
      | none => exact e2
      | some b =>
        rw [hn] at h3
        simp only
        unfold setMem at e2 ⊢
        rw [if_neg (by simpa using h3)]
        exact e2
theorem stepO_mem_same {s s' : St} {nid : Nat} {o : Oper} {x : Option Out} {i : Nat} (h : s.mem i = s'.mem i) : (stepO s nid o x).mem i = (stepO s' nid o x).mem i := by
  cases x with
  | none => exact h
  | some y =>
    simp only [stepO, putS, memApp]
    have e1 := frzM_same (l := y.frz) h
    have e2 : ∀ (k : Nat) (b : Option Blk) (m m' : Nat → Option Blk), m i = m' i → setMem m k b i = setMem m' k b i := fun k b m m' hm => by
      unfold setMem
      by_cases e : i = k
      · rw [if_pos e, if_pos e]
      · rw [if_neg e, if_neg e, hm]
    cases y.wr with
    | none =>
      cases y.nw with
      | none => exact e1
      | some b => exact e2 _ _ _ _ e1
    | some p =>
      cases y.nw with
      | none => exact e2 _ _ _ _ e1
      | some b => exact e2 _ _ _ _ (e2 _ _ _ _ e1)
def stL (l : List Oper) (n0 : Nat) (out : Nat → Option Out) (s0 : St) (L : Nat → Bool) : Nat → St
  | 0 => s0
  | k + 1 => match l[k]? with
    | some o => if L k = true then stepO (stL l n0 out s0 L k) (n0 + k) o (out k) else stL l n0 out s0 L k
    | none => stL l n0 out s0 L k
section
variable {l : List Oper} {n0 : Nat} {out : Nat → Option Out} {s0 : St}
theorem stL_slot {L M : Nat → Bool} {t : Nat} (h : ∀ k o, l[k]? = some o → o.dst = some t → L k = M k) : ∀ k, (stL l n0 out s0 L k).slots t = (stL l n0 out s0 M k).slots t
  | 0 => rfl
  | k + 1 => by
    simp only [stL]
    cases ho : l[k]? with
    | none => exact stL_slot h k
    | some o =>
      simp only
      have ih := stL_slot h k
      by_cases hd : o.dst = some t
      · have := h k o ho hd
        rw [this]
        split
        · rw [stepO_slot, stepO_slot, if_pos hd, if_pos hd]
        · exact ih
      · have e : ∀ (s : St) x, (stepO s (n0 + k) o x).slots t = s.slots t := fun s x => by rw [stepO_slot, if_neg hd]
        split
        · split
          · rw [e, e]; exact ih
          · rw [e]; exact ih
        · split
          · rw [e]; exact ih
          · exact ih
theorem stL_mem {L M : Nat → Bool} {i : Nat} (h : ∀ k o y, l[k]? = some o → out k = some y → i ∈ idsWritten (n0 + k) y → L k = M k) : ∀ k, (stL l n0 out s0 L k).mem i = (stL l n0 out s0 M k).mem i
  | 0 => rfl
  | k + 1 => by
    simp only [stL]
    cases ho : l[k]? with
    | none => exact stL_mem h k
    | some o =>
      simp only
      have ih := stL_mem h k
      by_cases hd : ∃ y, out k = some y ∧ i ∈ idsWritten (n0 + k) y
      · obtain ⟨y, hy, hi⟩ := hd
        have := h k o y ho hy hi
        rw [this]
        split
        · exact stepO_mem_same ih
        · exact ih
      · have e : ∀ (s : St), (stepO s (n0 + k) o (out k)).mem i = s.mem i := fun s => stepO_mem_far fun y hy hi => hd ⟨y, hy, hi⟩
        split
        · split
          · rw [e, e]; exact ih
          · rw [e]; exact ih
        · split
          · rw [e]; exact ih
          · exact ih
end
variable {W0 : Fix} {R0 : Nat → Prop}
theorem exec_anyC (hT : TabOk P T) {n0 : Nat} {l : List Oper} (hB : backB l.toArray = true) {s0 : St} {Q' : St → Prop} (hE : Exec P T l.toArray ns n0 l s0 [] (fun s' log => okLog l log = true ∧ Q' s'))
    {E : Env} {a : Act} {w : World} (hs : Sim W0 R0 ns (· < n0) s0 E a w) {Q : Exit → Act → World → Prop} (hQ : ∀ s' E' a' w', Sim W0 R0 ns (· < n0 + l.length) s' E' a' w' → Q' s' → Q .normal a' w') : wpAny P .any l.toArray Q l.toArray.size (Array.replicate l.toArray.size false) a { w with drawn := w.drawn + 1 } := by
  obtain ⟨st, out, log, h0, ht, hlog, hq⟩ := exec_trace l n0 s0 [] hE
  rw [List.nil_append] at hlog
  -- the text's own states
  have text : ∀ (k j : Nat), j ≤ k → k ≤ l.length → stL l n0 out s0 (fun i => decide (i < k)) j = st j := by
    intro k j
    induction j with
    | zero => intro _ _; exact h0.symm
    | succ j ih =>
      intro hj hk
      have hjl : l[j]? = some l[j] := List.getElem?_eq_getElem (by omega)
      simp only [stL, hjl]
      rw [if_pos (by simp; omega), ih (by omega) hk]
      exact (ht.next j _ hjl).symm
  have textE : ∀ (k : Nat), k ≤ l.length → ∀ j, k ≤ j → stL l n0 out s0 (fun i => decide (i < k)) j = st k := by
    intro k hk j
    induction j with
    | zero =>
      intro hj
      obtain rfl : k = 0 := by omega
      exact h0.symm
    | succ j ih =>
      intro hj
      rcases Nat.lt_or_ge j k with h | h
      · obtain rfl : k = j + 1 := by omega
        exact text (j + 1) (j + 1) (Nat.le_refl _) hk
      · simp only [stL]
        cases l[j]? with
        | none => exact ih h
        | some o => simp only; rw [if_neg (by simp; omega)]; exact ih h
  let Closed (L : Nat → Bool) : Prop := ∀ i k, Anc l i k → k < l.length → L k = true → L i = true
  have conf : ∀ {i k : Nat} {oi ok : Oper}, i < k → l[i]? = some oi → l[k]? = some ok → ∀ x, ((x ∈ (footOf l.toArray (n0 + i) (st i) oi (out i)).wr ∧ (x ∈ (footOf l.toArray (n0 + k) (st k) ok (out k)).rd ∨ x ∈ (footOf l.toArray (n0 + k) (st k) ok (out k)).wr)) ∨ (x ∈ (footOf l.toArray (n0 + i) (st i) oi (out i)).rd ∧ x ∈ (footOf l.toArray (n0 + k) (st k) ok (out k)).wr)) → Anc l i k :=
    fun {i k oi ok} hik hi hk x hx => okLog_anc hlog hik (ht.foot i oi hi) (ht.foot k ok hk) hx
  have wr_slot : ∀ {k : Nat} {o : Oper} {t : Nat}, o.dst = some t → 2 * t ∈ (footOf l.toArray (n0 + k) (st k) o (out k)).wr := fun {k o t} hd => by
    simp only [footOf, hd, Option.toList_some, List.map_cons, List.map_nil]
    exact List.mem_append_left _ (List.mem_singleton.2 rfl)
  have wr_mem : ∀ {k : Nat} {o : Oper} {y : Out} {i : Nat}, out k = some y → i ∈ idsWritten (n0 + k) y → 2 * i + 1 ∈ (footOf l.toArray (n0 + k) (st k) o (out k)).wr := fun {k o y i} hy hi => by
    simp only [footOf, hy]
    exact List.mem_append_right _ (List.mem_map.2 ⟨i, hi, rfl⟩)
  -- what operation k sees
  have see : ∀ (L : Nat → Bool) (k : Nat) (o : Oper), l[k]? = some o → L k = false → Closed L → (∀ i, Anc l i k → L i = true) → ∀ x, (x ∈ (footOf l.toArray (n0 + k) (st k) o (out k)).rd ∨ x ∈ (footOf l.toArray (n0 + k) (st k) o (out k)).wr) →
      ∀ i oi, l[i]? = some oi → x ∈ (footOf l.toArray (n0 + i) (st i) oi (out i)).wr → i ≠ k → L i = decide (i < k) := by
    intro L k o hk hLk hC hA x hx i oi hi hw hne
    rcases Nat.lt_or_gt_of_ne hne with h | h
    · rw [decide_eq_true h]
      exact hA i (conf h hi hk x (.inl ⟨hw, hx⟩))
    · rw [decide_eq_false (by omega)]
      have hanc : Anc l k i := conf h hk hi x (by
        rcases hx with hx | hx
        · exact .inr ⟨hx, hw⟩
        · exact .inl ⟨hx, .inr hw⟩)
      cases hLi : L i with
      | false => rfl
      | true =>
        have := hC k i hanc (List.getElem?_eq_some_iff.1 hi).1 hLi
        rw [hLk] at this
        cases this
  have see_slot : ∀ (L : Nat → Bool) (k : Nat) (o : Oper), l[k]? = some o → L k = false → Closed L → (∀ i, Anc l i k → L i = true) → ∀ t, 2 * t ∈ (footOf l.toArray (n0 + k) (st k) o (out k)).rd → (stL l n0 out s0 L l.length).slots t = (st k).slots t := by
    intro L k o hk hLk hC hA t hx
    have hkl := (List.getElem?_eq_some_iff.1 hk).1
    rw [← textE k (by omega) l.length (by omega)]
    refine stL_slot (fun i oi hi hd => ?_) _
    by_cases e : i = k
    · subst e; rw [hLk]; simp
    · exact see L k o hk hLk hC hA _ (.inl hx) i oi hi (wr_slot hd) e
  have see_mem : ∀ (L : Nat → Bool) (k : Nat) (o : Oper), l[k]? = some o → L k = false → Closed L → (∀ i, Anc l i k → L i = true) → ∀ t, (2 * t + 1 ∈ (footOf l.toArray (n0 + k) (st k) o (out k)).rd ∨ 2 * t + 1 ∈ (footOf l.toArray (n0 + k) (st k) o (out k)).wr) → (stL l n0 out s0 L l.length).mem t = (st k).mem t := by
    intro L k o hk hLk hC hA t hx
    have hkl := (List.getElem?_eq_some_iff.1 hk).1
    rw [← textE k (by omega) l.length (by omega)]
    refine stL_mem (fun i oi y hi hy hd => ?_) _
    by_cases e : i = k
    · subst e; rw [hLk]; simp
    · exact see L k o hk hLk hC hA _ hx i oi hi (wr_mem hy hd) e
  -- operation k is met
  have meet : ∀ (L L' : Nat → Bool) (k : Nat) (o : Oper), l[k]? = some o → L k = false → Closed L → (∀ i, Anc l i k → L i = true) → (∀ i, L' i = if i = k then true else L i) → stL l n0 out s0 L' l.length = stepO (stL l n0 out s0 L l.length) (n0 + k) o (out k) := by
    intro L L' k o hk hLk hC hA hL'
    have hkl := (List.getElem?_eq_some_iff.1 hk).1
    have hnext := ht.next k o hk
    have e1 : ∀ t, (stL l n0 out s0 L' l.length).slots t = (stepO (stL l n0 out s0 L l.length) (n0 + k) o (out k)).slots t := by
      intro t
      by_cases hd : o.dst = some t
      · rw [stL_slot (M := fun i => decide (i < k + 1)) (fun i oi hi hdi => ?_) _, textE (k + 1) (by omega) l.length (by omega), hnext, stepO_slot, stepO_slot, if_pos hd, if_pos hd]
        rw [hL']
        by_cases e : i = k
        · subst e; simp
        · rw [if_neg e, see L k o hk hLk hC hA _ (.inr (wr_slot hd)) i oi hi (wr_slot hdi) e]
          by_cases h : i < k
          · rw [decide_eq_true h, decide_eq_true (by omega)]
          · rw [decide_eq_false h, decide_eq_false (by omega)]
      · rw [stepO_slot, if_neg hd]
        refine stL_slot (fun i oi hi hdi => ?_) _
        rw [hL', if_neg]
        rintro rfl
        rw [hk] at hi
        cases hi
        exact hd hdi
    have e2 : ∀ i, (stL l n0 out s0 L' l.length).mem i = (stepO (stL l n0 out s0 L l.length) (n0 + k) o (out k)).mem i := by
      intro t
      by_cases hd : ∃ y, out k = some y ∧ t ∈ idsWritten (n0 + k) y
      · obtain ⟨y, hy, hi⟩ := hd
        have hw : 2 * t + 1 ∈ (footOf l.toArray (n0 + k) (st k) o (out k)).wr := wr_mem hy hi
        rw [stL_mem (M := fun i => decide (i < k + 1)) (fun i oi y' hi' hy' hdi => ?_) _, textE (k + 1) (by omega) l.length (by omega), hnext]
        · exact (stepO_mem_same (see_mem L k o hk hLk hC hA t (.inr hw))).symm
        · rw [hL']
          by_cases e : i = k
          · subst e; simp
          · rw [if_neg e, see L k o hk hLk hC hA _ (.inr hw) i oi hi' (wr_mem hy' hdi) e]
            by_cases h : i < k
            · rw [decide_eq_true h, decide_eq_true (by omega)]
            · rw [decide_eq_false h, decide_eq_false (by omega)]
      · rw [stepO_mem_far fun y hy hi => hd ⟨y, hy, hi⟩]
        refine stL_mem (fun i oi y hi hy hdi => ?_) _
        rw [hL', if_neg]
        rintro rfl
        exact hd ⟨y, hy, hdi⟩
    have := St.mk.injEq (stL l n0 out s0 L' l.length).slots (stL l n0 out s0 L' l.length).mem (stepO (stL l n0 out s0 L l.length) (n0 + k) o (out k)).slots (stepO (stL l n0 out s0 L l.length) (n0 + k) o (out k)).mem
    exact this.mpr ⟨funext e1, funext e2⟩
  let DL (L : Nat → Bool) (i : Nat) : Prop := i < n0 ∨ ∃ k, k < l.length ∧ L k = true ∧ i = n0 + k
  have key : ∀ (fuel : Nat) (listed : Array Bool) (E : Env) (a : Act) (w : World), listed.size = l.toArray.size → leftOf l.toArray.size listed ≤ fuel → Closed (fun i => listed.getD i true) →
      Sim W0 R0 ns (DL fun i => listed.getD i true) (stL l n0 out s0 (fun i => listed.getD i true) l.length) E a w → wpAny P .any l.toArray Q fuel listed a w := by
    have fin : ∀ (listed : Array Bool) (E : Env) (a : Act) (w : World), listed.size = l.toArray.size → Sim W0 R0 ns (DL fun i => listed.getD i true) (stL l n0 out s0 (fun i => listed.getD i true) l.length) E a w → Region.ready .any l.toArray listed = [] → Q .normal a w := by
      intro listed E a w hsz hsim hr
      have hall := all_listed hsz hB hr
      have e : stL l n0 out s0 (fun i => listed.getD i true) l.length = st l.length := by
        rw [← text l.length l.length (Nat.le_refl _) (Nat.le_refl _)]
        have q1 : ∀ t, (stL l n0 out s0 (fun i => listed.getD i true) l.length).slots t = (stL l n0 out s0 (fun i => decide (i < l.length)) l.length).slots t := fun t => stL_slot (fun i oi hi _ => by
          have hil := (List.getElem?_eq_some_iff.1 hi).1
          rw [hall i (by simpa using hil), decide_eq_true hil]) _
        have q2 : ∀ t, (stL l n0 out s0 (fun i => listed.getD i true) l.length).mem t = (stL l n0 out s0 (fun i => decide (i < l.length)) l.length).mem t := fun t => stL_mem (fun i oi y hi _ _ => by
          have hil := (List.getElem?_eq_some_iff.1 hi).1
          rw [hall i (by simpa using hil), decide_eq_true hil]) _
        have := St.mk.injEq (stL l n0 out s0 (fun i => listed.getD i true) l.length).slots (stL l n0 out s0 (fun i => listed.getD i true) l.length).mem (stL l n0 out s0 (fun i => decide (i < l.length)) l.length).slots (stL l n0 out s0 (fun i => decide (i < l.length)) l.length).mem
        exact this.mpr ⟨funext q1, funext q2⟩
      rw [e] at hsim
      exact hQ _ E a w (hsim.weak fun i hi => by
        rcases hi with hi | ⟨k, hk, _, rfl⟩ <;> omega) hq
    intro fuel
    induction fuel with
    | zero =>
      intro listed E a w hsz hl hC hsim
      have hr : Region.ready .any l.toArray listed = [] := by
        rw [List.eq_nil_iff_forall_not_mem]
        intro i hi
        have h1 := (mem_ready.1 hi).1
        have h2 : i ∈ (List.range l.toArray.size).filter fun j => !listed.getD j true := by
          rw [List.mem_filter]
          refine ⟨List.mem_range.2 ?_, by rw [h1]; rfl⟩
          obtain ⟨o, ho, _⟩ := (mem_ready.1 hi).2
          exact (Array.getElem?_eq_some_iff.1 ho).1
        unfold leftOf at hl
        rw [List.length_eq_zero_iff.1 (Nat.le_zero.1 hl)] at h2
        cases h2
      exact ⟨hr, fin listed E a w hsz hsim hr⟩
    | succ fuel ih =>
      intro listed E a w hsz hl hC hsim
      refine ⟨fun hr => fin listed E a w hsz hsim hr, fun k hk => ?_⟩
      obtain ⟨hun, o, ho, hdep⟩ := mem_ready.1 hk
      have hkl : k < l.length := by have := (Array.getElem?_eq_some_iff.1 ho).1; simpa using this
      have hlk : l[k]? = some o := by simpa using ho
      have hA : ∀ i, Anc l i k → listed.getD i true = true := by
        intro i hi
        cases hi with
        | one h1 h2 h3 =>
          rw [hlk] at h1
          cases h1
          have h4 := hdep _ (by simpa using h2) h3
          rename_i e
          rcases Nat.lt_or_ge e.on listed.size with h5 | h5
          · simp [h5] at h4 ⊢; exact h4
          · simp [Array.getElem?_eq_none h5] at h4
        | more h1 h2 h3 h4 =>
          rw [hlk] at h1
          cases h1
          rename_i e
          have h5 := hdep _ (by simpa using h2) h3
          rcases Nat.lt_or_ge e.on listed.size with h6 | h6
          · refine hC i e.on h4 (by simpa [hsz] using h6) ?_
            simp [h6] at h5 ⊢; exact h5
          · simp [Array.getElem?_eq_none h6] at h5
      have hL' : ∀ i, (listed.setIfInBounds k true).getD i true = if i = k then true else listed.getD i true := fun i => by
        by_cases e : i = k
        · subst e; rw [if_pos rfl]; simp [hsz, hkl]
        · rw [if_neg e]; exact getD_set_ne true (Ne.symm e)
      have hmeet := meet (fun i => listed.getD i true) (fun i => (listed.setIfInBounds k true).getD i true) k o hlk hun hC hA hL'
      have hC' : Closed (fun i => (listed.setIfInBounds k true).getD i true) := by
        intro i j hij hj hLj
        have hLj := (hL' j).symm.trans hLj
        refine (hL' i).trans ?_
        split
        · rfl
        · rename_i hne
          by_cases e : j = k
          · subst e; exact hA i hij
          · rw [if_neg e] at hLj; exact hC i j hij hj hLj
      have hD' : ∀ i, (i = n0 + k ∨ DL (fun i => listed.getD i true) i) → DL (fun i => (listed.setIfInBounds k true).getD i true) i := by
        rintro i (rfl | hi | ⟨j, hj, hLj, rfl⟩)
        · exact .inr ⟨k, hkl, (hL' k).trans (if_pos rfl), rfl⟩
        · exact .inl hi
        · refine .inr ⟨j, hj, (hL' j).trans ?_, rfl⟩
          split
          · rfl
          · exact hLj
      have hDn : ¬ DL (fun i => listed.getD i true) (n0 + k) := by
        rintro (hi | ⟨j, hj, hLj, he⟩)
        · omega
        · obtain rfl : j = k := by omega
          have hLj := hun.symm.trans hLj
          cases hLj
      have hstep := ht.step k o hlk
      have hseeS : ∀ t, 2 * t ∈ (footOf l.toArray (n0 + k) (st k) o (out k)).rd → (stL l n0 out s0 (fun i => listed.getD i true) l.length).slots t = (st k).slots t := see_slot _ k o hlk hun hC hA
      have hgs : ∀ b, guardS l.toArray ns (st k) o = some b → guardS l.toArray ns (stL l n0 out s0 (fun i => listed.getD i true) l.length) o = some b := by
        intro b hb
        unfold guardS at hb ⊢
        have hdo : dstOk ns o.dst = true := by by_cases hd : dstOk ns o.dst = true; exact hd; rw [if_neg hd] at hb; cases hb
        rw [if_pos hdo] at hb ⊢
        cases hgd : o.guard with
        | none => rw [hgd] at hb; exact hb
        | some p =>
          obtain ⟨j, want⟩ := p
          rw [hgd] at hb
          simp only at hb ⊢
          cases hj : (l.toArray[j]?).bind (·.dst) with
          | none => rw [hj] at hb; cases hb
          | some t =>
            rw [hj] at hb
            simp only at hb ⊢
            rw [hseeS t]
            · exact hb
            · simp only [footOf, guardSlot, hgd, hj]
              exact List.mem_append_left _ (by simp)
      refine wpOp_of ho fun K' hK' => ?_
      have hlf := leftOf_set hsz hun fuel hl
      rcases hstep with ⟨x, hx, hg, hst⟩ | ⟨hx, hg⟩
      · rw [guard_ok hsim (hgs _ hg), if_pos rfl]
        have hloc : Step P T ns (n0 + k) (stL l n0 out s0 (fun i => listed.getD i true) l.length) o.op x := by
          refine step_local hst (fun t htt => hseeS t ?_) (fun i hi => see_mem _ k o hlk hun hC hA i (.inl ?_)) fun i hi => see_mem _ k o hlk hun hC hA i (.inl ?_)
          · simp only [footOf, hx]
            exact List.mem_append_right _ (List.mem_append_left _ (List.mem_map.2 ⟨t, htt, rfl⟩))
          · simp only [footOf, hx]
            exact List.mem_append_right _ (List.mem_append_right _ (List.mem_append_left _ (List.mem_map.2 ⟨i, hi, rfl⟩)))
          · simp only [footOf, hx]
            exact List.mem_append_right _ (List.mem_append_right _ (List.mem_append_right _ (List.mem_map.2 ⟨i, hi, rfl⟩)))
        refine step_wp hT hsim hDn (N := n0 + l.length) (fun i hi => by rcases hi with hi | ⟨j, hj, _, rfl⟩ <;> omega) (guardS_dst hg) hloc fun E' a' w' hs' => hK' _ _ ?_
        refine ih _ E' a' w' (by simpa using hsz) hlf hC' ?_
        rw [hmeet, hx]
        exact hs'.weak hD'
      · rw [guard_ok hsim (hgs _ hg), if_neg (by simp)]
        refine hK' _ _ (ih _ E _ w (by simpa using hsz) hlf hC' ?_)
        rw [hmeet, hx]
        exact (hsim.put (guardS_dst hg) rep_no).weak fun i hi => hD' i (.inr hi)
  have hL0 : ∀ i, i < l.length → (Array.replicate l.toArray.size false).getD i true = false := fun i hi => by simp [hi]
  have e0 : stL l n0 out s0 (fun i => (Array.replicate l.toArray.size false).getD i true) l.length = s0 := by
    refine Eq.trans ?_ ((textE 0 (Nat.zero_le _) l.length (Nat.zero_le _)).trans h0)
    have q1 : ∀ t, (stL l n0 out s0 (fun i => (Array.replicate l.toArray.size false).getD i true) l.length).slots t = (stL l n0 out s0 (fun i => decide (i < 0)) l.length).slots t := fun t =>
      stL_slot (fun i oi hi _ => by rw [hL0 i (List.getElem?_eq_some_iff.1 hi).1]; rfl) _
    have q2 : ∀ t, (stL l n0 out s0 (fun i => (Array.replicate l.toArray.size false).getD i true) l.length).mem t = (stL l n0 out s0 (fun i => decide (i < 0)) l.length).mem t := fun t =>
      stL_mem (fun i oi y hi _ _ => by rw [hL0 i (List.getElem?_eq_some_iff.1 hi).1]; rfl) _
    have := St.mk.injEq (stL l n0 out s0 (fun i => (Array.replicate l.toArray.size false).getD i true) l.length).slots (stL l n0 out s0 (fun i => (Array.replicate l.toArray.size false).getD i true) l.length).mem (stL l n0 out s0 (fun i => decide (i < 0)) l.length).slots (stL l n0 out s0 (fun i => decide (i < 0)) l.length).mem
    exact this.mpr ⟨funext q1, funext q2⟩
  refine key l.toArray.size _ E a _ (by simp) (by unfold leftOf; exact Nat.le_trans (List.length_filter_le _ _) (by simp)) (fun i k hik hk hLk => by have hLk := (hL0 k hk).symm.trans hLk; cases hLk) ?_
  rw [e0]
  exact hs.drew.weak fun i hi => .inl hi
theorem exec_any (hT : TabOk P T) (hm : P.follows .mixedOrders = true) {id n0 : Nat} {l : List Oper} (hB : backB l.toArray = true) {s0 : St} {Q' : St → Prop} (hE : Exec P T l.toArray ns n0 l s0 [] (fun s' log => okLog l log = true ∧ Q' s'))
    {E : Env} {a : Act} {w : World} (hs : Sim W0 R0 ns (· < n0) s0 E a w) {Q : Exit → Act → World → Prop} (hQ : ∀ s' E' a' w', Sim W0 R0 ns (· < n0 + l.length) s' E' a' w' → Q' s' → Q .normal a' w') : (Code.region id l.toArray true).wp P Q a w :=
  wp_region_any hm (exec_anyC hT hB hE hs hQ)
end Go.Proofs.Ytdkneonokbakjaa.Eng

namespace Go.Proofs.Ytdkneonokbakjaa.Eng
open Go.RowKit
variable {P : Program} {T : Tab} {tp : Bool} {ns : Nat}
abbrev Post := Exit → Nat → St → Prop
def AWp (P : Program) (tp : Bool) (ns : Nat) (c : Code) (n : Nat) (s : St) (Q : Post) : Prop :=
  ∀ (W0 : Fix) (R0 : Nat → Prop) (E : Env) (a : Act) (w : World), (W0.plain ∧ (tp = true → ∀ b, W0.U b → R0 b)) → Sim W0 R0 ns (· < n) s E a w → c.wp P (fun e a' w' => ∃ n' s' E', Sim W0 R0 ns (· < n') s' E' a' w' ∧ Q e n' s') a w
def thenP (k : Nat → St → Prop) (Q : Post) : Post
  | .normal, n, s => k n s
  | e, n, s => Q e n s
def blockP (id : Nat) (Q : Post) : Post
  | .exit id', n, s => if id' = id then Q .normal n s else Q (.exit id') n s
  | e, n, s => Q e n s
theorem AWp.seq {x y : Code} {n : Nat} {s : St} {Q : Post} (h : AWp P tp ns x n s (thenP (fun n s => AWp P tp ns y n s Q) Q)) : AWp P tp ns (.seq x y) n s Q := fun W0 R0 E a w ht hs => by
  refine wp_seq (wp_mono (h W0 R0 E a w ht hs) ?_)
  rintro e a' w' ⟨n', s', E', h1, h2⟩
  cases e with
  | normal => exact h2 W0 R0 E' a' w' ht h1
  | _ => exact ⟨n', s', E', h1, h2⟩
theorem AWp.skip {n : Nat} {s : St} {Q : Post} (h : Q .normal n s) : AWp P tp ns .skip n s Q := fun _ _ E _ _ _ hs => wp_skip ⟨n, s, E, hs, h⟩
theorem AWp.exit {id n : Nat} {s : St} {Q : Post} (h : Q (.exit id) n s) : AWp P tp ns (.exit id) n s Q := fun _ _ E _ _ _ hs => wp_exit ⟨n, s, E, hs, h⟩
theorem AWp.ret {n : Nat} {s : St} {Q : Post} (h : Q .ret n s) : AWp P tp ns .ret n s Q := fun _ _ E _ _ _ hs => wp_ret ⟨n, s, E, hs, h⟩
theorem AWp.block {id n : Nat} {c : Code} {s : St} {Q : Post} (h : AWp P tp ns c n s (blockP id Q)) : AWp P tp ns (.block id c) n s Q := fun W0 R0 E a w ht hs => by
  refine wp_block (wp_mono (h W0 R0 E a w ht hs) ?_)
  rintro e a' w' ⟨n', s', E', h1, h2⟩
  cases e with
  | exit id' =>
    simp only [blockP] at h2
    simp only [Exit.inBlock]
    split at h2
    · rename_i e; rw [if_pos e]; exact ⟨n', s', E', h1, h2⟩
    · rename_i e; rw [if_neg e]; exact ⟨n', s', E', h1, h2⟩
  | _ => exact ⟨n', s', E', h1, h2⟩
theorem AWp.cond {c : Operand} {x y : Code} {n : Nat} {s : St} {Q : Post} {t : Bool} (hc : opd ns s c = some (.d (.val (.bool t)))) (h1 : t = true → AWp P tp ns x n s Q) (h2 : t = false → AWp P tp ns y n s Q) : AWp P tp ns (.cond c x y) n s Q :=
  fun W0 R0 E a w ht hs => wp_cond_split (rep_bool (hs.opd hc)) (fun h => h1 h W0 R0 E a w ht hs) (fun h => h2 h W0 R0 E a w ht hs)
theorem AWp.draws (hT : TabOk P T) (hm : P.follows .mixedOrders = true) {id n : Nat} {l : List Oper} {s : St} {Q : Post} (hB : backB l.toArray = true) (h : Exec P T l.toArray ns n l s [] (fun s' log => okLog l log = true ∧ Q .normal (n + l.length) s')) : AWp P tp ns (.region id l.toArray true) n s Q :=
  fun _ _ _ _ _ _ hs => exec_any hT hm hB h hs fun s' E' _ _ h1 h2 => ⟨_, s', E', h1, h2⟩
theorem wp_loop_ix {ι : Type} {Q : Exit → Act → World → Prop} {a : Act} {w : World} {c : Code} (I : ι → Act → World → Prop) (μ : ι → Nat) {i : ι} (h₀ : I i a w)
    (round : ∀ i a w, I i a w → c.wp P (Exit.then (fun a' w' => ∃ j, I j a' w' ∧ μ j < μ i) Q) a w) : (Code.loop c).wp P Q a w := by
  intro b k cs
  have key : ∀ n i a w, μ i = n → I i a w →
      ∃ e a' w', Q e a' w' ∧ Arrives P (lone (b.at a (.code c :: .inLoop c :: k)) cs w) b k cs e a' w' := by
    intro n
    induction n using Nat.strongRecOn with
    | _ n ih =>
      intro i a w hn hI
      obtain ⟨e, a₁, w₁, hq, harr⟩ := round i a w hI b (.inLoop c :: k) cs
      cases e with
      | normal =>
        obtain ⟨j, hI₁, hlt⟩ := hq
        obtain ⟨e₂, a₂, w₂, hq₂, harr₂⟩ := ih (μ j) (hn ▸ hlt) j a₁ w₁ rfl hI₁
        exact ⟨e₂, a₂, w₂, hq₂, .of_steps (Steps.trans harr (.one step_inLoop)) harr₂⟩
      | exit id => exact ⟨_, a₁, w₁, hq, .pass (x := .inLoop c) rfl (fun _ _ => .inl (by simp)) harr⟩
      | goto l => exact ⟨_, a₁, w₁, hq, .pass (x := .inLoop c) rfl (fun _ _ => .inl (by simp)) harr⟩
      | ret => exact ⟨_, a₁, w₁, hq, .pass (x := .inLoop c) rfl (fun _ _ => .inl (by simp)) harr⟩
      | panic ch => exact ⟨_, a₁, w₁, hq, .pass (x := .inLoop c) rfl (fun _ _ => .inl (by simp)) harr⟩
      | outgrown => exact ⟨_, a₁, w₁, hq, .pass (x := .inLoop c) rfl (fun _ _ => .inl (by simp)) harr⟩
  obtain ⟨e, a', w', hq, harr⟩ := key _ i a w rfl h₀
  exact ⟨e, a', w', hq, .of_steps (.one step_loop) harr⟩
def ren0 (n : Nat) (σ : Nat → Nat) : SV → Option SV
  | .d x => some (.d x)
  | .nilS => some .nilS
  | .lin i k => if i < n then some (.lin (σ i) k) else none
  | .own i k z => if i < n then some (.own (σ i) k z) else none
  | .rptr cs => some (.rptr cs)
  | .ptr i r j => if i < n then some (.ptr (σ i) r j) else none
  | _ => none
def ren0s (n : Nat) (σ : Nat → Nat) : List SV → Option (List SV)
  | [] => some []
  | c :: l => match ren0 n σ c, ren0s n σ l with
    | some d, some r => some (d :: r)
    | _, _ => none
def renC (n : Nat) (σ : Nat → Nat) : SV → Option SV
  | .d x => some (.d x)
  | .nilS => some .nilS
  | .lin i k => if i < n then some (.lin (σ i) k) else none
  | .own i k z => if i < n then some (.own (σ i) k z) else none
  | .rptr cs => some (.rptr cs)
  | .ptr i r j => if i < n then some (.ptr (σ i) r j) else none
  | .fn f xs ys => match ren0s n σ xs, ren0s n σ ys with
    | some a, some b => some (.fn f a b)
    | _, _ => none
  | _ => none
def renCs (n : Nat) (σ : Nat → Nat) : List SV → Option (List SV)
  | [] => some []
  | c :: l => match renC n σ c, renCs n σ l with
    | some d, some r => some (d :: r)
    | _, _ => none
def renS (n : Nat) (σ : Nat → Nat) : SV → Option SV
  | .agg cs => match renCs n σ cs with
    | some l => some (.agg l)
    | none => none
  | x => renC n σ x
def renB (n : Nat) (σ : Nat → Nat) : Blk → Option Blk
  | .box t cs f => match renCs n σ cs with
    | some l => some (.box t l f)
    | none => none
  | .row t z rows f => some (.row t z rows f)
  | .loop .. => none
  | .map .. => none
  | .part .. => none
  | .iter .. => none
def Env.ren (E : Env) (n : Nat) (σ : Nat → Nat) : Env := { ro := E.ro, dom := fun i => i < n ∧ E.dom (σ i), home := fun i => E.home (σ i) }
theorem ren0_rep {E : Env} {w : World} {n : Nat} {σ : Nat → Nat} {x y : SV} {v : Value} (h : ren0 n σ x = some y) (hy : Rep E w y v) : Rep (E.ren n σ) w x v := by
  unfold ren0 at h
  split at h
  · cases h; cases hy with | d _ _ h => exact .d _ _ h
  · cases h; cases hy; exact .nilS
  · split at h
    · rename_i hi
      cases h
      cases hy with | lin _ _ h1 h2 h3 => exact Rep.lin (E := E.ren n σ) _ _ ⟨hi, h1⟩ h2 h3
    · cases h
  · split at h
    · rename_i hi
      cases h
      cases hy with | own _ _ _ h1 h2 => exact Rep.own (E := E.ren n σ) _ _ _ ⟨hi, h1⟩ h2
    · cases h
  · cases h; cases hy with | rptr _ b off f h1 h2 h3 h4 => exact .rptr _ b off f h1 h2 h3 h4
  · split at h
    · rename_i hi
      cases h
      cases hy with | ptr _ _ _ h1 => exact Rep.ptr (E := E.ren n σ) _ _ _ ⟨hi, h1⟩
    · cases h
  · cases h
theorem ren0s_spec {n : Nat} {σ : Nat → Nat} : ∀ {l r : List SV}, ren0s n σ l = some r → r.length = l.length ∧ ∀ (i : Nat) x, l[i]? = some x → ∃ y, r[i]? = some y ∧ ren0 n σ x = some y
  | [], r, h => by cases h; simp
  | c :: l, r, h => by
    simp only [ren0s] at h
    split at h
    · rename_i d r' h1 h2
      cases h
      obtain ⟨k1, k2⟩ := ren0s_spec h2
      refine ⟨by simp [k1], fun i x hx => ?_⟩
      match i with
      | 0 => simp only [List.getElem?_cons_zero, Option.some.injEq] at hx; subst hx; exact ⟨d, rfl, h1⟩
      | i + 1 => exact k2 i x (by simpa using hx)
    · cases h
theorem renC_rep {E : Env} {w : World} {n : Nat} {σ : Nat → Nat} {x y : SV} {v : Value} (h : renC n σ x = some y) (hy : Rep E w y v) : Rep (E.ren n σ) w x v := by
  cases x with
  | fn f xs ys =>
    simp only [renC] at h
    split at h
    · rename_i a b h1 h2
      cases h
      obtain ⟨k1, k2⟩ := ren0s_spec h1
      obtain ⟨l1, l2⟩ := ren0s_spec h2
      cases hy with
      | fn _ _ _ us vs u1 u2 u3 u4 =>
        refine .fn f xs ys us vs (u1.trans k1) (u2.trans l1) (fun i c v hc hv => ?_) fun i c v hc hv => ?_
        · obtain ⟨y, hy, hr⟩ := k2 i c hc
          exact ren0_rep hr (u3 i y v hy hv)
        · obtain ⟨y, hy, hr⟩ := l2 i c hc
          exact ren0_rep hr (u4 i y v hy hv)
    · cases h
  | und => exact ren0_rep h hy
  | d x => exact ren0_rep h hy
  | agg cs => exact ren0_rep h hy
  | nilS => exact ren0_rep h hy
  | lin i k => exact ren0_rep h hy
  | own i k z => exact ren0_rep h hy
  | rptr cs => exact ren0_rep h hy
  | ptr i r j => exact ren0_rep h hy
  | full rows => exact ren0_rep h hy
  | tup cs => exact ren0_rep h hy
  | yield id => exact ren0_rep h hy
  | sl i o k c => exact ren0_rep h hy
  | mp i => exact ren0_rep h hy
theorem renC_one {n : Nat} {σ : Nat → Nat} {x y : SV} (h : renC n σ x = some y) : x.one = y.one := by
  unfold renC at h
  split at h <;> first | (cases h; rfl) | (split at h <;> first | (cases h; rfl) | cases h) | cases h
theorem renCs_spec {n : Nat} {σ : Nat → Nat} : ∀ {l r : List SV}, renCs n σ l = some r → r.length = l.length ∧ ∀ (i : Nat) x, l[i]? = some x → ∃ y, r[i]? = some y ∧ renC n σ x = some y
  | [], r, h => by cases h; simp
  | c :: l, r, h => by
    simp only [renCs] at h
    split at h
    · rename_i d r' h1 h2
      cases h
      obtain ⟨k1, k2⟩ := renCs_spec h2
      refine ⟨by simp [k1], fun i x hx => ?_⟩
      match i with
      | 0 => simp only [List.getElem?_cons_zero, Option.some.injEq] at hx; subst hx; exact ⟨d, rfl, h1⟩
      | i + 1 => exact k2 i x (by simpa using hx)
    · cases h
theorem renS_rep {E : Env} {w : World} {n : Nat} {σ : Nat → Nat} {x y : SV} {v : Value} (h : renS n σ x = some y) (hy : Rep E w y v) : Rep (E.ren n σ) w x v := by
  unfold renS at h
  split at h
  · rename_i cs
    split at h
    · rename_i l hl
      cases h
      obtain ⟨k1, k2⟩ := renCs_spec hl
      cases hy with
      | agg _ vs h1 h2 h3 =>
        refine .agg _ _ (h1.trans k1) (fun c hc => ?_) fun i c v hc hv => ?_
        · obtain ⟨i, hi, rfl⟩ := List.getElem_of_mem hc
          obtain ⟨y, hy, hr⟩ := k2 i _ (List.getElem?_eq_getElem hi)
          rw [renC_one hr]
          exact h2 y (List.mem_of_getElem? hy)
        · obtain ⟨y, hy, hr⟩ := k2 i c hc
          exact renC_rep hr (h3 i y v hy hv)
    · cases h
  · exact renC_rep h hy
theorem renB_holds {E : Env} {w : World} {n : Nat} {σ : Nat → Nat} {b b' : Blk} {h : Home} (hb : renB n σ b = some b') (hh : Holds E w h b') : Holds (E.ren n σ) w h b ∧ b.frz = b'.frz := by
  unfold renB at hb
  split at hb
  · rename_i t cs f
    split at hb
    · rename_i l hl
      cases hb
      obtain ⟨k1, k2⟩ := renCs_spec hl
      cases hh with
      | box _ _ _ cur h1 h2 h3 h4 =>
        refine ⟨.box _ _ _ cur h1 (h2.trans k1) (fun c hc => ?_) fun i c v hc hv => ?_, rfl⟩
        · obtain ⟨i, hi, rfl⟩ := List.getElem_of_mem hc
          obtain ⟨y, hy, hr⟩ := k2 i _ (List.getElem?_eq_getElem hi)
          rw [renC_one hr]
          exact h3 y (List.mem_of_getElem? hy)
        · obtain ⟨y, hy, hr⟩ := k2 i c hc
          exact renC_rep hr (h4 i y v hy hv)
    · cases hb
  · cases hb
    cases hh with
    | row _ _ _ _ cur h1 h2 h3 h4 h5 h6 h7 h8 => exact ⟨.row _ _ _ _ cur h1 h2 h3 h4 h5 h6 h7 h8, rfl⟩
  · cases hb
  · cases hb
  · cases hb
  · cases hb
def mkSlots : List (Nat × SV) → Nat → SV
  | [] => fun _ => .und
  | (t, x) :: l => fun k => if k = t then x else mkSlots l k
def mkMem : List (Nat × Blk) → Nat → Option Blk
  | [] => fun _ => none
  | (t, x) :: l => fun k => if k = t then some x else mkMem l k
def mkSt (l : List (Nat × SV)) (m : List (Nat × Blk)) : St := ⟨mkSlots l, mkMem m⟩
structure Fits (n : Nat) (l : List (Nat × SV)) (m : List (Nat × Blk)) (σ : List Nat) (s : St) : Prop where
  len : σ.length = n
  slots : ∀ p ∈ l, renS n (fun i => σ.getD i 0) p.2 = some (s.slots p.1)
  mem : ∀ p ∈ m, p.1 < n ∧ ∃ b, s.mem (σ.getD p.1 0) = some b ∧ renB n (fun i => σ.getD i 0) p.2 = some b
  inj : σ.Nodup
theorem mkSlots_mem {l : List (Nat × SV)} {t : Nat} : mkSlots l t = .und ∨ ∃ p ∈ l, p.1 = t ∧ mkSlots l t = p.2 := by
  induction l with
  | nil => exact .inl rfl
  | cons p l ih =>
    obtain ⟨k, x⟩ := p
    simp only [mkSlots]
    by_cases e : t = k
    · exact .inr ⟨(k, x), List.mem_cons_self, e.symm, if_pos e⟩
    · rw [if_neg e]
      rcases ih with h | ⟨p, hp, h1, h2⟩
      · exact .inl h
      · exact .inr ⟨p, List.mem_cons_of_mem _ hp, h1, h2⟩
theorem mkMem_mem {l : List (Nat × Blk)} {t : Nat} {b : Blk} (h : mkMem l t = some b) : ∃ p ∈ l, p.1 = t ∧ b = p.2 := by
  induction l with
  | nil => cases h
  | cons p l ih =>
    obtain ⟨k, x⟩ := p
    simp only [mkMem] at h
    split at h
    · rename_i e; cases h; exact ⟨(k, b), List.mem_cons_self, e.symm, rfl⟩
    · obtain ⟨p, hp, h1, h2⟩ := ih h
      exact ⟨p, List.mem_cons_of_mem _ hp, h1, h2⟩
theorem Sim.fitsE {W0 : Fix} {R0 : Nat → Prop} {D : Nat → Prop} {s : St} {E : Env} {a : Act} {w : World} (hp : W0.plain) (h : Sim W0 R0 ns D s E a w) {n : Nat} {l : List (Nat × SV)} {m : List (Nat × Blk)} {σ : List Nat} (hf : Fits n l m σ s) :
    Sim W0 R0 ns (· < n) (mkSt l m) (E.ren n (fun i => σ.getD i 0)) a w := by
  refine ⟨h.below, h.ro0, h.ro1, h.rlt, h.size, h.dfr, fun t => ?_, fun i hi => hi.1, fun i b hi => ?_, fun i b hi => ?_, fun i b hi => ?_, fun i b hi => ?_, fun i j b c hi hj hij => ?_, fun i hi => absurd hi (hp.dom i), fun b hb => h.re0 b hb⟩
  · rcases mkSlots_mem (l := l) (t := t) with e | ⟨p, hp, rfl, e⟩
    · simp only [mkSt]; rw [e]; exact .und _
    · simp only [mkSt]; rw [e]; exact renS_rep (hf.slots p hp) (h.slot p.1)
  · obtain ⟨p, hp, rfl, rfl⟩ := mkMem_mem hi
    obtain ⟨h1, b, h2, h3⟩ := hf.mem p hp
    exact ⟨h1, h.live _ b h2⟩
  · obtain ⟨p, hp, rfl, rfl⟩ := mkMem_mem hi
    obtain ⟨h1, b, h2, h3⟩ := hf.mem p hp
    exact (renB_holds h3 (h.mem _ b h2)).1
  · obtain ⟨p, hp, rfl, rfl⟩ := mkMem_mem hi
    obtain ⟨h1, b, h2, h3⟩ := hf.mem p hp
    exact h.base _ b h2
  · obtain ⟨p, hp, rfl, rfl⟩ := mkMem_mem hi
    obtain ⟨h1, b, h2, h3⟩ := hf.mem p hp
    rw [(renB_holds h3 (h.mem _ b h2)).2]
    exact h.frz _ b h2
  · obtain ⟨p, hp, rfl, rfl⟩ := mkMem_mem hi
    obtain ⟨q, hq, rfl, rfl⟩ := mkMem_mem hj
    obtain ⟨h1, b, h2, h3⟩ := hf.mem p hp
    obtain ⟨k1, c, k2, k3⟩ := hf.mem q hq
    refine h.inj _ _ b c h2 k2 fun e => hij ?_
    have e1 : p.1 < σ.length := by rw [hf.len]; exact h1
    have e2 : q.1 < σ.length := by rw [hf.len]; exact k1
    have e : σ.getD p.1 0 = σ.getD q.1 0 := e
    rw [List.getD_eq_getElem?_getD, List.getD_eq_getElem?_getD, List.getElem?_eq_getElem e1, List.getElem?_eq_getElem e2] at e
    exact (List.getElem_inj hf.inj).1 e
theorem Sim.fits {W0 : Fix} {R0 : Nat → Prop} {D : Nat → Prop} {s : St} {E : Env} {a : Act} {w : World} (hp : W0.plain) (h : Sim W0 R0 ns D s E a w) {n : Nat} {l : List (Nat × SV)} {m : List (Nat × Blk)} {σ : List Nat} (hf : Fits n l m σ s) :
    ∃ E', Sim W0 R0 ns (· < n) (mkSt l m) E' a w := ⟨_, h.fitsE hp hf⟩
theorem AWp.loop {ι : Type} {c : Code} {n n0 : Nat} {s : St} {Q : Post} (l : ι → List (Nat × SV)) (m : ι → List (Nat × Blk)) (μ : ι → Nat) (i0 : ι) {σ : List Nat} (h0 : Fits n (l i0) (m i0) σ s)
    (round : ∀ i, AWp P tp ns c n (mkSt (l i) (m i)) (thenP (fun _ s' => ∃ j σ, Fits n (l j) (m j) σ s' ∧ μ j < μ i) Q)) : AWp P tp ns (.loop c) n0 s Q := fun W0 R0 E a w ht hs => by
  obtain ⟨E0, h1⟩ := hs.fits ht.1 h0
  refine wp_loop_ix (fun i a w => ∃ E, Sim W0 R0 ns (· < n) (mkSt (l i) (m i)) E a w) μ (i := i0) ⟨E0, h1⟩ ?_
  rintro i a w ⟨E, hs⟩
  refine wp_mono (round i W0 R0 E a w ht hs) ?_
  rintro e a' w' ⟨n', s', E', h1, h2⟩
  cases e with
  | normal =>
    obtain ⟨j, σ, h3, h4⟩ := h2
    obtain ⟨E2, h5⟩ := h1.fits ht.1 h3
    exact ⟨j, ⟨E2, h5⟩, h4⟩
  | _ => exact ⟨n', s', E', h1, h2⟩
def startS (args : List Dat) : Nat → SV := fun t => match args[t]? with
  | some d => .d d
  | none => .und
def resSlot (T : Tab) (s : St) : ResultVar → Option SV
  | .tmp t => some (s.slots t)
  | .cell t ty => match T ty, s.slots t with
    | some i, .ptr id r j => loadSV s.mem i (.ptr id r j)
    | _, _ => none
def resSlots (T : Tab) (s : St) : List ResultVar → Option (List SV)
  | [] => some []
  | r :: rs => match resSlot T s r, resSlots T s rs with
    | some x, some l => some (x :: l)
    | _, _ => none
def resOk (rs : List ResultVar) (ns : Nat) : Bool := rs.all fun
  | .tmp t => decide (t < ns)
  | .cell t _ => decide (t < ns)
def resD : List Dat → Dat
  | [d] => d
  | ds => .tup ds
def Returns (T : Tab) (rs : List ResultVar) (s : St) (r : Dat) : Prop := ∃ xs ds is, resSlots T s rs = some xs ∧ escAll s.mem xs = some (ds, is) ∧ resD ds = r
def wrapRes : List Value → Value
  | [v] => v
  | vs => .tuple vs.toArray
def resGo (tmps : Array Value) : ResultVar → Sem Value
  | .tmp t => pure (tmps.getD t undef)
  | .cell a t => do loadVar t (← asAddr (tmps.getD a undef))
theorem resGo_run {W0 : Fix} {R0 : Nat → Prop} {D : Nat → Prop} {s : St} {E : Env} {a : Act} {w : World} (hT : TabOk P T) (h : Sim W0 R0 ns D s E a w) {r : ResultVar} (hr : resOk [r] ns = true) {x : SV} (hx : resSlot T s r = some x) : ∃ v, (resGo a.tmps r).run P w = .ok v w ∧ Rep E w x v := by
  cases r with
  | tmp t =>
    have ht : t < ns := by simpa [resOk] using hr
    cases hx
    have := h.slot t
    rw [if_pos ht] at this
    exact ⟨_, rfl, this⟩
  | cell t ty =>
    have ht : t < ns := by simpa [resOk] using hr
    simp only [resSlot] at hx
    split at hx
    · rename_i i id r' j hi hs
      have hp := h.slot t
      rw [if_pos ht, hs] at hp
      obtain ⟨z, hz, hrep⟩ := load_run hT h.mem hi hx hp
      obtain ⟨u, hu⟩ : ∃ u, a.tmps.getD t undef = u := ⟨_, rfl⟩
      rw [hu] at hp hz
      cases hp with
      | ptr _ _ _ hd =>
        refine ⟨z, ?_, hrep⟩
        simp only [resGo, hu]
        simpa [Instr.loadAt, Instr.sureAddr, asAddr] using hz
    · cases hx
theorem results_run {W0 : Fix} {R0 : Nat → Prop} {D : Nat → Prop} {s : St} {E : Env} {a : Act} {w : World} (hT : TabOk P T) (h : Sim W0 R0 ns D s E a w) {fn : Func} (hr : resOk fn.results.toList ns = true) {xs : List SV} (hx : resSlots T s fn.results.toList = some xs) :
    ∃ vs, (results fn a.tmps).run P w = .ok (wrapRes vs) w ∧ vs.length = xs.length ∧ ∀ (j : Nat) x v, xs[j]? = some x → vs[j]? = some v → Rep E w x v := by
  have key : ∀ (rs : List ResultVar) (xs : List SV), resOk rs ns = true → resSlots T s rs = some xs → ∃ vs, (rs.mapM (resGo a.tmps)).run P w = .ok vs w ∧ vs.length = xs.length ∧ ∀ (j : Nat) x v, xs[j]? = some x → vs[j]? = some v → Rep E w x v := by
    intro rs
    induction rs with
    | nil => intro xs _ hx; cases hx; exact ⟨[], by simp, rfl, by simp⟩
    | cons r rs ih =>
      intro xs hr hx
      simp only [resSlots] at hx
      split at hx
      · rename_i x l h1 h2
        cases hx
        have hr' : resOk [r] ns = true ∧ resOk rs ns = true := by simpa [resOk] using hr
        obtain ⟨v, hv, hrep⟩ := resGo_run hT h hr'.1 h1
        obtain ⟨vs, k1, k2, k3⟩ := ih l hr'.2 h2
        refine ⟨v :: vs, by simp only [List.mapM_cons, Sem.run_bind, hv, Result.andThen_ok, k1, Sem.run_pure], by simp [k2], fun j y u hy hu => ?_⟩
        match j with
        | 0 => simp at hy hu; subst hy; subst hu; exact hrep
        | j + 1 => exact k3 j y u (by simpa using hy) (by simpa using hu)
      · cases hx
  obtain ⟨vs, k1, k2, k3⟩ := key _ xs hr hx
  refine ⟨vs, ?_, k2, k3⟩
  have e : results fn a.tmps = (do let vs ← fn.results.mapM (resGo a.tmps); pure (if h : vs.size = 1 then vs[0] else .tuple vs)) := by
    unfold results
    congr 1
  rw [e, Array.mapM_eq_mapM_toList]
  simp only [Sem.run_bind, Sem.run_map, k1]
  match vs with
  | [] => rfl
  | [v] => rfl
  | v :: u :: l => simp [wrapRes]
theorem calls_core (hT : TabOk P T) {f : FuncId} {fn : Func} {c : Code} (hf : P.funcs[f]? = some fn) (hb : fn.body = some c) (args : List Dat) (r : Dat) (hl : args.length ≤ fn.ntmps) (hr : resOk fn.results.toList fn.ntmps = true)
    (h : AWp P tp fn.ntmps c 0 ⟨startS args, fun _ => none⟩ (fun e _ s => (e = .normal ∨ e = .ret) ∧ Returns T fn.results.toList s r)) (ro : Nat → Prop) (w : World) (vs : Array Value) (hro : ∀ b, ro b → b < w.heap.size) (htop : tp = true → ∀ b, b < w.heap.size → ro b)
    (hsz : vs.size = args.length) (hrep : ∀ (i : Nat) d v, args[i]? = some d → vs[i]? = some v → RepD ro w d v) :
    Calls P f vs w fun e w' => ∃ v, e = .returned v ∧ Below w.heap.size w w' ∧ RepD (fun b => ro b ∨ (w.heap.size ≤ b ∧ b < w'.heap.size)) w' r v := by
  refine calls_of_wp hf hb ?_
  have hs0 : Sim (fixOf w) ro fn.ntmps (· < 0) ⟨startS args, fun _ => none⟩ ⟨ro, fun _ => False, fun _ => ⟨0, 0, 0⟩⟩ { tmps := vs ++ Array.replicate (fn.ntmps - vs.size) undef, defers := [] } w := by
    refine ⟨Kept.refl _ _, fun b h => h, fun b h => .inl h, hro, by simp; omega, rfl, fun t => ?_, fun i h => h.elim, (fun i b h => by cases h), (fun i b h => by cases h), (fun i b h => by cases h), (fun i b h => by cases h), (fun i j b c h => by cases h), fun i h => h.elim, fun b h => h.elim⟩
    simp only [startS]
    cases hd : args[t]? with
    | none => exact .und _
    | some d =>
      have hlt : t < vs.size := by have := (List.getElem?_eq_some_iff.1 hd).1; omega
      have e : (vs ++ Array.replicate (fn.ntmps - vs.size) undef).getD t undef = vs[t] := by simp [Array.getElem?_append, hlt]
      rw [if_pos (by omega), e]
      exact .d _ _ (hrep t d _ hd (Array.getElem?_eq_getElem hlt))
  refine wp_mono (h (fixOf w) ro _ _ w ⟨fixOf_plain w, htop⟩ hs0) ?_
  rintro e a' w' ⟨n', s', E', hs, he, xs, ds, is, hxs, h1, h2⟩
  have fin : a'.defers = [] ∧ ∃ v, (results fn a'.tmps).run P w' = .ok v w' ∧ ∃ v', Ending.returned v = .returned v' ∧ Below w.heap.size w w' ∧ RepD (fun b => ro b ∨ (w.heap.size ≤ b ∧ b < w'.heap.size)) w' r v' := by
    obtain ⟨vs', r1, r2, r3⟩ := results_run hT hs hr hxs
    refine ⟨hs.dfr, _, r1, _, rfl, hs.below.below, ?_⟩
    obtain ⟨E1, e1, e2, e3, e4, e5⟩ := hs.freezes is (escAll_ids h1)
    obtain ⟨q1, q2⟩ := escAll_rep (m0 := s'.mem) (m := frzM s'.mem is) (fun i t z rows f hh => frzM_row hh) (fun i b hb => e2.mem i b hb) h1 e3
    have hD : ∀ (j : Nat) d v, ds[j]? = some d → vs'[j]? = some v → RepD (fun b => ro b ∨ (w.heap.size ≤ b ∧ b < w'.heap.size)) w' d v := by
      intro j d v hd hv
      have hj : j < xs.length := by rw [← r2]; exact (List.getElem?_eq_some_iff.1 hv).1
      refine (q2 j _ d v (List.getElem?_eq_getElem hj) hd ((r3 j _ v (List.getElem?_eq_getElem hj) hv).keep e1 fun _ _ => rfl)).keep (fun b hb => ?_) fun _ _ => rfl
      rcases e2.ro1 b hb with h | h
      · exact .inl h
      · exact .inr ⟨Nat.le_of_not_lt h, e2.rlt b hb⟩
    have hvl : vs'.length = ds.length := by rw [r2, q1]
    subst h2
    match ds, vs', hvl, hD with
    | [], [], _, _ => exact .tup _ _ rfl (by simp)
    | [d], [v], _, hD => exact hD 0 d v rfl rfl
    | d :: d' :: ds, v :: v' :: vs', hvl, hD => exact .tup _ _ (by simpa using hvl) fun i c v hc hv => hD i c v hc (by simpa using hv)
  rcases he with rfl | rfl
  · exact fin
  · exact fin
theorem acall_of (hT : TabOk P T) {f : FuncId} {fn : Func} {c : Code} (hf : P.funcs[f]? = some fn) (hn : (fn.name == "runtime.NumGoroutine") = false) (hb : fn.body = some c) (args : List Dat) (r : Dat) (hl : args.length ≤ fn.ntmps) (hr : resOk fn.results.toList fn.ntmps = true)
    (h : AWp P false fn.ntmps c 0 ⟨startS args, fun _ => none⟩ (fun e _ s => (e = .normal ∨ e = .ret) ∧ Returns T fn.results.toList s r)) : ACall P f args r :=
  ⟨callable_of hf hn (by rw [hb]; rfl), fun ro w vs hro hsz hrep => calls_core hT hf hb args r hl hr h ro w vs hro (fun h => by cases h) hsz hrep⟩
end Go.Proofs.Ytdkneonokbakjaa.Eng

namespace Go.Proofs.Ytdkneonokbakjaa.Eng
open Go.RowKit
variable {P : Program}
theorem tiOk_mk {t : TypeId} {i : TI} {z : Value} (h : (P.info? t).map (fun i => (i.zero, i.size, i.bytes)) = some (some z, i.size, i.bytes)) (hz : z.cells = i.zero.toArray) (h1 : i.zero.all Value.oneCell' = true) (hl : i.zero.length = i.size) (hp : 0 < i.size)
    (und : match i.kind with
      | .int k => P.underlying t = some (.int k)
      | .bool => P.underlying t = some .bool
      | .cell => ∃ d, P.underlying t = some d ∧ (∀ fs, d ≠ .struct fs) ∧ ∀ n e, d ≠ .array n e
      | .slice e => P.underlying t = some (.slice e)
      | .struct fs => ∃ fields, P.underlying t = some (.struct fields) ∧ fields.toList.map (fun f => (f.offset, f.type)) = fs
      | .array n e => P.underlying t = some (.array n e))
    (hs : (i.kind.agg || i.size == 1) = true)
    (eqs : i.eqk ≠ [] → ∀ (w : World) (x y : Operand) (m n : List Int), m.length = i.eqk.length → n.length = i.eqk.length →
      (do eqGuard .eql t x y (aggInts i.eqk m) (aggInts i.eqk n); binOp .eql t (aggInts i.eqk m) (aggInts i.eqk n) : Sem Value).run P w = .ok (.bool (decide (m = n))) w ∧
      (do eqGuard .neq t x y (aggInts i.eqk m) (aggInts i.eqk n); binOp .neq t (aggInts i.eqk m) (aggInts i.eqk n) : Sem Value).run P w = .ok (.bool (decide (m ≠ n))) w) : TiOk P t i := by
  refine ⟨?_, fun v hv => List.all_eq_true.1 h1 v hv, hl, hp, und, fun ha => ?_, eqs⟩
  · rw [Option.map_eq_some_iff] at h
    obtain ⟨inf, h2, h3⟩ := h
    simp only [Prod.mk.injEq] at h3
    exact ⟨inf, z, h2, h3.2.1, h3.2.2, h3.1, hz⟩
  · rw [ha, Bool.false_or, beq_iff_eq] at hs
    exact hs
theorem agg_eq_run {t : TypeId} (w : World) (x y : Operand) (xs ys : Array Value) (b : Bool) (hg : P.eqGuardType P.depth t = false) (h : (Op.equal t (.agg xs) (.agg ys)).run P w = .ok b w) :
    (do eqGuard .eql t x y (.agg xs) (.agg ys); binOp .eql t (.agg xs) (.agg ys) : Sem Value).run P w = .ok (.bool b) w ∧
    (do eqGuard .neq t x y (.agg xs) (.agg ys); binOp .neq t (.agg xs) (.agg ys) : Sem Value).run P w = .ok (.bool (!b)) w := by
  have e1 : binOp .eql t (.agg xs) (.agg ys) = (do pure (.bool (← Op.equal t (.agg xs) (.agg ys)))) := rfl
  have e2 : binOp .neq t (.agg xs) (.agg ys) = (do pure (.bool (!(← Op.equal t (.agg xs) (.agg ys))))) := rfl
  have g1 : (eqGuard .eql t x y (.agg xs) (.agg ys)).run P w = .ok () w := by simp [eqGuard, hg]
  have g2 : (eqGuard .neq t x y (.agg xs) (.agg ys)).run P w = .ok () w := by simp [eqGuard, hg]
  rw [e1, e2]
  simp only [Sem.run_bind, g1, g2, h, Result.andThen_ok, Sem.run_pure, and_self]
theorem fieldsOf_eq {t : TypeId} {fs : Array Field} (h : P.underlying t = some (.struct fs)) : P.fieldsOf t = fs := by simp [Program.fieldsOf, h]
theorem part_int {t : TypeId} {k : IntKind} (h : P.underlying t = some (.int k)) (w : World) (cs : Array Value) (i : Nat) (v : Value) (hv : cs[i]? = some v) : (part t cs i).run P w = .ok v w := by
  simp [part, isAgg, run_underlying h, hv]
theorem decide_not_eq (p : Prop) [Decidable p] : (!decide p) = decide (¬ p) := by by_cases h : p <;> simp [h]
theorem eqs_by_2 {t t0 t1 : TypeId} {f0 f1 : Field} {k0 k1 : IntKind} (w : World) (x y : Operand) {m n : List Int} (hm : m.length = 2) (hn : n.length = 2) (hg : P.eqGuardType P.depth t = false) (hs : P.stoodInHeld t = false) (hu : P.underlying t = some (.struct #[f0, f1])) (h0 : P.underlying t0 = some (.int k0)) (h1 : P.underlying t1 = some (.int k1))
    (hf : f0.type = t0 ∧ f0.offset = 0 ∧ f0.name ≠ "_" ∧ f1.type = t1 ∧ f1.offset = 1 ∧ f1.name ≠ "_") :
    (do eqGuard .eql t x y (aggInts [k0, k1] m) (aggInts [k0, k1] n); binOp .eql t (aggInts [k0, k1] m) (aggInts [k0, k1] n) : Sem Value).run P w = .ok (.bool (decide (m = n))) w ∧
    (do eqGuard .neq t x y (aggInts [k0, k1] m) (aggInts [k0, k1] n); binOp .neq t (aggInts [k0, k1] m) (aggInts [k0, k1] n) : Sem Value).run P w = .ok (.bool (decide (m ≠ n))) w := by
  match m, n, hm, hn with
  | [a, c], [b, d], _, _ =>
    obtain ⟨rfl, o0, n0, rfl, o1, n1⟩ := hf
    have he : (Op.equal t (aggInts [k0, k1] [a, c]) (aggInts [k0, k1] [b, d])).run P w = .ok (decide ([a, c] = [b, d])) w := by
      unfold Op.equal aggInts
      rw [show Op.maxDepth = 9998 + 1 + 1 from rfl, run_equalIn_struct w _ t _ _ (by rw [fieldsOf_eq hu]; exact hu) hs, fieldsOf_eq hu]
      by_cases q : a = b
      · subst q
        by_cases q : c = d
        · subst q; simp [Op.eqFields, n0, o0, n1, o1, part_int h0, part_int h1, run_equalIn_int w _ _ k0 k0 _ _ h0, run_equalIn_int w _ _ k1 k1 _ _ h1]
        · simp [Op.eqFields, n0, o0, n1, o1, part_int h0, part_int h1, run_equalIn_int w _ _ k0 k0 _ _ h0, run_equalIn_int w _ _ k1 k1 _ _ h1, q]
      · simp [Op.eqFields, n0, o0, n1, o1, part_int h0, part_int h1, run_equalIn_int w _ _ k0 k0 _ _ h0, run_equalIn_int w _ _ k1 k1 _ _ h1, q]
    have := agg_eq_run w x y _ _ _ hg he
    rw [decide_not_eq] at this
    exact this
theorem eqItems_ints {e : TypeId} {k : IntKind} (he : P.underlying e = some (.int k)) (w : World) (d N : Nat) (A B : Nat → Int) (xs ys : Array Value) (hx : ∀ i, i < N → xs[i]? = some (.int k (A i))) (hy : ∀ i, i < N → ys[i]? = some (.int k (B i))) :
    ∀ is : List Nat, (∀ i ∈ is, i < N) → (Op.eqItems (d + 1) e 1 xs ys is).run P w = .ok (decide (∀ i ∈ is, A i = B i)) w
  | [], _ => by simp [Op.eqItems]
  | i :: is, h => by
    have ih := eqItems_ints he w d N A B xs ys hx hy is fun j hj => h j (List.mem_cons_of_mem _ hj)
    have hi := h i List.mem_cons_self
    simp only [Op.eqItems, Sem.run_bind, part_int he w xs (i * 1) _ (by rw [Nat.mul_one]; exact hx i hi), part_int he w ys (i * 1) _ (by rw [Nat.mul_one]; exact hy i hi), run_equalIn_int w _ _ k k _ _ he, Result.andThen_ok]
    by_cases c : A i = B i
    · simp [c, ih]
    · simp [c]
theorem eqs_by_arr {t e : TypeId} {k : IntKind} {N : Nat} {i : TypeInfo} (w : World) (x y : Operand) {m n : List Int} (hm : m.length = N) (hn : n.length = N) (hg : P.eqGuardType P.depth t = false) (hu : P.underlying t = some (.array N e)) (he : P.underlying e = some (.int k)) (hi : P.info? e = some i) (hz : P.cellsOf e = 1) :
    (do eqGuard .eql t x y (aggInts (List.replicate N k) m) (aggInts (List.replicate N k) n); binOp .eql t (aggInts (List.replicate N k) m) (aggInts (List.replicate N k) n) : Sem Value).run P w = .ok (.bool (decide (m = n))) w ∧
    (do eqGuard .neq t x y (aggInts (List.replicate N k) m) (aggInts (List.replicate N k) n); binOp .neq t (aggInts (List.replicate N k) m) (aggInts (List.replicate N k) n) : Sem Value).run P w = .ok (.bool (decide (m ≠ n))) w := by
  have at_ : ∀ l : List Int, l.length = N → ∀ i, i < N → (List.zipWith Value.int (List.replicate N k) l).toArray[i]? = some (.int k (l.getD i 0)) := fun l hl i hi => by
    rw [List.getElem?_toArray, List.getElem?_zipWith]
    simp [hi, List.getElem?_eq_getElem (show i < l.length by omega), List.getD_eq_getElem?_getD]
  have he2 : (Op.equal t (aggInts (List.replicate N k) m) (aggInts (List.replicate N k) n)).run P w = .ok (decide (m = n)) w := by
    unfold Op.equal aggInts
    rw [show Op.maxDepth = 9998 + 1 + 1 from rfl, run_equalIn_array w (9998 + 1) _ _ hu hi, hz, eqItems_ints he w 9998 N (fun i => m.getD i 0) (fun i => n.getD i 0) _ _ (at_ m hm) (at_ n hn) _ fun i hi => List.mem_range.1 hi]
    have : (∀ i ∈ List.range N, m.getD i 0 = n.getD i 0) ↔ m = n := by
      constructor
      · intro h
        refine List.ext_getElem? fun j => ?_
        by_cases hj : j < N
        · have := h j (List.mem_range.2 hj)
          simp only [List.getD_eq_getElem?_getD, List.getElem?_eq_getElem (show j < m.length by omega), List.getElem?_eq_getElem (show j < n.length by omega), Option.getD_some] at this
          rw [List.getElem?_eq_getElem (by omega), List.getElem?_eq_getElem (by omega), this]
        · rw [List.getElem?_eq_none (by omega), List.getElem?_eq_none (by omega)]
      · intro h i _
        rw [h]
    simp only [this]
  have := agg_eq_run w x y _ _ _ hg he2
  rw [decide_not_eq] at this
  exact this
variable {W0 : Fix} {R0 : Nat → Prop} {T : Tab} {ns : Nat} {D : Nat → Prop} {s : St} {E : Env} {a : Act} {w : World}
def StepG (P : Program) (tp : Bool) (ns nid : Nat) (s : St) (o : Oper) (G : St → Prop) : Prop :=
  ∀ (W0 : Fix) (R0 : Nat → Prop) (D : Nat → Prop) (E : Env) (a : Act) (w : World), (tp = true → ∀ b, W0.U b → R0 b) → Sim W0 R0 ns D s E a w → ¬ D nid → (∀ t, o.dst = some t → t < ns) →
    ∀ (K : Act → World → Prop) (Q : Exit → Act → World → Prop), (∀ s' E' a' w', G s' → Sim W0 R0 ns (fun k => k = nid ∨ D k) s' E' a' w' → K a' w') → o.wp P a w K Q
def waits : Op → Bool
  | .call c => match c.callee with
    | .builtin .delete => true
    | .builtin _ => false
    | _ => true
  | .range _ _ => true
  | .next _ _ => true
  | .entry _ => true
  | _ => false
theorem calleeS_waits {ns : Nat} {s : St} {o : Op} {f : FuncId} {svs : List SV} (h : calleeS ns s o = some (f, svs)) : waits o = true := by
  unfold calleeS at h
  split at h
  · split at h
    · rename_i hc; simp [waits, hc]
    · rename_i hc; simp [waits, hc]
    · cases h
  · cases h
theorem stepR_waits {s : St} {ns : Nat} {o : Op} {out : Out} (h : StepR P ns s o out) : waits o = true := by
  obtain ⟨f, svs, r, m0, h1, _⟩ := h
  exact calleeS_waits h1
theorem waits_fnOf {o : Op} (h : waits o = false) : fnOf o = none := by
  cases hf : fnOf o with
  | none => rfl
  | some x =>
    obtain ⟨f, args⟩ := x
    obtain ⟨c, rfl, hc, _⟩ := fnOf_eq hf
    simp [waits, hc] at h
def Exec0 (P : Program) (tp : Bool) (T : Tab) (ops : Array Oper) (ns : Nat) : Nat → List Oper → St → (St → Prop) → Prop
  | _, [], s, Q => Q s
  | nid, o :: l, s, Q => match guardS ops ns s o with
    | some true => (∃ out, Step P T ns nid s o.op out ∧ Exec0 P tp T ops ns (nid + 1) l (putS s nid o.dst out) Q) ∨
      (waits o.op = true ∧ ∃ G, StepG P tp ns nid s o G ∧ ∀ s', G s' → Exec0 P tp T ops ns (nid + 1) l s' Q)
    | some false => Exec0 P tp T ops ns (nid + 1) l { s with slots := setSlot s.slots o.dst (.tup []) } Q
    | none => False
theorem exec0_list {tp : Bool} (hT : TabOk P T) (htop : tp = true → ∀ b, W0.U b → R0 b) {ops : Array Oper} {Q : Exit → Act → World → Prop} : ∀ (l : List Oper) (nid : Nat) {s : St} {E : Env} {a : Act} {w : World} {Q' : St → Prop}, Exec0 P tp T ops ns nid l s Q' →
    Sim W0 R0 ns (· < nid) s E a w → (∀ s' E' a' w', Sim W0 R0 ns (· < nid + l.length) s' E' a' w' → Q' s' → Q .normal a' w') → wpList P ops Q l a w
  | [], nid, s, E, a, w, Q', h, hs, hQ => hQ s E a w hs h
  | o :: l, nid, s, E, a, w, Q', h, hs, hQ => by
    simp only [Exec0] at h
    refine wpList_step fun K hK => ?_
    split at h
    · rename_i hg
      rw [guard_ok hs hg, if_pos rfl]
      have fin : ∀ s1, Exec0 P tp T ops ns (nid + 1) l s1 Q' → ∀ E' a' w', Sim W0 R0 ns (fun k => k = nid ∨ k < nid) s1 E' a' w' → K a' w' := fun s1 h2 E' a' w' hs' => hK _ _ (by
        refine exec0_list hT htop l (nid + 1) h2 (hs'.weak fun i hi => by omega) fun s' E' a' w' hs2 hq => hQ s' E' a' w' ?_ hq
        rw [List.length_cons, show nid + (l.length + 1) = nid + 1 + l.length by omega]
        exact hs2)
      rcases h with ⟨out, h1, h2⟩ | ⟨_, G, h1, h2⟩
      · exact step_wp hT hs (nid := nid) (by omega) (N := nid) (fun _ h => h) (guardS_dst hg) h1 (fin _ h2)
      · exact h1 W0 R0 _ E a w htop hs (by omega) (guardS_dst hg) _ _ fun s' E' a' w' hG h' => fin s' (h2 s' hG) E' a' w' h'
    · rename_i hg
      rw [guard_ok hs hg, if_neg (by simp)]
      refine hK _ _ (exec0_list hT htop l (nid + 1) h ((hs.put (guardS_dst hg) rep_no).weak fun i hi => by omega) fun s' E' a' w' hs2 hq => hQ s' E' a' w' ?_ hq)
      rw [List.length_cons, show nid + (l.length + 1) = nid + 1 + l.length by omega]
      exact hs2
    · exact h.elim
theorem AWp.reg {tp : Bool} (hT : TabOk P T) {id n : Nat} {l : List Oper} {s : St} {Q : Post} (h : Exec0 P tp T l.toArray ns n l s (fun s' => Q .normal (n + l.length) s')) : AWp P tp ns (.region id l.toArray false) n s Q :=
  fun _ _ _ _ _ ht hs => wp_region_lit (exec0_list hT ht.2 l n h hs fun s' E' _ _ h1 h2 => ⟨_, s', E', h1, h2⟩)
end Go.Proofs.Ytdkneonokbakjaa.Eng

namespace Go.Proofs.Ytdkneonokbakjaa.Eng
open Go.RowKit
variable {P : Program} {tp : Bool} {ns : Nat}
structure KK (P : Program) (tp : Bool) (ns : Nat) (y : Code) (Q : Post) where
  K : Nat → St → Prop
  h : ∀ n s, AWp P tp ns y n s Q → K n s
theorem KK.go {y : Code} {Q : Post} {k : KK P tp ns y Q} {n : Nat} {s : St} (h : AWp P tp ns y n s Q) : k.K n s := k.h n s h
structure BB (id : Nat) (Q : Post) where
  B : Post
  h : ∀ e n s, blockP id Q e n s → B e n s
theorem BB.go {id : Nat} {Q : Post} {b : BB id Q} {e : Exit} {n : Nat} {s : St} (h : blockP id Q e n s) : b.B e n s := b.h e n s h
structure RR (T : Tab) (rs : List ResultVar) (r : Dat) where
  R : Post
  h : ∀ e n s, (e = .normal ∨ e = .ret) → Returns T rs s r → R e n s
theorem RR.ret {T : Tab} {rs : List ResultVar} {r : Dat} {q : RR T rs r} {n : Nat} {s : St} (h : Returns T rs s r) : q.R .ret n s := q.h _ n s (.inr rfl) h
structure LL (ι : Type) (n : Nat) (l : ι → List (Nat × SV)) (m : ι → List (Nat × Blk)) (μ : ι → Nat) (i : ι) where
  L : Nat → St → Prop
  h : ∀ n' s', (∃ j σ, Fits n (l j) (m j) σ s' ∧ μ j < μ i) → L n' s'
theorem LL.go {ι : Type} {n : Nat} {l : ι → List (Nat × SV)} {m : ι → List (Nat × Blk)} {μ : ι → Nat} {i : ι} {k : LL ι n l m μ i} {n' : Nat} {s' : St} (j : ι) (σ : List Nat) (h : Fits n (l j) (m j) σ s') (hm : μ j < μ i) : k.L n' s' := k.h n' s' ⟨j, σ, h, hm⟩
theorem AWp.seqK {x y : Code} {n : Nat} {s : St} {Q : Post} (h : ∀ k : KK P tp ns y Q, AWp P tp ns x n s (thenP k.K Q)) : AWp P tp ns (.seq x y) n s Q := AWp.seq (h ⟨fun n s => AWp P tp ns y n s Q, fun _ _ h => h⟩)
theorem AWp.blockK {id n : Nat} {c : Code} {s : St} {Q : Post} (h : ∀ b : BB id Q, AWp P tp ns c n s b.B) : AWp P tp ns (.block id c) n s Q := AWp.block (h ⟨blockP id Q, fun _ _ _ h => h⟩)
def CondG (v : Option SV) (A B : Prop) : Prop := match v with
  | some (.d (.val (.bool t))) => if t = true then A else B
  | _ => False
theorem AWp.condK {c : Operand} {x y : Code} {n : Nat} {s : St} {Q : Post} (h : ∀ (kx : KK P tp ns x Q) (ky : KK P tp ns y Q), CondG (opd ns s c) (kx.K n s) (ky.K n s)) : AWp P tp ns (.cond c x y) n s Q := by
  have h := h ⟨fun n s => AWp P tp ns x n s Q, fun _ _ h => h⟩ ⟨fun n s => AWp P tp ns y n s Q, fun _ _ h => h⟩
  unfold CondG at h
  split at h
  · rename_i t ht
    refine AWp.cond ht (fun e => ?_) fun e => ?_
    · rw [if_pos e] at h; exact h
    · rw [if_neg (by rw [e]; simp)] at h; exact h
  · exact h.elim
theorem AWp.loopK {ι : Type} {c : Code} {n n0 : Nat} {s : St} {Q : Post} (l : ι → List (Nat × SV)) (m : ι → List (Nat × Blk)) (μ : ι → Nat) (i0 : ι) (σ : List Nat) (h0 : Fits n (l i0) (m i0) σ s)
    (round : ∀ i, ∀ k : LL ι n l m μ i, AWp P tp ns c n (mkSt (l i) (m i)) (thenP k.L Q)) : AWp P tp ns (.loop c) n0 s Q :=
  AWp.loop l m μ i0 h0 fun i => round i ⟨fun _ s' => ∃ j σ, Fits n (l j) (m j) σ s' ∧ μ j < μ i, fun _ _ h => h⟩
theorem acallK {T : Tab} (hT : TabOk P T) {f : FuncId} {fn : Func} {c : Code} (hf : P.funcs[f]? = some fn) (hn : (fn.name == "runtime.NumGoroutine") = false) (hb : fn.body = some c) {args : List Dat} {r : Dat} (hl : args.length ≤ fn.ntmps) (hr : resOk fn.results.toList fn.ntmps = true)
    (h : ∀ q : RR T fn.results.toList r, AWp P false fn.ntmps c 0 ⟨startS args, fun _ => none⟩ q.R) : ACall P f args r :=
  acall_of hT hf hn hb args r hl hr (h ⟨fun e _ s => (e = .normal ∨ e = .ret) ∧ Returns T fn.results.toList s r, fun _ _ _ h1 h2 => ⟨h1, h2⟩⟩)
@[simp] theorem setSlot_app (f : Nat → SV) (d : Nat) (x : SV) (t : Nat) : setSlot f (some d) x t = if t = d then x else f t := rfl
@[simp] theorem setSlot_none (f : Nat → SV) (x : SV) : setSlot f none x = f := rfl
@[simp] theorem setMem_app (f : Nat → Option Blk) (d : Nat) (x : Option Blk) (t : Nat) : setMem f d x t = if t = d then x else f t := rfl
@[simp] theorem mkSlots_nil (t : Nat) : mkSlots [] t = .und := rfl
@[simp] theorem mkSlots_cons (k : Nat) (x : SV) (l : List (Nat × SV)) (t : Nat) : mkSlots ((k, x) :: l) t = if t = k then x else mkSlots l t := rfl
@[simp] theorem mkMem_nil (t : Nat) : mkMem [] t = none := rfl
@[simp] theorem mkMem_cons (k : Nat) (x : Blk) (l : List (Nat × Blk)) (t : Nat) : mkMem ((k, x) :: l) t = if t = k then some x else mkMem l t := rfl
@[simp] theorem startS_app (l : List Dat) (t : Nat) : startS l t = match l[t]? with | some d => .d d | none => .und := rfl
theorem z0 {α : Type} (a : α) (l : List α) : (a :: l)[0]? = some a := List.getElem?_cons_zero
theorem z1 {α : Type} (a : α) (l : List α) (i : Nat) : (a :: l)[i + 1]? = l[i]? := List.getElem?_cons_succ
theorem z2 {α : Type} (i : Nat) : ([] : List α)[i]? = none := List.getElem?_nil
@[simp] theorem mkMem_app (a b : List (Nat × Blk)) (k : Nat) : mkMem (a ++ b) k = match mkMem a k with | some x => some x | none => mkMem b k := by
  induction a with
  | nil => rfl
  | cons p a ih =>
    obtain ⟨t, x⟩ := p
    simp only [List.cons_append, mkMem]
    split
    · rfl
    · exact ih
theorem wrap64_in {x : Int} (h : -9223372036854775808 ≤ x ∧ x ≤ 9223372036854775807) : IntKind.i64.wrap x = x := by rw [IntKind.wrap_i64]; omega
abbrev iD (n : Int) : Dat := .val (.int .i64 n)
abbrev bD (b : Bool) : Dat := .val (.bool b)
def iRows (l : List Int) : List (List Dat) := l.map fun n => [iD n]
abbrev intL (l : List Int) : Dat := .list (iRows l)
@[simp] theorem iRows_nil : iRows [] = [] := rfl
@[simp] theorem iRows_app (l m : List Int) : iRows (l ++ m) = iRows l ++ iRows m := List.map_append
@[simp] theorem iRows_one (n : Int) : iRows [n] = [[iD n]] := rfl
@[simp] theorem iRows_len (l : List Int) : (iRows l).length = l.length := List.length_map _
@[simp] theorem iRows_get (l : List Int) (i : Nat) : (iRows l)[i]? = (l[i]?).map fun n => [iD n] := List.getElem?_map
@[simp] theorem iRows_mem (l : List Int) (p : List Dat → Prop) : (∀ r ∈ iRows l, p r) ↔ ∀ n ∈ l, p [iD n] := by simp [iRows]
@[simp] theorem iRows_set (l : List Int) (i : Nat) (n : Int) : (iRows l).set i [iD n] = iRows (l.set i n) := by simp [iRows, List.map_set]
@[simp] theorem ren_und (n : Nat) (σ : Nat → Nat) : renS n σ .und = none := rfl
@[simp] theorem ren_d (n : Nat) (σ : Nat → Nat) (x : Dat) : renS n σ (.d x) = some (.d x) := rfl
@[simp] theorem ren_nilS (n : Nat) (σ : Nat → Nat) : renS n σ .nilS = some .nilS := rfl
@[simp] theorem ren_own (n : Nat) (σ : Nat → Nat) (i k z : Nat) : renS n σ (.own i k z) = if i < n then some (.own (σ i) k z) else none := rfl
@[simp] theorem ren_lin (n : Nat) (σ : Nat → Nat) (i k : Nat) : renS n σ (.lin i k) = if i < n then some (.lin (σ i) k) else none := rfl
@[simp] theorem ren_ptr (n : Nat) (σ : Nat → Nat) (i r j : Nat) : renS n σ (.ptr i r j) = if i < n then some (.ptr (σ i) r j) else none := rfl
@[simp] theorem ren_rptr (n : Nat) (σ : Nat → Nat) (x : List Dat) : renS n σ (.rptr x) = some (.rptr x) := rfl
@[simp] theorem ren_agg (n : Nat) (σ : Nat → Nat) (x : List SV) : renS n σ (.agg x) = match renCs n σ x with | some l => some (.agg l) | none => none := rfl
section
variable {T : Tab} {ops : Array Oper} {nid : Nat} {o : Oper} {l : List Oper} {s : St} {Q : St → Prop}
theorem step_plain {ns : Nat} {out : Out} {o : Op} (hw : waits o = false) : Step P T ns nid s o out ↔ aop T s.mem nid (opd ns s) o = some out := by
  unfold Step
  rw [waits_fnOf hw]
  exact ⟨fun h => h.elim id fun h => (by rw [stepR_waits h] at hw; cases hw), .inl⟩
@[simp] theorem Exec0_nil : Exec0 P tp T ops ns nid [] s Q = Q s := rfl
def ExecC (P : Program) (tp : Bool) (T : Tab) (ops : Array Oper) (ns : Nat) (nid : Nat) (l : List Oper) (s : St) (Q : St → Prop) : Prop := Exec0 P tp T ops ns nid l s Q
@[simp] theorem Exec0_cons : Exec0 P tp T ops ns nid (o :: l) s Q = match guardS ops ns s o, waits o.op with
    | some true, false => match aop T s.mem nid (opd ns s) o.op with
      | some out => Exec0 P tp T ops ns (nid + 1) l (putS s nid o.dst out) Q
      | none => False
    | some false, _ => Exec0 P tp T ops ns (nid + 1) l { s with slots := setSlot s.slots o.dst (.tup []) } Q
    | _, _ => ExecC P tp T ops ns nid (o :: l) s Q := by
  split
  · rename_i hg hf
    simp only [Exec0, hg, step_plain hf, hf]
    cases aop T s.mem nid (opd ns s) o.op <;> simp
  · rename_i hg; simp only [Exec0, hg]
  · rfl
theorem Exec0.call {f : FuncId} {args : List Operand} {ds : List Dat} {r : Dat} (is : List Nat) (h3 : ACall P f ds r) (hg : guardS ops ns s o = some true) (hf : fnOf o.op = some (f, args)) (h12 : (evList (opd ns s) args).bind (escAll s.mem) = some (ds, is))
    (h : Exec0 P tp T ops ns (nid + 1) l (putS s nid o.dst { res := .d r, frz := is }) Q) : ExecC P tp T ops ns nid (o :: l) s Q := by
  show Exec0 P tp T ops ns nid (o :: l) s Q
  simp only [Exec0, hg]
  rw [Option.bind_eq_some_iff] at h12
  obtain ⟨svs, h1, h2⟩ := h12
  refine .inl ⟨_, ?_, h⟩
  refine .inl ?_
  rw [hf]
  exact ⟨svs, ds, is, r, h1, h2, h3, rfl⟩
variable {log : List Foot} {Q2 : St → List Foot → Prop}
@[simp] theorem Exec_nil : Exec P T ops ns nid [] s log Q2 = Q2 s log := rfl
def ExecD (P : Program) (T : Tab) (ops : Array Oper) (ns : Nat) (nid : Nat) (l : List Oper) (s : St) (log : List Foot) (Q : St → List Foot → Prop) : Prop := Exec P T ops ns nid l s log Q
@[simp] theorem Exec_cons : Exec P T ops ns nid (o :: l) s log Q2 = match guardS ops ns s o, waits o.op with
    | some true, false => match aop T s.mem nid (opd ns s) o.op with
      | some out => Exec P T ops ns (nid + 1) l (putS s nid o.dst out) (log ++ [footOf ops nid s o (some out)]) Q2
      | none => False
    | some false, _ => Exec P T ops ns (nid + 1) l { s with slots := setSlot s.slots o.dst (.tup []) } (log ++ [footOf ops nid s o none]) Q2
    | _, _ => ExecD P T ops ns nid (o :: l) s log Q2 := by
  split
  · rename_i hg hf
    simp only [Exec, hg, step_plain hf]
    cases aop T s.mem nid (opd ns s) o.op <;> simp
  · rename_i hg; simp only [Exec, hg]
  · rfl
end
theorem maxLen_small {n : Nat} (h : n ≤ 1000000) : n ≤ maxLen := by simp only [maxLen]; omega
attribute [simp] footOf guardSlot idsRead looks slotsOf idsOf idsOf1 idsWritten Op.operands Call.operands
@[simp] theorem len_list (rows : List (List Dat)) : lenSV (.d (.list rows)) = some rows.length := rfl
@[simp] theorem len_own (i n z : Nat) : lenSV (.own i n z) = some n := rfl
@[simp] theorem len_nilS : lenSV .nilS = some 0 := rfl
@[simp] theorem len_lin (i n : Nat) : lenSV (.lin i n) = some n := rfl
attribute [simp] ren0 ren0s
attribute [simp] isNilL
attribute [simp] maxLen_small fitsB_small guardS dstOk waits fnOf aop aopR opd putS memApp frzM constSV cSV cD SV.fit SV.cells SV.one Dat.one binSV intBin intsOf fieldOf loadSV indexSV partSV intOp boundOr sliceSV mk mkD
  evParts rowsOf spliceD splice srcRows storeOut appendOut esc1 escL esc frzB placeOf fillSV knownB evList escAll TK.agg CondG thenP blockP mkSt resSlots resSlot resD Returns renCs renC renB
end Go.Proofs.Ytdkneonokbakjaa.Eng

namespace Go.Proofs.Ytdkneonokbakjaa.Eng
open Go.RowKit
variable {P : Program} {T : Tab} {W0 : Fix} {R0 : Nat → Prop} {ns : Nat} {D : Nat → Prop} {s : St} {E : Env} {a : Act} {w : World}
def rev0 (k nid : Nat) (σ : Nat → Nat) : SV → Option SV
  | .d x => some (.d x)
  | .nilS => some .nilS
  | .own i n z => if i = k then some (.own nid n z) else none
  | .rptr cs => some (.rptr cs)
  | .ptr i r j => if i = k then some (.ptr nid r j) else if i < k ∧ r = 0 then some (.ptr (σ i) 0 j) else none
  | _ => none
def rev0s (k nid : Nat) (σ : Nat → Nat) : List SV → Option (List SV)
  | [] => some []
  | c :: l => match rev0 k nid σ c, rev0s k nid σ l with
    | some d, some r => some (d :: r)
    | _, _ => none
def revC (k nid : Nat) (σ : Nat → Nat) : SV → Option SV
  | .d x => some (.d x)
  | .nilS => some .nilS
  | .own i n z => if i = k then some (.own nid n z) else none
  | .rptr cs => some (.rptr cs)
  | .ptr i r j => if i = k then some (.ptr nid r j) else if i < k ∧ r = 0 then some (.ptr (σ i) 0 j) else none
  | .fn f xs ys => match rev0s k nid σ xs, rev0s k nid σ ys with
    | some a, some b => some (.fn f a b)
    | _, _ => none
  | _ => none
def revCs (k nid : Nat) (σ : Nat → Nat) : List SV → Option (List SV)
  | [] => some []
  | c :: l => match revC k nid σ c, revCs k nid σ l with
    | some d, some r => some (d :: r)
    | _, _ => none
def revS (k nid : Nat) (σ : Nat → Nat) : SV → Option SV
  | .agg cs => match revCs k nid σ cs with
    | some l => some (.agg l)
    | none => none
  | .und => some .und
  | x => revC k nid σ x
def revB (k nid : Nat) (σ : Nat → Nat) (new : Bool) : Blk → Option Blk
  | .box t cs f => match revCs k nid σ cs with
    | some l => some (.box t l f)
    | none => none
  | .row t z rows f => if new = true then some (.row t z rows f) else none
  | .loop .. => none
  | .map .. => none
  | .part .. => none
  | .iter .. => none
def renN (k nid : Nat) (σ : Nat → Nat) (i : Nat) : Nat := if i = k then nid else σ i
def revM (k nid : Nat) (σ : Nat → Nat) : List (Nat × Blk) → Option (List (Nat × Blk))
  | [] => some []
  | p :: l => match revB k nid σ (p.1 == k) p.2, revM k nid σ l with
    | some b, some r => some ((renN k nid σ p.1, b) :: r)
    | _, _ => none
def renSs (n : Nat) (σ : Nat → Nat) : List SV → Option (List SV)
  | [] => some []
  | c :: l => match renS n σ c, renSs n σ l with
    | some d, some r => some (d :: r)
    | _, _ => none
end Go.Proofs.Ytdkneonokbakjaa.Eng

namespace Go.Proofs.Ytdkneonokbakjaa.Eng
open Go.RowKit
variable {P : Program}
section
variable {T : Tab} {rs : List ResultVar} {ns k : Nat} {r : SV} {d : Dat} {m' : List (Nat × Blk)} {n : Nat} {s : St}
end
attribute [simp] revC revCs revS revB revM renN rev0 rev0s renSs calleeS Blk.frz
end Go.Proofs.Ytdkneonokbakjaa.Eng

namespace Go.Proofs.Ytdkneonokbakjaa.Eng
abbrev Rgs := Nat → Int × Int
def bearB (A : Rgs) (j : Nat) (x : Int) : Bool := decide ((A j).1 ≤ x ∧ x ≤ (A j).2)
theorem bearB_iff {A : Rgs} {j : Nat} {x : Int} : bearB A j x = true ↔ (A j).1 ≤ x ∧ x ≤ (A j).2 := by simp [bearB]
def pickR (A : Rgs) (x : Int) : Nat → Option Nat
  | 0 => none
  | k + 1 => match pickR A x k with
    | none => if bearB A k x then some k else none
    | some j => if bearB A k x ∧ (A k).1 < (A j).1 then some k else some j
structure Pick (A : Rgs) (x : Int) (n k : Nat) : Prop where
  lt : k < n
  at1 : (A k).1 ≤ x
  at2 : x ≤ (A k).2
  least : ∀ j, j < n → bearB A j x = true → (A k).1 ≤ (A j).1
  first : ∀ j, j < k → bearB A j x = true → (A k).1 < (A j).1
theorem pick_none {A : Rgs} {x : Int} : ∀ {n : Nat}, pickR A x n = none ↔ ∀ j, j < n → bearB A j x = false
  | 0 => by simp [pickR]
  | n + 1 => by
    have ih := pick_none (A := A) (x := x) (n := n)
    rw [pickR]
    cases hp : pickR A x n with
    | none =>
      have h0 := ih.1 hp
      simp only
      constructor
      · intro h j hj
        by_cases e : j = n
        · subst e
          cases hb : bearB A j x with
          | false => rfl
          | true => rw [hb] at h; simp at h
        · exact h0 j (by omega)
      · intro h
        rw [h n (by omega)]
        simp
    | some k =>
      simp only
      constructor
      · intro h
        split at h <;> cases h
      · intro h
        have : pickR A x n = none := ih.2 fun j hj => h j (by omega)
        rw [hp] at this
        cases this
theorem pick_some {A : Rgs} {x : Int} : ∀ {n k : Nat}, pickR A x n = some k → Pick A x n k
  | 0, k, h => by cases h
  | n + 1, k, h => by
    rw [pickR] at h
    cases hp : pickR A x n with
    | none =>
      rw [hp] at h
      simp only at h
      have h0 := pick_none.1 hp
      split at h
      · rename_i hb
        cases h
        have hb' := bearB_iff.1 hb
        refine ⟨by omega, hb'.1, hb'.2, fun j hj hjb => ?_, fun j hj hjb => ?_⟩
        · by_cases e : j = n
          · subst e; omega
          · rw [h0 j (by omega)] at hjb; cases hjb
        · rw [h0 j hj] at hjb; cases hjb
      · cases h
    | some i =>
      rw [hp] at h
      simp only at h
      have p := pick_some hp
      split at h
      · rename_i hb
        cases h
        have hb' := bearB_iff.1 hb.1
        refine ⟨by omega, hb'.1, hb'.2, fun j hj hjb => ?_, fun j hj hjb => ?_⟩
        · by_cases e : j = n
          · subst e; omega
          · have := p.least j (by omega) hjb; omega
        · have := p.least j hj hjb; omega
      · rename_i hb
        cases h
        refine ⟨by have := p.lt; omega, p.at1, p.at2, fun j hj hjb => ?_, p.first⟩
        by_cases e : j = n
        · subst e
          refine Int.not_lt.1 fun hlt => hb ⟨hjb, hlt⟩
        · exact p.least j (by omega) hjb
def runsR (A : Rgs) (n : Nat) (x down : Int) : List (Int × Nat) :=
  if x < down then [] else match h : pickR A x n with
    | none => []
    | some k => (x, k) :: runsR A n ((A k).1 - 1) down
termination_by (x + 1 - down).toNat
decreasing_by
  have := (pick_some h).at1
  omega
def gapR (A : Rgs) (n : Nat) (x down : Int) : Option Int :=
  if x < down then none else match h : pickR A x n with
    | none => some x
    | some k => gapR A n ((A k).1 - 1) down
termination_by (x + 1 - down).toNat
decreasing_by
  have := (pick_some h).at1
  omega
theorem runs_stop {A : Rgs} {n : Nat} {x down : Int} (h : x < down) : runsR A n x down = [] := by rw [runsR, if_pos h]
theorem runs_gap {A : Rgs} {n : Nat} {x down : Int} (hp : pickR A x n = none) : runsR A n x down = [] := by
  rw [runsR]
  split
  · rfl
  · split
    · rfl
    · rename_i k hk
      rw [hp] at hk
      cases hk
theorem runs_step {A : Rgs} {n : Nat} {x down : Int} {k : Nat} (h : ¬ x < down) (hp : pickR A x n = some k) : runsR A n x down = (x, k) :: runsR A n ((A k).1 - 1) down := by
  rw [runsR, if_neg h]
  split
  · rename_i hk
    rw [hp] at hk
    cases hk
  · rename_i j hk
    rw [hp] at hk
    cases hk
    rfl
theorem gap_stop {A : Rgs} {n : Nat} {x down : Int} (h : x < down) : gapR A n x down = none := by rw [gapR, if_pos h]
theorem gap_here {A : Rgs} {n : Nat} {x down : Int} (h : ¬ x < down) (hp : pickR A x n = none) : gapR A n x down = some x := by
  rw [gapR, if_neg h]
  split
  · rfl
  · rename_i k hk
    rw [hp] at hk
    cases hk
theorem gap_step {A : Rgs} {n : Nat} {x down : Int} {k : Nat} (h : ¬ x < down) (hp : pickR A x n = some k) : gapR A n x down = gapR A n ((A k).1 - 1) down := by
  conv => lhs; rw [gapR, if_neg h]
  split
  · rename_i hk
    rw [hp] at hk
    cases hk
  · rename_i j hk
    rw [hp] at hk
    cases hk
    rfl
theorem runs_ind {A : Rgs} {n : Nat} {down : Int} {C : Int → Prop} (h1 : ∀ x, x < down → C x) (h2 : ∀ x, ¬ x < down → pickR A x n = none → C x) (h3 : ∀ x k, ¬ x < down → pickR A x n = some k → C ((A k).1 - 1) → C x) (x : Int) : C x := by
  obtain ⟨f, hf⟩ : ∃ f : Nat, (x + 1 - down).toNat ≤ f := ⟨_, Nat.le_refl _⟩
  induction f generalizing x with
  | zero => exact h1 x (by omega)
  | succ f ih =>
    by_cases h : x < down
    · exact h1 x h
    · cases hp : pickR A x n with
      | none => exact h2 x h hp
      | some k =>
        refine h3 x k h hp (ih _ ?_)
        have := (pick_some hp).at1
        omega
structure IsGap (A : Rgs) (n : Nat) (x down y : Int) : Prop where
  le : y ≤ x
  ge : down ≤ y
  no : ∀ j, j < n → bearB A j y = false
  all : ∀ z, y < z → z ≤ x → ∃ j, j < n ∧ bearB A j z = true
theorem gap_some {A : Rgs} {n : Nat} {down y : Int} {x : Int} : gapR A n x down = some y → IsGap A n x down y := by
  refine runs_ind (A := A) (n := n) (down := down) (C := fun x => gapR A n x down = some y → IsGap A n x down y) ?_ ?_ ?_ x
  · intro x h e
    rw [gap_stop h] at e
    cases e
  · intro x h hp e
    rw [gap_here h hp] at e
    cases e
    exact ⟨Int.le_refl _, by omega, pick_none.1 hp, fun z h1 h2 => by omega⟩
  · intro x k h hp ih e
    rw [gap_step h hp] at e
    have g := ih e
    have p := pick_some hp
    have := g.le
    refine ⟨by have := p.at1; omega, g.ge, g.no, fun z h1 h2 => ?_⟩
    by_cases hz : z ≤ (A k).1 - 1
    · exact g.all z h1 hz
    · exact ⟨k, p.lt, bearB_iff.2 ⟨by omega, by have := p.at2; omega⟩⟩
theorem gap_none {A : Rgs} {n : Nat} {down : Int} {x : Int} : gapR A n x down = none → ∀ z, down ≤ z → z ≤ x → ∃ j, j < n ∧ bearB A j z = true := by
  refine runs_ind (A := A) (n := n) (down := down) (C := fun x => gapR A n x down = none → ∀ z, down ≤ z → z ≤ x → ∃ j, j < n ∧ bearB A j z = true) ?_ ?_ ?_ x
  · intro x h e z h1 h2
    omega
  · intro x h hp e
    rw [gap_here h hp] at e
    cases e
  · intro x k h hp ih e z h1 h2
    rw [gap_step h hp] at e
    have p := pick_some hp
    by_cases hz : z ≤ (A k).1 - 1
    · exact ih e z h1 hz
    · exact ⟨k, p.lt, bearB_iff.2 ⟨by omega, by have := p.at2; omega⟩⟩
theorem gap_eq {A : Rgs} {n : Nat} {x down y : Int} (h : IsGap A n x down y) : gapR A n x down = some y := by
  cases hg : gapR A n x down with
  | none =>
    obtain ⟨j, hj, hb⟩ := gap_none hg y h.ge h.le
    rw [h.no j hj] at hb
    cases hb
  | some z =>
    have g := gap_some hg
    refine congrArg some ?_
    rcases Int.lt_trichotomy z y with h1 | h1 | h1
    · obtain ⟨j, hj, hb⟩ := g.all y h1 h.le
      rw [h.no j hj] at hb
      cases hb
    · exact h1
    · obtain ⟨j, hj, hb⟩ := h.all z h1 g.le
      rw [g.no j hj] at hb
      cases hb
theorem gap_all {A : Rgs} {n : Nat} {x down : Int} (h : ∀ z, down ≤ z → z ≤ x → ∃ j, j < n ∧ bearB A j z = true) : gapR A n x down = none := by
  cases hg : gapR A n x down with
  | none => rfl
  | some y =>
    have g := gap_some hg
    obtain ⟨j, hj, hb⟩ := h y g.ge g.le
    rw [g.no j hj] at hb
    cases hb
end Go.Proofs.Ytdkneonokbakjaa.Eng

noncomputable section
namespace Go.Proofs.Ytdkneonokbakjaa.Eng
structure RS where
  long : Int
  short : Int
  off : Int
  lo : Int
  hi : Int
def inZn (n lo hi : Int) : Bool := decide (lo ≤ n ∧ n ≤ hi)
def fromZn (lo hi : Int) (l : List Int) : Bool := l.all fun x => inZn x lo hi
def okR (s : RS) : Bool := (fromZn 1 100000 [s.short, s.long] && decide (s.short ≤ s.long)) && (fromZn 0 (s.short - 1) [s.off] && (fromZn 0 1000000000 [s.lo, s.hi] && decide (s.lo ≤ s.hi)))
structure GoodR (s : RS) : Prop where
  s1 : 1 ≤ s.short
  s2 : s.short ≤ s.long
  s3 : s.long ≤ 100000
  o1 : 0 ≤ s.off
  o2 : s.off < s.short
  l1 : 0 ≤ s.lo
  l2 : s.lo ≤ s.hi
  l3 : s.hi ≤ 1000000000
theorem okR_iff {s : RS} : okR s = true ↔ GoodR s := by
  simp only [okR, fromZn, inZn, List.all_cons, List.all_nil, Bool.and_true, Bool.and_eq_true, decide_eq_true_eq]
  constructor
  · rintro ⟨⟨⟨⟨a1, a2⟩, a3, a4⟩, a5⟩, ⟨a6, a7⟩, ⟨⟨a8, a9⟩, a10, a11⟩, a12⟩
    exact ⟨a1, a5, a4, a6, by omega, a8, a12, a11⟩
  · intro h
    have := h.s1; have := h.s2; have := h.s3; have := h.o1; have := h.o2; have := h.l1; have := h.l2; have := h.l3
    omega
def stoE (s : RS) (ps : List Int) : Int := if ps.length < 1 ∨ 12 < ps.length then 6 else if okR s then (if fromZn 1 10000 ps then 0 else 3) else 2
structure StoOk (s : RS) (ps : List Int) : Prop where
  g : GoodR s
  n1 : 1 ≤ ps.length
  n2 : ps.length ≤ 12
  p : fromZn 1 10000 ps = true
theorem stoE_ok {s : RS} {ps : List Int} : stoE s ps = 0 ↔ StoOk s ps := by
  unfold stoE
  constructor
  · intro h
    split at h
    · cases h
    · split at h
      · rename_i h1
        split at h
        · rename_i h2
          exact ⟨okR_iff.1 h1, by omega, by omega, h2⟩
        · cases h
      · cases h
  · intro h
    have := h.n1; have := h.n2
    rw [if_neg (by omega), if_pos (okR_iff.2 h.g), if_pos h.p]
theorem StoOk.turn {s : RS} {ps : List Int} (h : StoOk s ps) {k : Nat} {t : Int} (ht : ps[k]? = some t) : 1 ≤ t ∧ t ≤ 10000 := by
  have := List.all_eq_true.1 h.p t (List.mem_of_getElem? ht)
  simpa [inZn] using this
def betR (s : RS) (t : Int) : Int × Int := (max s.short ((s.lo + t - 1) / t + s.off), min s.long (s.hi / t - s.off))
def okAt (s : RS) (t x : Int) : Bool := decide (s.lo ≤ (x - s.off) * t ∧ (x + s.off) * t ≤ s.hi)
theorem low_iff {lo t y : Int} (ht : 1 ≤ t) : (lo + t - 1) / t ≤ y ↔ lo ≤ y * t := by
  have h : (lo + t - 1) / t < y + 1 ↔ lo + t - 1 < (y + 1) * t := Int.ediv_lt_iff_lt_mul (by omega)
  rw [Int.add_mul, Int.one_mul] at h
  generalize (lo + t - 1) / t = q at *
  generalize y * t = p at *
  omega
theorem high_iff {hi t y : Int} (ht : 1 ≤ t) : y ≤ hi / t ↔ y * t ≤ hi := Int.le_ediv_iff_mul_le (by omega)
theorem bet_iff {s : RS} {t x : Int} (ht : 1 ≤ t) (h1 : s.short ≤ x) (h2 : x ≤ s.long) : ((betR s t).1 ≤ x ∧ x ≤ (betR s t).2) ↔ okAt s t x = true := by
  have a := low_iff (lo := s.lo) (y := x - s.off) ht
  have b := high_iff (hi := s.hi) (y := x + s.off) ht
  simp only [okAt, betR, decide_eq_true_eq, ← a, ← b]
  generalize (s.lo + t - 1) / t = p at *
  generalize s.hi / t = q at *
  omega
def spR (s : RS) (t : Int) : Int × Int := if (betR s t).2 < (betR s t).1 then (0, 0) else betR s t
def allR (s : RS) (ps : List Int) (meant : Nat → Bool) : Rgs := fun j => match ps[j]? with
  | some t => if meant j then spR s t else (0, 0)
  | none => (0, 0)
def betA (s : RS) (ps : List Int) : Rgs := fun j => match ps[j]? with
  | some t => betR s t
  | none => (1, 0)
theorem bear_bet {s : RS} {ps : List Int} (h : StoOk s ps) {j : Nat} {x : Int} (hx : s.short ≤ x) : bearB (allR s ps fun _ => true) j x = bearB (betA s ps) j x := by
  have hs := h.g.s1
  unfold bearB allR betA spR
  cases hj : ps[j]? with
  | none =>
    rw [decide_eq_decide]
    simp only
    omega
  | some t =>
    simp only [if_true]
    by_cases hl : (betR s t).2 < (betR s t).1
    · rw [if_pos hl]
      rw [decide_eq_decide]
      simp only
      omega
    · rw [if_neg hl]
theorem bear_val {s : RS} {ps : List Int} (h : StoOk s ps) {j : Nat} {x : Int} (hx : s.short ≤ x) (hb : bearB (allR s ps fun _ => true) j x = true) : allR s ps (fun _ => true) j = betA s ps j := by
  have hs := h.g.s1
  unfold bearB allR at hb
  unfold allR betA
  cases hj : ps[j]? with
  | none =>
    rw [hj] at hb
    simp at hb
    omega
  | some t =>
    rw [hj] at hb
    simp only [if_true, spR] at hb ⊢
    by_cases hl : (betR s t).2 < (betR s t).1
    · rw [if_pos hl] at hb
      simp at hb
      omega
    · rw [if_neg hl]
theorem pick_bet {s : RS} {ps : List Int} (h : StoOk s ps) {x : Int} (hx : s.short ≤ x) : ∀ n, pickR (allR s ps fun _ => true) x n = pickR (betA s ps) x n
  | 0 => rfl
  | n + 1 => by
    have ih := pick_bet h hx n
    rw [pickR, pickR, ih, bear_bet h hx]
    cases hp : pickR (betA s ps) x n with
    | none => rfl
    | some j =>
      simp only
      have pj := pick_some hp
      have ej := bear_val h hx (j := j) (by rw [bear_bet h hx]; exact bearB_iff.2 ⟨pj.at1, pj.at2⟩)
      rw [ej]
      by_cases hb : bearB (betA s ps) n x = true
      · rw [bear_val h hx (j := n) (by rw [bear_bet h hx]; exact hb)]
      · simp [hb]
theorem bet_ge {s : RS} {ps : List Int} {j : Nat} {x : Int} (hb : bearB (betA s ps) j x = true) : s.short ≤ (betA s ps j).1 ∧ (betA s ps j).2 ≤ s.long := by
  unfold bearB betA at hb
  unfold betA
  cases hj : ps[j]? with
  | none => rw [hj] at hb; simp at hb; omega
  | some t => simp only [betR]; omega
theorem runs_bet {s : RS} {ps : List Int} (h : StoOk s ps) {n : Nat} {down : Int} (hd : s.short ≤ down) (x : Int) : runsR (allR s ps fun _ => true) n x down = runsR (betA s ps) n x down ∧ gapR (allR s ps fun _ => true) n x down = gapR (betA s ps) n x down := by
  refine runs_ind (A := betA s ps) (n := n) (down := down) (C := fun x => runsR (allR s ps fun _ => true) n x down = runsR (betA s ps) n x down ∧ gapR (allR s ps fun _ => true) n x down = gapR (betA s ps) n x down) ?_ ?_ ?_ x
  · intro x hx
    rw [runs_stop hx, runs_stop hx, gap_stop hx, gap_stop hx]
    exact ⟨rfl, rfl⟩
  · intro x hx hp
    have hp' := (pick_bet h (x := x) (by omega) n).trans hp
    rw [runs_gap hp, runs_gap hp', gap_here hx hp, gap_here hx hp']
    exact ⟨rfl, rfl⟩
  · intro x k hx hp ih
    have hp' := (pick_bet h (x := x) (by omega) n).trans hp
    have pk := pick_some hp
    have ek := bear_val h (x := x) (by omega) (j := k) (by rw [bear_bet h (by omega)]; exact bearB_iff.2 ⟨pk.at1, pk.at2⟩)
    rw [runs_step hx hp, runs_step hx hp', gap_step hx hp, gap_step hx hp', ek, ih.1, ih.2]
    exact ⟨rfl, rfl⟩
end Go.Proofs.Ytdkneonokbakjaa.Eng

namespace Go.Proofs.Ytdkneonokbakjaa.Eng
open Go.RowKit
variable {P : Program} {T : Tab}
def fen : Option Nat → Fence
  | none => Fence.wide
  | some l => Fence.wide.inRound l
theorem fen_round (r : Option Nat) : (fen r).round = r := by cases r <;> rfl
theorem fen_fn (r : Option Nat) (f : FuncId) : (fen r).fn f := by cases r <;> trivial
theorem fen_depth (r : Option Nat) : (fen r).depth = none := by cases r <;> rfl
theorem fen_fenced (r : Option Nat) : Machine.fenced P (fen r) = Machine.fenced P Fence.wide := by cases r <;> rfl
theorem callsIn_fen {r : Option Nat} {n : Nat} {f : FuncId} {args : Array Value} {w : World} {R : Ending → World → Prop} (h : Calls P f args w R) : CallsIn (fen r) n P f args w R := by
  cases r with
  | none => exact callsIn_wide.2 h
  | some l => exact (callsIn_wide.2 h : CallsIn Fence.wide n P f args w R)
theorem rowsIn_fen {r : Option Nat} {n : Nat} {row : String} {args : Array Value} {w : World} {R : Value → World → Prop} (h : Rows P row args w R) : RowsIn (fen r) n P row args w R := fun c cs _ => by
  obtain ⟨v, w', h1, h2⟩ := h c cs
  exact ⟨v, w', h1, by rw [fen_fenced]; exact stepsIn_wide.2 h2⟩
theorem oper_in {r : Option Nat} {o : Oper} {a : Act} {w : World} {K : Act → World → Prop} {Q : Exit → Act → World → Prop} (hd : ∀ c, o.op ≠ .defer c) (h : o.wp P a w K Q) : o.wpIn (fen r) 0 P a w K Q := by
  refine ⟨fun f _ => fen_fn r f, ?_⟩
  have hn : (fen r).depth.isSome = true → 1 ≤ 0 := fun h => by rw [fen_depth] at h; cases h
  rw [fen_round, Oper.semAt_eq _ _ _ hd]
  unfold Oper.wp at h
  generalize (execOp a.eval o).run P w = res at h ⊢
  cases res with
  | ok x w' =>
    cases x <;> simp only [Oper.upon, Oper.uponIn] at h ⊢ <;> first
      | exact h
      | exact h.elim
      | exact ⟨hn, callsIn_fen h⟩
      | exact ⟨hn, rowsIn_fen h⟩
  | halt x w' => cases x <;> first | exact h | exact h.elim
def noDefer (l : List Oper) : Bool := l.all fun o => match o.op with
  | .defer _ => false
  | _ => true
theorem noDefer_spec {l : List Oper} (h : noDefer l = true) {o : Oper} (ho : o ∈ l) : ∀ c, o.op ≠ .defer c := fun c e => by
  have := List.all_eq_true.1 h o ho
  rw [e] at this
  cases this
def onN (R : Act → World → Prop) (e : Exit) (a : Act) (w : World) : Prop := e = .normal ∧ R a w
theorem onN_out {R : Act → World → Prop} : ¬ LetsOut (onN R) := fun ⟨_, _, h, _⟩ => by cases h
theorem ops_in {r : Option Nat} {ops : Array Oper} {R : Act → World → Prop} (hd : ∀ o ∈ ops.toList, ∀ c, o.op ≠ .defer c) : ∀ (l : List Nat) (a : Act) (w : World), wpOps P ops (onN R) l a w → wpOpsIn (fen r) 0 P ops (onN R) l a w
  | [], _, _, h => h
  | i :: l, a, w, h => by
    simp only [wpOps] at h
    simp only [wpOpsIn]
    cases ho : ops[i]? with
    | none => simp only [ho] at h ⊢; exact ops_in hd l _ _ h
    | some o =>
      simp only [ho] at h ⊢
      split at h
      · rename_i hw
        rw [if_pos hw]
        rcases h with h | ⟨_, h⟩
        · exact oper_in (hd o (by simpa using Array.mem_of_getElem? ho)) (Oper.wp_mono (fun a w h => ops_in hd l a w h) h)
        · exact absurd h onN_out
      · rename_i hw
        rw [if_neg hw]
        exact ⟨fun f _ => fen_fn r f, ops_in hd l _ _ h⟩
theorem onN_le {R : Act → World → Prop} {Q : Exit → Act → World → Prop} (h : ∀ a w, R a w → Q .normal a w) : ∀ e a w, onN R e a w → Q e a w := fun _ a w ⟨e, hr⟩ => e ▸ h a w hr
structure Ext (W0 W1 : Fix) : Prop where
  U : ∀ b, W0.U b → W1.U b
  kept : Kept W0.U W0.w W1.w
  e0 : W1.e0 = W0.e0
  g : W1.g = W0.g
  re : ∀ b, W0.e0.ro b → W1.w.heap[b]? = W0.w.heap[b]?
theorem Ext.refl (W0 : Fix) : Ext W0 W0 := ⟨fun _ h => h, Kept.refl _ _, rfl, rfl, fun _ _ => rfl⟩
theorem Ext.trans {W0 W1 W2 : Fix} (h : Ext W0 W1) (k : Ext W1 W2) : Ext W0 W2 := ⟨fun b hb => k.U b (h.U b hb), h.kept.trans (k.kept.mono h.U), k.e0.trans h.e0, k.g.trans h.g, fun b hb => (k.re b (by rw [h.e0]; exact hb)).trans (h.re b hb)⟩
def markOf (b : Nat) : Deferred := { target := .collected b, args := #[] }
def rOf (W0 : Fix) (r : Option Nat) : Option Nat := r.map fun id => (W0.e0.home id).blk
structure InAct (r : Option Nat) (W0 : Fix) (R0 : Nat → Prop) (B : Nat) : Prop where
  rd : ∀ id, r = some id → W0.e0.dom id
  marks : ∃ bs : List Nat, W0.ds = bs.map markOf ∧ bs.Nodup ∧ ∀ b ∈ bs, W0.U b ∧ B ≤ b ∧ W0.w.heap[b]? = some (.deferred (some []))
  low : ∀ b, R0 b → b < B
  le : B ≤ W0.w.heap.size
theorem Ext.rOf {W0 W1 : Fix} (h : Ext W0 W1) (r : Option Nat) : rOf W1 r = rOf W0 r := by unfold Eng.rOf; rw [h.e0]
def AWi (P : Program) (r : Option Nat) (ns : Nat) (c : Code) (n : Nat) (s : St) (Q : Post) : Prop :=
  ∀ (W0 : Fix) (R0 : Nat → Prop) (B : Nat) (E : Env) (a : Act) (w : World), InAct r W0 R0 B → Sim W0 R0 ns (· < n) s E a w →
    c.wpIn (fen (rOf W0 r)) 0 P (fun e a' w' => ∃ n' s' E' W1, Ext W0 W1 ∧ InAct r W1 R0 B ∧ Sim W1 R0 ns (· < n') s' E' a' w' ∧ Q e n' s') a w
section
variable {r : Option Nat} {ns n : Nat} {s : St} {Q : Post}
theorem AWi.mono {c : Code} {Q' : Post} (h : AWi P r ns c n s Q) (hq : ∀ e n s, Q e n s → Q' e n s) : AWi P r ns c n s Q' :=
  fun W0 R0 B E a w hi hs => wpIn_mono (h W0 R0 B E a w hi hs) fun _ _ _ ⟨n', s', E', W1, x, i, h1, h2⟩ => ⟨n', s', E', W1, x, i, h1, hq _ _ _ h2⟩
theorem AWi.seq {x y : Code} (h : AWi P r ns x n s (thenP (fun n s => AWi P r ns y n s Q) Q)) : AWi P r ns (.seq x y) n s Q := fun W0 R0 B E a w hi hs => by
  refine wpIn_seq (wpIn_mono (h W0 R0 B E a w hi hs) ?_)
  rintro e a' w' ⟨n', s', E', W1, x1, i1, h1, h2⟩
  cases e with
  | normal =>
    have h5 := h2 W1 R0 B E' a' w' i1 h1
    rw [x1.rOf] at h5
    exact wpIn_mono h5 fun _ _ _ ⟨n2, s2, E2, W2, x2, i2, h3, h4⟩ => ⟨n2, s2, E2, W2, x1.trans x2, i2, h3, h4⟩
  | _ => exact ⟨n', s', E', W1, x1, i1, h1, h2⟩
theorem AWi.skip (h : Q .normal n s) : AWi P r ns .skip n s Q := fun W0 _ _ E _ _ hi hs => wpIn_skip ⟨n, s, E, W0, Ext.refl _, hi, hs, h⟩
theorem AWi.label {l : Nat} (h : Q .normal n s) : AWi P r ns (.label l) n s Q := fun W0 _ _ E _ _ hi hs => wpIn_label ⟨n, s, E, W0, Ext.refl _, hi, hs, h⟩
theorem AWi.exit {id : Nat} (h : Q (.exit id) n s) : AWi P r ns (.exit id) n s Q := fun W0 _ _ E _ _ hi hs => wpIn_exit ⟨n, s, E, W0, Ext.refl _, hi, hs, h⟩
theorem AWi.goto {l : Nat} (h : Q (.goto l) n s) : AWi P r ns (.goto l) n s Q := fun W0 _ _ E _ _ hi hs => wpIn_goto ⟨n, s, E, W0, Ext.refl _, hi, hs, h⟩
theorem AWi.ret (h : Q .ret n s) : AWi P r ns .ret n s Q := fun W0 _ _ E _ _ hi hs => wpIn_ret ⟨n, s, E, W0, Ext.refl _, hi, hs, h⟩
theorem AWi.block {id : Nat} {c : Code} (h : AWi P r ns c n s (blockP id Q)) : AWi P r ns (.block id c) n s Q := fun W0 R0 B E a w hi hs => by
  refine wpIn_block (wpIn_mono (h W0 R0 B E a w hi hs) ?_)
  rintro e a' w' ⟨n', s', E', W1, x1, i1, h1, h2⟩
  cases e with
  | exit id' =>
    simp only [blockP] at h2
    simp only [Exit.inBlock]
    split at h2
    · rename_i e; rw [if_pos e]; exact ⟨n', s', E', W1, x1, i1, h1, h2⟩
    · rename_i e; rw [if_neg e]; exact ⟨n', s', E', W1, x1, i1, h1, h2⟩
  | _ => exact ⟨n', s', E', W1, x1, i1, h1, h2⟩
theorem AWi.cond {c : Operand} {x y : Code} {t : Bool} (hc : opd ns s c = some (.d (.val (.bool t)))) (h1 : t = true → AWi P r ns x n s Q) (h2 : t = false → AWi P r ns y n s Q) : AWi P r ns (.cond c x y) n s Q :=
  fun W0 R0 B E a w hi hs => wpIn_cond_split (rep_bool (hs.opd hc)) (fun h => h1 h W0 R0 B E a w hi hs) (fun h => h2 h W0 R0 B E a w hi hs)
theorem AWi.loop {ι : Type} {c : Code} (I : ι → Nat → St → Prop) (μ : ι → Nat) (i0 : ι) (h0 : I i0 n s) (round : ∀ i n s, I i n s → AWi P r ns c n s (thenP (fun n' s' => ∃ j, I j n' s' ∧ μ j < μ i) Q)) : AWi P r ns (.loop c) n s Q := fun W0 R0 B E a w hi hs => by
  refine wpIn_loop_ghost (fun k a w => ∃ i n s E W1, μ i = k ∧ I i n s ∧ Ext W0 W1 ∧ InAct r W1 R0 B ∧ Sim W1 R0 ns (· < n) s E a w) (μ i0) ⟨i0, n, s, E, W0, rfl, h0, Ext.refl _, hi, hs⟩ ?_
  rintro k a w ⟨i, n, s, E, W1, rfl, hI, x1, i1, hs⟩
  have h5 := round i n s hI W1 R0 B E a w i1 hs
  rw [x1.rOf] at h5
  refine wpIn_mono h5 ?_
  rintro e a' w' ⟨n', s', E', W2, x2, i2, h1, h2⟩
  cases e with
  | normal =>
    obtain ⟨j, h3, h4⟩ := h2
    exact ⟨μ j, h4, j, n', s', E', W2, rfl, h3, x1.trans x2, i2, h1⟩
  | _ => exact ⟨n', s', E', W2, x1.trans x2, i2, h1, h2⟩
structure CWp (P : Program) (f : FuncId) (args : List SV) (n : Nat) (m : Nat → Option Blk) (Q : SV → Nat → (Nat → Option Blk) → Prop) : Prop where
  callable : Callable P f
  calls : ∀ (W0 : Fix) (R0 : Nat → Prop) (E : Env) (w : World) (vs : Array Value), MS W0 R0 (· < n) m E w → vs.size = args.length → (∀ (i : Nat) x v, args[i]? = some x → vs[i]? = some v → Rep E w x v) →
    Calls P f vs w fun e w' => ∃ v E' n' m' y, e = .returned v ∧ MS W0 R0 (· < n') m' E' w' ∧ E.le E' ∧ (∀ b, E.ro b → w'.heap[b]? = w.heap[b]?) ∧ Rep E' w' y v ∧ Q y n' m'
theorem CWp.mono {f : FuncId} {args : List SV} {m : Nat → Option Blk} {Q1 Q2 : SV → Nat → (Nat → Option Blk) → Prop} (h : CWp P f args n m Q1) (hq : ∀ y n m, Q1 y n m → Q2 y n m) : CWp P f args n m Q2 :=
  ⟨h.callable, fun W0 R0 E w vs h1 h2 h3 => (h.calls W0 R0 E w vs h1 h2 h3).mono fun _ _ ⟨v, E', n', m', y, a, b, c, d, e, f⟩ => ⟨v, E', n', m', y, a, b, c, d, e, hq _ _ _ f⟩⟩
def StepI (P : Program) (r : Option Nat) (ns n : Nat) (s : St) (o : Oper) (G : Nat → St → Prop) : Prop :=
  ∀ (W0 : Fix) (R0 : Nat → Prop) (B : Nat) (E : Env) (a : Act) (w : World), InAct r W0 R0 B → Sim W0 R0 ns (· < n) s E a w → (∀ t, o.dst = some t → t < ns) →
    ∀ (K : Act → World → Prop) (Q : Exit → Act → World → Prop), (∀ n' s' E' a' w', G n' s' → Sim W0 R0 ns (· < n') s' E' a' w' → K a' w') → o.wpIn (fen (rOf W0 r)) 0 P a w K Q
def ExecI (P : Program) (r : Option Nat) (T : Tab) (ops : Array Oper) (ns : Nat) : Nat → List Oper → St → (Nat → St → Prop) → Prop
  | n, [], s, Q => Q n s
  | n, o :: l, s, Q => match guardS ops ns s o with
    | some true => (noDefer [o] = true ∧ ∃ out, Step P T ns n s o.op out ∧ ExecI P r T ops ns (n + 1) l (putS s n o.dst out) Q) ∨
      (waits o.op = true ∧ ∃ G, StepI P r ns n s o G ∧ ∀ n' s', G n' s' → ExecI P r T ops ns n' l s' Q)
    | some false => ExecI P r T ops ns n l { s with slots := setSlot s.slots o.dst (.tup []) } Q
    | none => False
theorem execI_list (hT : TabOk P T) {W0 : Fix} {R0 : Nat → Prop} {B : Nat} (hi : InAct r W0 R0 B) {ops : Array Oper} {Q : Exit → Act → World → Prop} : ∀ (l : List Oper) (n : Nat) {s : St} {E : Env} {a : Act} {w : World} {Q' : Nat → St → Prop}, ExecI P r T ops ns n l s Q' →
    Sim W0 R0 ns (· < n) s E a w → (∀ n' s' E' a' w', Sim W0 R0 ns (· < n') s' E' a' w' → Q' n' s' → Q .normal a' w') → wpListIn (fen (rOf W0 r)) 0 P ops Q l a w
  | [], n, s, E, a, w, Q', h, hs, hQ => hQ n s E a w hs h
  | o :: l, n, s, E, a, w, Q', h, hs, hQ => by
    simp only [ExecI] at h
    refine wpListIn_step fun K hK => ?_
    split at h
    · rename_i hg
      rw [guard_ok hs hg, if_pos rfl]
      rcases h with ⟨hd, out, h1, h2⟩ | ⟨hw, G, h1, h2⟩
      · refine oper_in (noDefer_spec hd List.mem_cons_self) (step_wp hT hs (nid := n) (by omega) (N := n) (fun _ h => h) (guardS_dst hg) h1 fun E' a' w' hs' => hK _ _ ?_)
        exact execI_list hT hi l (n + 1) h2 (hs'.weak fun i hi => by omega) hQ
      · exact h1 W0 R0 B E a w hi hs (guardS_dst hg) K Q fun n' s' E' a' w' hG hs' => hK _ _ (execI_list hT hi l n' (h2 n' s' hG) hs' hQ)
    · rename_i hg
      rw [guard_ok hs hg, if_neg (by simp)]
      exact ⟨fun f _ => fen_fn _ f, hK _ _ (execI_list hT hi l n h (hs.put (guardS_dst hg) rep_no) hQ)⟩
    · exact h.elim
theorem AWi.region (hT : TabOk P T) {id : Nat} {l : List Oper} (h : ExecI P r T l.toArray ns n l s (fun n' s' => Q .normal n' s')) : AWi P r ns (.region id l.toArray false) n s Q :=
  fun W0 _ _ _ _ _ hi hs => wpIn_region_lit (execI_list hT hi l n h hs fun n' s' E' _ _ h1 h2 => ⟨n', s', E', W0, Ext.refl _, hi, h1, h2⟩)
theorem AWi.draws (hT : TabOk P T) (hm : P.follows .mixedOrders = true) {id : Nat} {l : List Oper} (hB : backB l.toArray = true) (hd : noDefer l = true) (h : Exec P T l.toArray ns n l s [] (fun s' log => okLog l log = true ∧ Q .normal (n + l.length) s')) : AWi P r ns (.region id l.toArray true) n s Q := fun W0 R0 B E a w hi hs => by
  have h1 := exec_anyC hT hB h hs (Q := onN fun a' w' => ∃ s' E', Sim W0 R0 ns (· < n + l.length) s' E' a' w' ∧ Q .normal (n + l.length) s') fun s' E' a' w' q1 q2 => ⟨rfl, s', E', q1, q2⟩
  refine wpIn_mono (wpIn_region_draw (Q := onN fun a' w' => ∃ s' E', Sim W0 R0 ns (· < n + l.length) s' E' a' w' ∧ Q .normal (n + l.length) s') fun t => ops_in (fun o ho => noDefer_spec hd (by simpa using ho)) _ _ _ ?_) (onN_le fun a' w' ⟨s', E', q1, q2⟩ => ⟨_, s', E', W0, Ext.refl _, hi, q1, q2⟩)
  simp only [Region.schedule, hm, Bool.true_or, if_true]
  exact wpAny_sound _ t _ a _ h1
end
theorem stepI_call {r : Option Nat} {ns n : Nat} {s : St} {o : Oper} {f : FuncId} {svs : List SV} {Q : SV → Nat → (Nat → Option Blk) → Prop} (h1 : calleeS ns s o.op = some (f, svs)) (h2 : CWp P f svs n s.mem Q) :
    StepI P r ns n s o fun n' s' => ∃ y m', Q y n' m' ∧ s' = { slots := setSlot s.slots o.dst y, mem := m' } := by
  intro W0 R0 B E a w _ h hd K K2 hK
  have hdf : ∀ c, o.op ≠ .defer c := fun c e => by rw [e] at h1; cases h1
  obtain ⟨vs, hex, v1, v2⟩ := calleeS_run h h1 h2.callable
  refine oper_in hdf ?_
  unfold Oper.wp
  rw [hex, Oper.upon_enter]
  refine (h2.calls W0 R0 E w vs h.ms v1 v2).mono ?_
  rintro e w' ⟨v, E', n', m', y, rfl, M, hE, hw, hv, hq⟩
  have h3 := h.back M hE hw
  exact hK n' _ E' _ w' ⟨y, m', hq, rfl⟩ (h3.put hd hv)
def startI (args : List SV) : Nat → SV := fun t => (args[t]?).getD .und
def retV : List SV → SV
  | [x] => x
  | xs => .tup xs
def EndI (T : Tab) (rs : List ResultVar) (Q : SV → Nat → (Nat → Option Blk) → Prop) (n : Nat) (s : St) : Prop := ∃ xs, resSlots T s rs = some xs ∧ Q (retV xs) n s.mem
theorem leavesM {r : Option Nat} {fn : Func} {tmps : Array Value} {R : Ending → World → Prop} : ∀ (bs : List Nat) (w : World), bs.Nodup → (∀ b ∈ bs, w.heap[b]? = some (.deferred (some []))) →
    (∀ w', Kept (fun b => b ∉ bs) w w' → ∃ v, (results fn tmps).run P w' = .ok v w' ∧ R (.returned v) w') → LeavesInM (fen r) 0 P fn tmps R (bs.map markOf) .returning w
  | [], w, _, _, h => h w (Kept.refl _ _)
  | b :: bs, w, hn, hb, h => by
    have hb0 := hb b List.mem_cons_self
    rw [List.nodup_cons] at hn
    refine ⟨by simp, .inl ⟨b, _, rfl, run_takeDeferred hb0, ?_⟩⟩
    have hk : ∀ c, c ≠ b → (w.putObj b (.deferred none)).heap[c]? = w.heap[c]? := fun c hc => by
      simp only [World.putObj]
      rw [Array.getElem?_setIfInBounds_ne (Ne.symm hc)]
    refine leavesM bs _ hn.2 (fun c hc => ?_) fun w' hw' => h w' ?_
    · rw [hk c (fun e => hn.1 (e ▸ hc))]
      exact hb c (List.mem_cons_of_mem _ hc)
    · have h1 : Kept (fun c => c ∉ b :: bs) w (w.putObj b (.deferred none)) := ⟨rfl, rfl, rfl, by simp [World.putObj], fun c hc => hk c fun e => hc (e ▸ List.mem_cons_self)⟩
      exact h1.trans (hw'.mono fun c hc hh => hc (List.mem_cons_of_mem _ hh))
theorem cwp_of (hT : TabOk P T) {f : FuncId} {fn : Func} {c : Code} (hf : P.funcs[f]? = some fn) (hn : (fn.name == "runtime.NumGoroutine") = false) (hb : fn.body = some c) {args : List SV} {n : Nat} {m : Nat → Option Blk} {Q : SV → Nat → (Nat → Option Blk) → Prop} (hl : args.length ≤ fn.ntmps) (hr : resOk fn.results.toList fn.ntmps = true)
    (h : AWi P none fn.ntmps c n ⟨startI args, m⟩ (fun e n' s' => (e = .normal ∨ e = .ret) ∧ EndI T fn.results.toList Q n' s')) : CWp P f args n m Q :=
  ⟨callable_of hf hn (by rw [hb]; rfl), fun W0 R0 E w vs M hsz hrep => by
    refine callsIn_wide.1 (callsIn_of_wp_marks (F := fen none) (n := 0) hf hb trivial ?_ rfl)
    let W1 : Fix := { w := w, U := W0.U, lt := fun b hb => Nat.lt_of_lt_of_le (W0.lt b hb) M.below.size, g := fun _ => undef, ds := [], e0 := E }
    have hi : InAct none W1 R0 w.heap.size := ⟨(fun l h => nomatch h), ⟨[], rfl, List.nodup_nil, by simp⟩, fun b hb => M.rlt b (M.ro0 b hb), Nat.le_refl _⟩
    have hs : Sim W1 R0 fn.ntmps (· < n) ⟨startI args, m⟩ E { tmps := vs ++ Array.replicate (fn.ntmps - vs.size) undef, defers := [] } w := by
      refine ⟨Kept.refl _ _, M.ro0, M.ro1, M.rlt, by simp; omega, rfl, fun t => ?_, M.dom, M.live, M.mem, M.base, M.frz, M.inj, fun i hi => ⟨hi, rfl⟩, fun b hb => ⟨hb, rfl⟩⟩
      simp only [startI]
      cases hd : args[t]? with
      | none => exact .und _
      | some d =>
        have hlt : t < vs.size := by have := (List.getElem?_eq_some_iff.1 hd).1; omega
        have e : (vs ++ Array.replicate (fn.ntmps - vs.size) undef).getD t undef = vs[t] := by simp [Array.getElem?_append, hlt]
        rw [if_pos (by omega), e]
        exact hrep t d _ hd (Array.getElem?_eq_getElem hlt)
    refine wpIn_mono (h W1 R0 w.heap.size E _ w hi hs) ?_
    rintro e a' w' ⟨n', s', E', W2, x2, i2, hs2, he, xs, hxs, hq⟩
    obtain ⟨bs, hbs, hnd, hbb⟩ := i2.marks
    have fin : LeavesInM (fen none) 0 P fn a'.tmps (fun e w' => ∃ v E' n' m' y, e = .returned v ∧ MS W0 R0 (· < n') m' E' w' ∧ E.le E' ∧ (∀ b, E.ro b → w'.heap[b]? = w.heap[b]?) ∧ Rep E' w' y v ∧ Q y n' m') a'.defers .returning w' := by
      rw [hs2.dfr, hbs]
      refine leavesM bs w' hnd (fun b hb => (hs2.below.block b (hbb b hb).1).trans (hbb b hb).2.2) fun w2 hk => ?_
      have hnm : ∀ b, W0.U b → b ∉ bs := fun b hb hh => by have := W1.lt b hb; have := (hbb b hh).2.1; exact absurd (show b < w.heap.size from W1.lt b hb) (by omega)
      have hnr : ∀ b, E'.ro b → b ∉ bs := fun b hb hh => by
        rcases hs2.ro1 b hb with h1 | h1
        · have := i2.low b h1; have := (hbb b hh).2.1; omega
        · exact h1 (hbb b hh).1
      -- back to the blocks that stay for the caller
      let W3 : Fix := { W1 with ds := W2.ds }
      have hs3 : Sim W3 R0 fn.ntmps (· < n') s' E' a' w' := { hs2 with
        below := x2.kept.trans (hs2.below.mono x2.U)
        ro1 := fun b hb => (hs2.ro1 b hb).imp id fun h1 h2 => h1 (x2.U b h2)
        base := fun i b hi h2 => hs2.base i b hi (x2.U _ h2)
        slot := fun t => by
          have := hs2.slot t
          by_cases ht : t < fn.ntmps
          · rw [if_pos ht] at this ⊢; exact this
          · rw [if_neg ht] at this ⊢; rw [x2.g] at this; exact this
        le0 := fun i hi => by have := hs2.le0 i (by rw [x2.e0]; exact hi); rw [x2.e0] at this; exact this
        re0 := fun b hb => by have := hs2.re0 b (by rw [x2.e0]; exact hb); exact ⟨this.1, this.2.trans (x2.re b hb)⟩ }
      have hs4 : Sim W3 R0 fn.ntmps (· < n') s' E' a' w2 := hs3.later (hk.mono hnm) (Env.le.refl E') (fun b hb => hk.block b (hnr b hb)) (fun i b hi => hk.block _ fun hh => hs2.base i b hi (hbb _ hh).1) (fun b hb => .inl hb) hs3.dom
      obtain ⟨vs', r1, r2, r3⟩ := results_run hT hs4 hr hxs
      refine ⟨_, r1, _, E', n', s'.mem, retV xs, rfl, ⟨M.below.trans hs4.below, hs4.ro0, hs4.ro1, hs4.rlt, hs4.dom, hs4.live, hs4.mem, hs4.base, hs4.frz, hs4.inj⟩, ⟨fun b hb => (hs4.re0 b hb).1, fun i hi => (hs4.le0 i hi).1, fun i hi => (hs4.le0 i hi).2⟩, fun b hb => (hs4.re0 b hb).2, ?_, hq⟩
      match xs, vs', r2, r3 with
      | [], [], _, _ => exact .tup _ _ rfl (by simp)
      | [x], [v], _, r3 => exact r3 0 _ _ rfl rfl
      | x :: y :: xs, v :: u :: vs', r2, r3 => exact .tup _ _ (by simpa using r2) fun i c v hc hv => r3 i c v hc (by simpa using hv)
    rcases he with rfl | rfl
    · exact fin
    · exact fin⟩
end Go.Proofs.Ytdkneonokbakjaa.Eng

namespace Go.Proofs.Ytdkneonokbakjaa.Eng
open Go.RowKit
variable {P : Program} {T : Tab}
section
variable {W0 : Fix} {R0 : Nat → Prop} {ns : Nat} {D : Nat → Prop} {s : St} {E : Env} {a : Act} {w : World}
theorem Sim.record (h : Sim W0 R0 ns D s E a w) {id k : Nat} {st : LoopState} {pe : Option Code} {sl : Nat → SV} {ps : Array Tmp} {x y : Code} (hi : s.mem id = some (.loop st pe k sl ps x y false)) :
    ∃ (r : Loop) (g : Nat → Value), w.heap[(E.home id).blk]? = some (.loop r) ∧ r.state = st ∧ r.pending = pe ∧ r.params = ps ∧ r.assign = x ∧ r.body = y ∧ r.tmps.size = k ∧ (∀ t, Rep E w (sl t) (if t < k then r.tmps.getD t undef else g t)) ∧
      ∀ st' pe', Sim W0 R0 ns D { s with mem := setMem s.mem id (some (.loop st' pe' k sl ps x y false)) } E a (w.putObj (E.home id).blk (.loop { r with state := st', pending := pe' })) := by
  cases h.mem id _ hi with
  | loop _ _ _ _ _ _ _ _ r g h1 h2 h3 h4 h5 h6 h7 h8 =>
    refine ⟨r, g, h1, h2, h3, h4, h5, h6, h7, h8, fun st' pe' => ?_⟩
    have hlt : (E.home id).blk < w.heap.size := (Array.getElem?_eq_some_iff.1 h1).1
    have hro : ¬ E.ro (E.home id).blk := fun k => by have := (h.frz id _ hi).2 k; cases this
    refine h.write hi rfl rfl (grownBy_putObj' w _ _) (.loop _ _ _ _ _ _ _ _ { r with state := st', pending := pe' } g (World.putObj_heap_same hlt) rfl rfl h4 h5 h6 h7 fun t => (h8 t).keep (Env.le.refl E) fun b hb => World.putObj_heap_other fun e => hro (e ▸ hb))
end
def putAll (sl : Nat → SV) : List Tmp → List SV → Nat → SV
  | p :: ps, x :: xs => putAll (fun t => if t = p then x else sl t) ps xs
  | _, _ => sl
theorem putAll_rep {E : Env} {w : World} {k : Nat} {g : Nat → Value} : ∀ (ps : List Tmp) (xs : List SV) (vs : List Value) (sl : Nat → SV) (tm : Array Value), xs.length = vs.length → (∀ p ∈ ps, p < k) → tm.size = k → (∀ (i : Nat) x v, xs[i]? = some x → vs[i]? = some v → Rep E w x v) →
    (∀ t, Rep E w (sl t) (if t < k then tm.getD t undef else g t)) →
    ((ps.zip vs).foldl (fun tm (p, v) => tm.setIfInBounds p v) tm).size = k ∧ ∀ t, Rep E w (putAll sl ps xs t) (if t < k then ((ps.zip vs).foldl (fun tm (p, v) => tm.setIfInBounds p v) tm).getD t undef else g t)
  | [], _, _, _, _, _, _, h3, _, h5 => ⟨h3, h5⟩
  | _ :: _, [], [], _, _, _, _, h3, _, h5 => ⟨h3, h5⟩
  | _ :: _, [], _ :: _, _, _, h1, _, _, _, _ => by simp at h1
  | _ :: _, _ :: _, [], _, _, h1, _, _, _, _ => by simp at h1
  | p :: ps, x :: xs, v :: vs, sl, tm, h1, h2, h3, h4, h5 => by
    simp only [List.zip_cons_cons, List.foldl_cons, putAll]
    refine putAll_rep ps xs vs _ _ (by simpa using h1) (fun q hq => h2 q (List.mem_cons_of_mem _ hq)) (by simpa using h3) (fun i y u hy hu => h4 (i + 1) y u (by simpa using hy) (by simpa using hu)) fun t => ?_
    have hp : p < k := h2 p List.mem_cons_self
    by_cases e : t = p
    · subst e
      rw [if_pos rfl, if_pos hp, getD_set_eq tm t v (by rw [h3]; exact hp)]
      exact h4 0 x v rfl rfl
    · rw [if_neg e, getD_set_far tm v (Ne.symm e)]
      exact h5 t
def calleeY (ns : Nat) (s : St) : Op → Option (Nat × List SV)
  | .call c => match c.callee with
    | .value (.tmp t) => match opd ns s (.tmp t), evList (opd ns s) c.args.toList with
      | some (.yield id), some l => some (id, l)
      | _, _ => none
    | _ => none
  | _ => none
def jumpOf : Exit → Option (Option Code)
  | .normal => some none
  | .ret => some (some .ret)
  | .exit id => some (some (.exit id))
  | .goto t => some (some (.goto t))
  | _ => none
theorem roundPost_of {l : Nat} {R : Ending → World → Prop} {e : Exit} {a : Act} {w : World} {j : Option Code} (hj : jumpOf e = some j) (h : ∃ v w', (Instr.endRound l j).run P w = .ok v w' ∧ R (.returned v) w') : roundPost P l R e a w := by
  cases e <;> cases hj <;> exact h
theorem callsY_run {W0 : Fix} {R0 : Nat → Prop} {ns : Nat} {D : Nat → Prop} {s : St} {E : Env} {a : Act} {w : World} (h : Sim W0 R0 ns D s E a w) {o : Oper} {id : Nat} {svs : List SV} (hc : calleeY ns s o.op = some (id, svs)) :
    ∃ vs : Array Value, (execOp a.eval o).run P w = (Instr.yield (E.home id).blk vs).run P w ∧ vs.size = svs.length ∧ ∀ (i : Nat) x v, svs[i]? = some x → vs[i]? = some v → Rep E w x v := by
  unfold calleeY at hc
  split at hc
  · rename_i c ho
    split at hc
    · rename_i t hcal
      split at hc
      · rename_i i l h0 h1
        cases hc
        obtain ⟨p1, p2⟩ := evList_rep (w := w) (E := E) (ev := opd ns s) (ρ := a.eval) (fun x v hx => h.opd hx) h1
        have hr := h.opd h0
        obtain ⟨u, hu⟩ : ∃ u, a.eval (.tmp t) = u := ⟨_, rfl⟩
        rw [hu] at hr
        cases hr
        refine ⟨c.args.map a.eval, ?_, by simpa using p1, fun i x v hx hv => p2 i x v hx (by simpa using hv)⟩
        simp only [execOp, ho, resolve, hcal, hu, Deferred.ofValue, invoke, Sem.run_bind, Sem.run_pure, Result.andThen_ok, Array.empty_append, Array.append_empty]
      · cases hc
    · cases hc
  · cases hc
theorem stepI_yield {r : Option Nat} {ns n : Nat} {s : St} {o : Oper} {id : Nat} {svs : List SV} {G : Nat → St → Prop} (h1 : calleeY ns s o.op = some (id, svs)) {pe : Option Code} {k : Nat} {sl : Nat → SV} {ps : Array Tmp} {x y : Code}
    (h2 : s.mem id = some (.loop .ready pe k sl ps x y false)) (hl : svs.length = ps.size) (hp : ps.toList.all (· < k) = true)
    (h : AWi P (some id) k x n ⟨putAll sl ps.toList svs, s.mem⟩ fun e n1 s1 => e = .normal ∧ ∃ pe1, s1.mem id = some (.loop .ready pe1 k sl ps x y false) ∧
      AWi P (some id) k y n1 { s1 with mem := setMem s1.mem id (some (.loop .busy pe1 k sl ps x y false)) } fun e n2 s2 => ∃ j pe2, jumpOf e = some j ∧ s2.mem id = some (.loop .busy pe2 k sl ps x y false) ∧
        G n2 { slots := setSlot s.slots o.dst (.d (.val (.bool j.isNone))), mem := setMem s2.mem id (some (.loop (if j.isNone then .ready else .done) j k sl ps x y false)) }) :
    StepI P r ns n s o G := by
  intro W0 R0 B E a w hi hs hd K K2 hK
  obtain ⟨vs, hex, v1, v2⟩ := callsY_run (P := P) hs h1
  obtain ⟨rc, g, q1, q2, q3, q4, q5, q6, q7, q8, _⟩ := hs.record h2
  have hdf : ∀ c, o.op ≠ .defer c := fun c e => by rw [e] at h1; cases h1
  have hy := run_yield (P := P) (args := vs) q1 (by rw [v1, hl, q4])
  refine ⟨fun f _ => fen_fn _ f, ?_⟩
  rw [fen_round, Oper.semAt_eq _ _ _ hdf, hex, hy, Oper.uponIn_round]
  refine ⟨fun h => (by rw [fen_depth] at h; cases h), ?_⟩
  have hF : (fen (rOf W0 r)).inRound (E.home id).blk = fen (some (E.home id).blk) := by cases rOf W0 r <;> rfl
  obtain ⟨hts, htr⟩ := putAll_rep (E := E) (w := w) (k := k) (g := g) ps.toList svs vs.toList sl rc.tmps (by simpa using v1.symm) (fun p hp' => by simpa using List.all_eq_true.1 hp p hp') q7 (fun i x v hx hv => v2 i x v hx (by simpa using hv)) q8
  have hfold : (rc.params.zip vs).foldl (fun tmps (t, a) => tmps.setIfInBounds t a) rc.tmps = (ps.toList.zip vs.toList).foldl (fun tm (p, v) => tm.setIfInBounds p v) rc.tmps := by
    rw [← Array.foldl_toList, Array.toList_zip, q4]
  rw [hfold]
  let Wr : Fix := { w := w, U := W0.U, lt := fun b hb => Nat.lt_of_lt_of_le (W0.lt b hb) hs.below.size, g := g, ds := [], e0 := E }
  have hdom : E.dom id := hs.live _ _ h2
  have hir : InAct (some id) Wr R0 w.heap.size := ⟨fun i e => by cases e; exact hdom, ⟨[], rfl, List.nodup_nil, by simp⟩, fun b hb => hs.rlt b (hs.ro0 b hb), Nat.le_refl _⟩
  have hsr : Sim Wr R0 k (· < n) ⟨putAll sl ps.toList svs, s.mem⟩ E { tmps := (ps.toList.zip vs.toList).foldl (fun tm (p, v) => tm.setIfInBounds p v) rc.tmps, defers := [] } w :=
    ⟨Kept.refl _ _, hs.ro0, hs.ro1, hs.rlt, hts, rfl, htr, hs.dom, hs.live, hs.mem, hs.base, hs.frz, hs.inj, fun i hi => ⟨hi, rfl⟩, fun b hb => ⟨hb, rfl⟩⟩
  refine roundIn_of_wpIn (fen_fn _ _) ?_
  rw [hF, q5, q6]
  refine wpIn_mono (h Wr R0 w.heap.size E _ w hir hsr) ?_
  rintro e a1 w1 ⟨n1, s1, E1, W1, x1, i1, hs1, rfl, pe1, h3, h4⟩
  obtain ⟨r1, g1, p1, p2, p3, p4, p5, p6, p7, p8, p9⟩ := hs1.record h3
  have hh1 : (E1.home id).blk = (E.home id).blk := by
    have := (hs1.le0 id (by rw [x1.e0]; exact hdom)).2
    rw [this, x1.e0]
  rw [hh1] at p1 p9
  refine ⟨_, run_beginRound p1 p2, ?_⟩
  have hs1' := p9 .busy pe1
  have e1 : ({ r1 with state := .busy, pending := pe1 } : Loop) = { r1 with state := .busy } := by rw [← p3]
  rw [e1] at hs1'
  have h5 := h4 W1 R0 w.heap.size E1 _ _ i1 hs1'
  have hr5 : fen (rOf W1 (some id)) = fen (some (E.home id).blk) := by rw [x1.rOf]; rfl
  rw [hr5] at h5
  refine wpIn_mono h5 ?_
  rintro e2 a2 w2 ⟨n2, s2, E2, W2, x2, i2, hs2, j, pe2, hj, h6, hG⟩
  obtain ⟨r2, g2, u1, u2, u3, u4, u5, u6, u7, u8, u9⟩ := hs2.record h6
  have x3 := x1.trans x2
  have hh2 : (E2.home id).blk = (E.home id).blk := by
    have := (hs2.le0 id (by rw [x3.e0]; exact hdom)).2
    rw [this, x3.e0]
  rw [hh2] at u1 u9
  refine roundPost_of hj ⟨_, _, run_endRound j u1, ?_⟩
  have hs3 := u9 (if j.isNone then .ready else .done) j
  have hle : E.le E2 := ⟨fun b hb => (hs3.re0 b (by rw [x3.e0]; exact hb)).1, fun i hi => (hs3.le0 i (by rw [x3.e0]; exact hi)).1, fun i hi => by have := (hs3.le0 i (by rw [x3.e0]; exact hi)).2; rw [this, x3.e0]⟩
  have hk : ∀ b, E.ro b → (w2.putObj (E.home id).blk (.loop { r2 with state := if j.isNone then .ready else .done, pending := j })).heap[b]? = w.heap[b]? := fun b hb => (hs3.re0 b (by rw [x3.e0]; exact hb)).2.trans (x3.re b hb)
  have M : MS W0 R0 (· < n2) (setMem s2.mem id (some (.loop (if j.isNone then .ready else .done) j k sl ps x y false))) E2 (w2.putObj (E.home id).blk (.loop { r2 with state := if j.isNone then .ready else .done, pending := j })) :=
    ⟨hs.below.trans (x3.kept.trans (hs3.below.mono x3.U)), hs3.ro0, fun b hb => (hs3.ro1 b hb).imp (fun h => h) fun h1 h2 => h1 (x3.U b h2), hs3.rlt, hs3.dom, hs3.live, hs3.mem, fun i b hi h2 => hs3.base i b hi (x3.U _ h2), hs3.frz, hs3.inj⟩
  exact hK n2 _ E2 _ _ hG ((hs.back M hle hk).put hd (.d _ _ (.val _ rfl)))
theorem ms_dom {W0 : Fix} {R0 : Nat → Prop} {D D' : Nat → Prop} {m : Nat → Option Blk} {E : Env} {w : World} (M : MS W0 R0 D m E w) (h : ∀ i, D i → D' i) : MS W0 R0 D' m E w := { M with dom := fun i hi => h i (M.dom i hi) }
def afterP (Q : Post) (n : Nat) (s : St) : Option Code → Prop
  | none => Q .normal n s
  | some .ret => Q .ret n s
  | some (.exit id) => Q (.exit id) n s
  | some (.goto t) => Q (.goto t) n s
  | _ => False
theorem AWi.rangeFunc {r : Option Nat} {ns n : Nat} {s : St} {Q : Post} {g : Operand} {ps : Array Tmp} {x y : Code} {f : FuncId} {us vs : List SV} (hg : opd ns s g = some (.fn f us vs)) (hr : ∀ id, r = some id → ∃ st pe k sl ps x y z, s.mem id = some (.loop st pe k sl ps x y z))
    (h : CWp P f (us ++ [.yield n] ++ vs) (n + 1) (setMem s.mem n (some (.loop .ready none ns s.slots ps x y false))) fun _ n' m' => ∃ st pe, m' n = some (.loop st pe ns s.slots ps x y false) ∧ st ≠ .busy ∧ afterP Q n' { s with mem := setMem m' n (some (.loop .exhausted pe ns s.slots ps x y false)) } pe) :
    AWi P r ns (.rangeFunc g ps x y) n s Q := by
  intro W0 R0 B E a w hi hs
  refine wpIn_rangeFunc fun fn _ => ?_
  -- the record is laid
  obtain ⟨W1, w1, l, mark, he, x1, i1, hs1, hk1⟩ : ∃ (W1 : Fix) (w1 : World) (l : Nat) (mark : List Deferred), (Instr.enterLoop fn a.tmps ps x y (fen (rOf W0 r)).round).run P w = .ok (l, mark) w1 ∧ Ext W0 W1 ∧ InAct r W1 R0 B ∧
      Sim W1 R0 ns (fun k => k = n ∨ k < n) { s with mem := setMem s.mem n (some (.loop .ready none ns s.slots ps x y false)) } (E.add n ⟨l, 0, 0⟩) { a with defers := mark ++ a.defers } w1 ∧ ∀ b, E.ro b → w1.heap[b]? = w.heap[b]? := by
    rw [fen_round]
    cases r with
    | none =>
      have hk0 : Kept (fun b => b < w.heap.size) w ((w.alloc (.deferred (some []))).alloc (.loop { state := .ready, pending := none, fn, tmps := a.tmps, params := ps, assign := x, body := y, defers := w.heap.size })) := by
        have := ((Below.refl w.heap.size w).alloc (Nat.le_refl _) (.deferred (some []))).alloc (by simp) (.loop { state := .ready, pending := none, fn, tmps := a.tmps, params := ps, assign := x, body := y, defers := w.heap.size })
        exact ⟨this.os, this.tape, this.output, this.size, this.block⟩
      obtain ⟨w1, hw1⟩ : ∃ w1, (w.alloc (.deferred (some []))).alloc (.loop { state := .ready, pending := none, fn, tmps := a.tmps, params := ps, assign := x, body := y, defers := w.heap.size }) = w1 := ⟨_, rfl⟩
      have hsz : w1.heap.size = w.heap.size + 2 := by rw [← hw1]; simp
      have hD : w1.heap[w.heap.size]? = some (.deferred (some [])) := by rw [← hw1]; exact (Below.heap_alloc _ _ _ (by simp)).trans (World.alloc_heap_new w _)
      have hL : w1.heap[w.heap.size + 1]? = some (.loop { state := .ready, pending := none, fn, tmps := a.tmps, params := ps, assign := x, body := y, defers := w.heap.size }) := by
        rw [← hw1]; have := World.alloc_heap_new (w.alloc (.deferred (some []))) (.loop { state := .ready, pending := none, fn, tmps := a.tmps, params := ps, assign := x, body := y, defers := w.heap.size }); rwa [World.size_alloc] at this
      rw [hw1] at hk0
      have hUlt : ∀ b, W0.U b → b < w.heap.size := fun b hb => Nat.lt_of_lt_of_le (W0.lt b hb) hs.below.size
      have hs1 := hs.new (i := n) (by simp) (.loop .ready none ns s.slots ps x y false) ⟨w.heap.size + 1, 0, 0⟩ (hk0.mono hUlt) (fun b hb => hk0.block b (hs.rlt b hb)) (fun k c hk => hk0.block _ (hs.mem k c hk).lt)
        (.loop _ _ _ _ _ _ _ _ _ W0.g hL rfl rfl rfl rfl rfl hs.size fun t => (hs.slot t).keep (E.le_add n _ fun h => by have := hs.dom _ h; omega) fun b hb => hk0.block b (hs.rlt b hb)) (fun hu => absurd (hUlt _ hu) (by simp)) rfl (fun hu => absurd (hs.rlt _ hu) (by simp)) (fun k c hk e => by have := (hs.mem k c hk).lt; simp at e; omega)
      let W1 : Fix := { w := w1, U := fun b => W0.U b ∨ b = w.heap.size, lt := fun b hb => hb.elim (fun hb => by have := hUlt b hb; omega) (fun e => by omega), g := W0.g, ds := markOf w.heap.size :: W0.ds, e0 := W0.e0 }
      have x1 : Ext W0 W1 := ⟨fun b hb => .inl hb, hs.below.trans (hk0.mono hUlt), rfl, rfl, fun b hb => (hk0.block b (hs.rlt b (hs.re0 b hb).1)).trans (hs.re0 b hb).2⟩
      obtain ⟨bs, b1, b2, b3⟩ := hi.marks
      refine ⟨W1, w1, w.heap.size + 1, [markOf w.heap.size], by rw [← hw1]; exact run_enterLoop_outer _ _ _ _ _, x1, ⟨(fun id e => nomatch e), ⟨w.heap.size :: bs, ?_, ?_, ?_⟩, hi.low, ?_⟩, ?_, fun b hb => hk0.block b (hs.rlt b hb)⟩
      · show markOf w.heap.size :: W0.ds = _
        rw [b1]; rfl
      · refine List.nodup_cons.2 ⟨fun hh => ?_, b2⟩
        have := hUlt _ (b3 _ hh).1
        omega
      · intro b hb
        rcases List.mem_cons.1 hb with rfl | hb
        · exact ⟨.inr rfl, Nat.le_trans hi.le hs.below.size, hD⟩
        · exact ⟨.inl (b3 b hb).1, (b3 b hb).2.1, (x1.kept.block b (b3 b hb).1).trans (b3 b hb).2.2⟩
      · have := hi.le; have := hs.below.size; show B ≤ w1.heap.size; omega
      · refine { hs1 with below := Kept.refl _ _, ro1 := fun b hb => ?_, dfr := ?_, base := fun i b hi => ?_, le0 := hs1.le0, re0 := fun b hb => ⟨(hs1.re0 b hb).1, rfl⟩ }
        · rcases hs.ro1 b hb with h1 | h1
          · exact .inl h1
          · exact .inr fun h2 => by
              rcases h2 with h2 | rfl
              · exact h1 h2
              · have := hs.rlt _ hb; omega
        · show [markOf w.heap.size] ++ a.defers = markOf w.heap.size :: W0.ds
          rw [hs.dfr]; rfl
        · intro h2
          rcases h2 with h2 | h2
          · exact hs1.base i b hi h2
          · by_cases e : i = n
            · subst e
              simp [Env.add] at h2
            · have hm : s.mem i = some b := by have := hi; simpa [setMem, e] using this
              have := (hs.mem i b hm).lt
              simp [Env.add, e] at h2
              omega
    | some id =>
      obtain ⟨st, pe, k0, sl0, ps0, x0, y0, z0, hid⟩ := hr id rfl
      obtain ⟨rc, hrc⟩ : ∃ rc, w.heap[(E.home id).blk]? = some (.loop rc) := by
        cases hs.mem id _ hid with
        | loop _ _ _ _ _ _ _ _ rc _ h1 => exact ⟨rc, h1⟩
      have hb : (W0.e0.home id).blk = (E.home id).blk := by rw [(hs.le0 id (hi.rd id rfl)).2]
      obtain ⟨w1, hw1⟩ : ∃ w1, w.alloc (.loop { state := .ready, pending := none, fn, tmps := a.tmps, params := ps, assign := x, body := y, defers := rc.defers }) = w1 := ⟨_, rfl⟩
      have hrun : (Instr.enterLoop fn a.tmps ps x y (rOf W0 (some id))).run P w = .ok (w.heap.size, []) w1 := by
        show (Instr.enterLoop fn a.tmps ps x y (some (W0.e0.home id).blk)).run P w = _
        rw [hb, ← hw1]
        unfold Instr.enterLoop
        simp only [Sem.run_bind, run_newObj_alloc, Result.andThen, Sem.run_pure, run_getLoop hrc]
      have hL : w1.heap[w.heap.size]? = some (.loop { state := .ready, pending := none, fn, tmps := a.tmps, params := ps, assign := x, body := y, defers := rc.defers }) := by rw [← hw1]; exact World.alloc_heap_new w _
      have hk0 : Kept (fun b => b < w.heap.size) w w1 := by
        have := (Below.refl w.heap.size w).alloc (Nat.le_refl _) (.loop { state := .ready, pending := none, fn, tmps := a.tmps, params := ps, assign := x, body := y, defers := rc.defers })
        rw [hw1] at this
        exact ⟨this.os, this.tape, this.output, this.size, this.block⟩
      have hUlt : ∀ b, W0.U b → b < w.heap.size := fun b hb => Nat.lt_of_lt_of_le (W0.lt b hb) hs.below.size
      have hs1 := hs.new (i := n) (by simp) (.loop .ready none ns s.slots ps x y false) ⟨w.heap.size, 0, 0⟩ (hk0.mono hUlt) (fun b hb => hk0.block b (hs.rlt b hb)) (fun k c hk => hk0.block _ (hs.mem k c hk).lt)
        (.loop _ _ _ _ _ _ _ _ _ W0.g hL rfl rfl rfl rfl rfl hs.size fun t => (hs.slot t).keep (E.le_add n _ fun h => by have := hs.dom _ h; omega) fun b hb => hk0.block b (hs.rlt b hb)) (fun hu => absurd (hUlt _ hu) (by simp)) rfl (fun hu => absurd (hs.rlt _ hu) (by simp)) (fun k c hk e => by have := (hs.mem k c hk).lt; simp at e; omega)
      exact ⟨W0, w1, w.heap.size, [], hrun, Ext.refl _, hi, hs1, fun b hb => hk0.block b (hs.rlt b hb)⟩
  -- the call
  have hfn := hs.opd hg
  obtain ⟨u, hu⟩ : ∃ u, a.eval g = u := ⟨_, rfl⟩
  rw [hu] at hfn
  cases hfn with
  | fn _ _ _ as1 bs c1 c2 c3 c4 =>
    have hle : E.le (E.add n ⟨l, 0, 0⟩) := E.le_add n _ fun h => by have := hs.dom _ h; omega
    refine ⟨l, mark, w1, { target := .fn (.func f) bs, args := as1 ++ #[.func (.yield l) #[] #[]] }, w1, f, as1 ++ #[.func (.yield l) #[] #[]] ++ bs, w1, he, ?_, fun f' _ => fen_fn _ f', ?_, fun h => (by rw [fen_depth] at h; cases h), callsIn_fen ?_⟩
    · simp only [resolve, rangeCall, hu, Deferred.ofValue, Sem.run_pure]
      simp [Act.eval]
    · exact h.callable _ _
    · have M0 : MS W1 R0 (· < n + 1) (setMem s.mem n (some (.loop .ready none ns s.slots ps x y false))) (E.add n ⟨l, 0, 0⟩) w1 := ms_dom hs1.ms fun i hi => by rcases hi with rfl | hi <;> omega
      have hc := h.calls W1 R0 (E.add n ⟨l, 0, 0⟩) w1 (as1 ++ #[.func (.yield l) #[] #[]] ++ bs) M0 (by simp [c1, c2]; omega) fun i z v hz hv => by
        rcases Nat.lt_or_ge i (us ++ [SV.yield n]).length with g1 | g1
        · rw [List.getElem?_append_left g1] at hz
          rw [Array.getElem?_append_left (by simp [c1] at g1 ⊢; exact g1)] at hv
          rcases Nat.lt_or_ge i us.length with g2 | g2
          · rw [List.getElem?_append_left g2] at hz
            rw [Array.getElem?_append_left (by omega)] at hv
            exact (c3 i z v hz hv).keep hle hk1
          · have e : i = us.length := by simp at g1; omega
            subst e
            rw [List.getElem?_append_right (Nat.le_refl _)] at hz
            rw [Array.getElem?_append_right (by omega), c1] at hv
            simp at hz hv
            subst hz; subst hv
            have := Rep.yield (E := E.add n ⟨l, 0, 0⟩) (w := w1) n (.inl rfl)
            simpa [Env.add] using this
        · rw [List.getElem?_append_right g1] at hz
          rw [Array.getElem?_append_right (by simp [c1] at g1 ⊢; exact g1)] at hv
          refine (c4 (i - (us ++ [SV.yield n]).length) z v hz ?_).keep hle hk1
          rw [← hv]
          congr 1
          simp [c1]
      refine hc.mono ?_
      rintro e w' ⟨v, E', n', m', z, rfl, M, hle', hk', hv, st, pe, hm, hst, haf⟩
      have hs2 := hs1.back M hle' hk'
      obtain ⟨rc, g2, u1, u2, u3, u4, u5, u6, u7, u8, u9⟩ := hs2.record (id := n) hm
      have hl : (E'.home n).blk = l := by rw [hle'.home n (.inl rfl)]; simp [Env.add]
      rw [hl] at u1 u9
      refine ⟨_, _, run_endLoop u1 (by rw [u2]; exact hst), ?_⟩
      have hs3 := u9 .exhausted pe
      have e1 : ({ rc with state := .exhausted, pending := pe } : Loop) = { rc with state := .exhausted } := by rw [← u3]
      rw [e1] at hs3
      rw [u3] at hs3 ⊢
      cases pe with
      | none => exact ⟨n', _, E', W1, x1, i1, hs3, haf⟩
      | some c =>
        cases c with
        | ret => exact wpIn_ret ⟨n', _, E', W1, x1, i1, hs3, haf⟩
        | exit id => exact wpIn_exit ⟨n', _, E', W1, x1, i1, hs3, haf⟩
        | goto t => exact wpIn_goto ⟨n', _, E', W1, x1, i1, hs3, haf⟩
        | _ => exact haf.elim
end Go.Proofs.Ytdkneonokbakjaa.Eng

namespace Go.Proofs.Ytdkneonokbakjaa.Eng
open Go.RowKit
variable {P : Program} {T : Tab} {r : Option Nat} {ns : Nat}
structure KI (P : Program) (r : Option Nat) (ns : Nat) (y : Code) (Q : Post) where
  K : Nat → St → Prop
  h : ∀ n s, AWi P r ns y n s Q → K n s
theorem KI.go {y : Code} {Q : Post} {k : KI P r ns y Q} {n : Nat} {s : St} (h : AWi P r ns y n s Q) : k.K n s := k.h n s h
theorem AWi.seqK {x y : Code} {n : Nat} {s : St} {Q : Post} (h : ∀ k : KI P r ns y Q, AWi P r ns x n s (thenP k.K Q)) : AWi P r ns (.seq x y) n s Q := AWi.seq (h ⟨fun n s => AWi P r ns y n s Q, fun _ _ h => h⟩)
theorem AWi.blockK {id n : Nat} {c : Code} {s : St} {Q : Post} (h : ∀ b : BB id Q, AWi P r ns c n s b.B) : AWi P r ns (.block id c) n s Q := AWi.block (h ⟨blockP id Q, fun _ _ _ h => h⟩)
theorem AWi.condK {c : Operand} {x y : Code} {n : Nat} {s : St} {Q : Post} (h : ∀ (kx : KI P r ns x Q) (ky : KI P r ns y Q), CondG (opd ns s c) (kx.K n s) (ky.K n s)) : AWi P r ns (.cond c x y) n s Q := by
  have h := h ⟨fun n s => AWi P r ns x n s Q, fun _ _ h => h⟩ ⟨fun n s => AWi P r ns y n s Q, fun _ _ h => h⟩
  unfold CondG at h
  split at h
  · rename_i t ht
    refine AWi.cond ht (fun e => ?_) fun e => ?_
    · rw [if_pos e] at h; exact h
    · rw [if_neg (by rw [e]; simp)] at h; exact h
  · exact h.elim
structure LI (ι : Type) (I : ι → Nat → St → Prop) (μ : ι → Nat) (i : ι) where
  L : Nat → St → Prop
  h : ∀ n' s', (∃ j, I j n' s' ∧ μ j < μ i) → L n' s'
theorem LI.go {ι : Type} {I : ι → Nat → St → Prop} {μ : ι → Nat} {i : ι} {k : LI ι I μ i} {n' : Nat} {s' : St} (j : ι) (h : I j n' s') (hm : μ j < μ i) : k.L n' s' := k.h n' s' ⟨j, h, hm⟩
theorem AWi.loopK {ι : Type} {c : Code} {n : Nat} {s : St} {Q : Post} (I : ι → Nat → St → Prop) (μ : ι → Nat) (i0 : ι) (h0 : I i0 n s) (round : ∀ i n s, I i n s → ∀ k : LI ι I μ i, AWi P r ns c n s (thenP k.L Q)) : AWi P r ns (.loop c) n s Q :=
  AWi.loop I μ i0 h0 fun i n s hI => round i n s hI ⟨fun n' s' => ∃ j, I j n' s' ∧ μ j < μ i, fun _ _ h => h⟩
section
variable {ops : Array Oper} {n : Nat} {o : Oper} {l : List Oper} {s : St} {Q : Nat → St → Prop}
theorem aop_noDefer {m : Nat → Option Blk} {ev : Operand → Option SV} {out : Out} (h : aop T m n ev o.op = some out) : noDefer [o] = true := by
  unfold noDefer
  simp only [List.all_cons, List.all_nil, Bool.and_true]
  split
  · rename_i c hc
    rw [hc] at h
    cases h
  · rfl
@[simp] theorem ExecI_nil : ExecI P r T ops ns n [] s Q = Q n s := rfl
def ExecW (P : Program) (r : Option Nat) (T : Tab) (ops : Array Oper) (ns : Nat) (n : Nat) (l : List Oper) (s : St) (Q : Nat → St → Prop) : Prop := ExecI P r T ops ns n l s Q
@[simp] theorem ExecI_cons : ExecI P r T ops ns n (o :: l) s Q = match guardS ops ns s o, waits o.op with
    | some true, false => match aop T s.mem n (opd ns s) o.op with
      | some out => ExecI P r T ops ns (n + 1) l (putS s n o.dst out) Q
      | none => False
    | some false, _ => ExecI P r T ops ns n l { s with slots := setSlot s.slots o.dst (.tup []) } Q
    | _, _ => ExecW P r T ops ns n (o :: l) s Q := by
  split
  · rename_i hg hf
    simp only [ExecI, hg, step_plain hf, hf]
    cases ho : aop T s.mem n (opd ns s) o.op with
    | none => simp
    | some out => simp [aop_noDefer ho]
  · rename_i hg; simp only [ExecI, hg]
  · rfl
theorem ExecI.callG {G : Nat → St → Prop} (hg : guardS ops ns s o = some true) (hw : waits o.op = true) (hG : StepI P r ns n s o G) (h : ∀ n' s', G n' s' → ExecI P r T ops ns n' l s' Q) : ExecW P r T ops ns n (o :: l) s Q := by
  show ExecI P r T ops ns n (o :: l) s Q
  simp only [ExecI, hg]
  exact .inr ⟨hw, G, hG, h⟩
theorem ExecI.call {f : FuncId} {args : List Operand} {ds : List Dat} {d : Dat} (is : List Nat) (h3 : ACall P f ds d) (hg : guardS ops ns s o = some true) (hf : fnOf o.op = some (f, args)) (h12 : (evList (opd ns s) args).bind (escAll s.mem) = some (ds, is))
    (h : ExecI P r T ops ns (n + 1) l (putS s n o.dst { res := .d d, frz := is }) Q) : ExecW P r T ops ns n (o :: l) s Q := by
  show ExecI P r T ops ns n (o :: l) s Q
  simp only [ExecI, hg]
  rw [Option.bind_eq_some_iff] at h12
  obtain ⟨svs, h1, h2⟩ := h12
  refine .inl ⟨?_, _, ?_, h⟩
  · obtain ⟨c, hc, _⟩ := fnOf_eq hf
    simp [noDefer, hc]
  · refine .inl ?_
    rw [hf]
    exact ⟨svs, ds, is, d, h1, h2, h3, rfl⟩
theorem ExecI.callC {f : FuncId} {svs : List SV} {R : SV → Nat → (Nat → Option Blk) → Prop} (hc : CWp P f svs n s.mem R) (hg : guardS ops ns s o = some true) (h1 : calleeS ns s o.op = some (f, svs))
    (h : ∀ y n' m', R y n' m' → ExecI P r T ops ns n' l { slots := setSlot s.slots o.dst y, mem := m' } Q) : ExecW P r T ops ns n (o :: l) s Q :=
  ExecI.callG hg (calleeS_waits h1) (stepI_call h1 hc) fun n' s' ⟨y, m', hR, e⟩ => e ▸ h y n' m' hR
end
def calleeV (ns : Nat) (s : St) : Op → Option (SV × List SV)
  | .call c => match c.callee with
    | .value (.tmp t) => match opd ns s (.tmp t), evList (opd ns s) c.args.toList with
      | some f, some l => some (f, l)
      | _, _ => none
    | _ => none
  | _ => none
def YCall (P : Program) (Y : SV) (xs : List SV) (n : Nat) (m : Nat → Option Blk) (R : SV → Nat → (Nat → Option Blk) → Prop) : Prop :=
  ∀ (r : Option Nat) (ns : Nat) (s : St) (o : Oper), s.mem = m → calleeV ns s o.op = some (Y, xs) → StepI P r ns n s o fun n' s' => ∃ y m', R y n' m' ∧ s' = { slots := setSlot s.slots o.dst y, mem := m' }
theorem calleeV_spec {ns : Nat} {s : St} {op : Op} {Y : SV} {xs : List SV} (h : calleeV ns s op = some (Y, xs)) : waits op = true ∧ (∀ f us vs, Y = .fn f us vs → calleeS ns s op = some (f, us ++ xs ++ vs)) ∧ ∀ id, Y = .yield id → calleeY ns s op = some (id, xs) := by
  unfold calleeV at h
  split at h
  · rename_i c
    split at h
    · rename_i t hc
      split at h
      · rename_i f l h1 h2
        cases h
        refine ⟨by simp [waits, hc], fun f us vs e => ?_, fun id e => ?_⟩
        · subst e; simp only [calleeS, hc, h1, h2]
        · subst e; simp only [calleeY, hc, h1, h2]
      · cases h
    · cases h
  · cases h
theorem YCall.fn {f : FuncId} {us xs vs : List SV} {n : Nat} {m : Nat → Option Blk} {R : SV → Nat → (Nat → Option Blk) → Prop} (h : CWp P f (us ++ xs ++ vs) n m R) : YCall P (.fn f us vs) xs n m R :=
  fun _ _ s _ e hc => stepI_call ((calleeV_spec hc).2.1 f us vs rfl) (by rw [e]; exact h)
theorem YCall.yield {id n : Nat} {m : Nat → Option Blk} {xs : List SV} {R : SV → Nat → (Nat → Option Blk) → Prop} {pe : Option Code} {k : Nat} {sl : Nat → SV} {ps : Array Tmp} {x y : Code}
    (h2 : m id = some (.loop .ready pe k sl ps x y false)) (hl : xs.length = ps.size) (hp : ps.toList.all (· < k) = true)
    (h : AWi P (some id) k x n ⟨putAll sl ps.toList xs, m⟩ fun e n1 s1 => e = .normal ∧ ∃ pe1, s1.mem id = some (.loop .ready pe1 k sl ps x y false) ∧
      AWi P (some id) k y n1 { s1 with mem := setMem s1.mem id (some (.loop .busy pe1 k sl ps x y false)) } fun e n2 s2 => ∃ j pe2, jumpOf e = some j ∧ s2.mem id = some (.loop .busy pe2 k sl ps x y false) ∧
        R (.d (.val (.bool j.isNone))) n2 (setMem s2.mem id (some (.loop (if j.isNone then .ready else .done) j k sl ps x y false)))) :
    YCall P (.yield id) xs n m R := fun r ns s o e hc => by
  subst e
  refine stepI_yield ((calleeV_spec hc).2.2 id rfl) h2 hl hp (h.mono ?_)
  rintro e n1 s1 ⟨he, pe1, h3, h4⟩
  refine ⟨he, pe1, h3, h4.mono ?_⟩
  rintro e n2 s2 ⟨j, pe2, hj, h5, h6⟩
  exact ⟨j, pe2, hj, h5, _, _, h6, rfl⟩
theorem ExecI.callY {ops : Array Oper} {n : Nat} {o : Oper} {l : List Oper} {s : St} {Q : Nat → St → Prop} {Y : SV} {xs : List SV} {R : SV → Nat → (Nat → Option Blk) → Prop} (hy : YCall P Y xs n s.mem R) (hg : guardS ops ns s o = some true) (h1 : calleeV ns s o.op = some (Y, xs))
    (h : ∀ y n' m', R y n' m' → ExecI P r T ops ns n' l { slots := setSlot s.slots o.dst y, mem := m' } Q) : ExecW P r T ops ns n (o :: l) s Q :=
  ExecI.callG hg (calleeV_spec h1).1 (hy r ns s o rfl h1) fun n' s' ⟨y, m', hR, e⟩ => e ▸ h y n' m' hR
structure RI (T : Tab) (rs : List ResultVar) (Q : SV → Nat → (Nat → Option Blk) → Prop) where
  R : Post
  h : ∀ e n s, (e = .normal ∨ e = .ret) → EndI T rs Q n s → R e n s
theorem RI.ret {rs : List ResultVar} {Q : SV → Nat → (Nat → Option Blk) → Prop} {q : RI T rs Q} {n : Nat} {s : St} {xs : List SV} (h : resSlots T s rs = some xs) (hq : Q (retV xs) n s.mem) : q.R .ret n s := q.h _ n s (.inr rfl) ⟨xs, h, hq⟩
theorem RI.normal {rs : List ResultVar} {Q : SV → Nat → (Nat → Option Blk) → Prop} {q : RI T rs Q} {n : Nat} {s : St} {xs : List SV} (h : resSlots T s rs = some xs) (hq : Q (retV xs) n s.mem) : q.R .normal n s := q.h _ n s (.inl rfl) ⟨xs, h, hq⟩
theorem cwpK (hT : TabOk P T) {f : FuncId} {fn : Func} {c : Code} (hf : P.funcs[f]? = some fn) (hn : (fn.name == "runtime.NumGoroutine") = false) (hb : fn.body = some c) {args : List SV} {n : Nat} {m : Nat → Option Blk} {Q : SV → Nat → (Nat → Option Blk) → Prop} (hl : args.length ≤ fn.ntmps) (hr : resOk fn.results.toList fn.ntmps = true)
    (h : ∀ q : RI T fn.results.toList Q, AWi P none fn.ntmps c n ⟨startI args, m⟩ q.R) : CWp P f args n m Q :=
  cwp_of hT hf hn hb hl hr (h ⟨fun e n s => (e = .normal ∨ e = .ret) ∧ EndI T fn.results.toList Q n s, fun _ _ _ h1 h2 => ⟨h1, h2⟩⟩)
@[simp] theorem startI_app (l : List SV) (t : Nat) : startI l t = (l[t]?).getD .und := rfl
abbrev Mem := Nat → Option Blk
def Below' (n0 : Nat) (I : Mem → Prop) : Prop := ∀ m m', (∀ j, j < n0 → m' j = m j) → I m → I m'
def Keeps (n0 n : Nat) (m : Mem) (n' : Nat) (m' : Mem) : Prop := n ≤ n' ∧ ∀ j, n0 ≤ j → j < n → m' j = m j
theorem Keeps.trans {n0 n n' n'' : Nat} {m m' m'' : Mem} (h : Keeps n0 n m n' m') (k : Keeps n0 n' m' n'' m'') : Keeps n0 n m n'' m'' :=
  ⟨Nat.le_trans h.1 k.1, fun j h1 h2 => (k.2 j h1 (Nat.lt_of_lt_of_le h2 h.1)).trans (h.2 j h1 h2)⟩
theorem Keeps.more {n0 n n' : Nat} {m : Mem} (h : n ≤ n') : Keeps n0 n m n' m := ⟨h, fun _ _ _ => rfl⟩
theorem Below'.lt {n0 k : Nat} {I : Mem → Prop} {m : Mem} (h : Below' n0 I) (hm : I m) (hk : ∀ m, I m → m k ≠ none) : k < n0 := by
  rcases Nat.lt_or_ge k n0 with h1 | h1
  · exact h1
  · exact absurd (if_pos rfl) (hk _ (h m (setMem m k none) (fun j hj => if_neg (by omega)) hm))
def FnV (Y : SV) : Prop := Y.fit = true ∧ Y.cells = [Y]
def Iterates (P : Program) (f : FuncId) (args : SV → List SV) (xs : List (List SV)) (K : Mem → Prop) : Prop :=
  ∀ (Y : SV) (n0 : Nat) (I : Nat → Mem → Prop) (J : Mem → Prop), FnV Y → (∀ i, Below' n0 (I i)) → Below' n0 J → (∀ i m, I i m → K m) →
    (∀ i n m x, xs[i]? = some x → n0 ≤ n → I i m → YCall P Y x n m fun y n' m' => Keeps n0 n m n' m' ∧ ((y = .d (.val (.bool true)) ∧ I (i + 1) m') ∨ (y = .d (.val (.bool false)) ∧ J m'))) →
    ∀ n m, n0 ≤ n → I 0 m → CWp P f (args Y) n m fun _ n' m' => Keeps n0 n m n' m' ∧ (I xs.length m' ∨ J m')
def RoundP (n n2 : Nat) (m2 : Mem) (I : Mem → Prop) (J : Code → Mem → Prop) : Post := fun e n3 s3 =>
  n2 ≤ n3 ∧ (∀ j, n ≤ j → j < n2 → s3.mem j = m2 j) ∧ match jumpOf e with
    | some none => I s3.mem
    | some (some c) => J c s3.mem
    | none => False
theorem AWi.iter {n : Nat} {s : St} {Q : Post} {g : Operand} {ps : Array Tmp} {x y : Code} {f : FuncId} {us vs : List SV} {args : SV → List SV} {xs : List (List SV)} {K : Mem → Prop} (hit : Iterates P f args xs K) (hg : opd ns s g = some (.fn f us vs)) (ha : ∀ Y, args Y = us ++ [Y] ++ vs)
    (hr : ∀ id, r = some id → ∃ st pe k sl ps x y z, s.mem id = some (.loop st pe k sl ps x y z)) (hp : ps.toList.all (· < ns) = true) (hsz : ∀ z ∈ xs, z.length = ps.size)
    (I : Nat → Mem → Prop) (J : Code → Mem → Prop) (hI : ∀ i, Below' n (I i)) (hJ : ∀ c, Below' n (J c)) (hK : ∀ i m, I i m → K m) (h0 : I 0 s.mem)
    (round : ∀ i n1 m1 z, xs[i]? = some z → n < n1 → I i m1 → m1 n = some (.loop .ready none ns s.slots ps x y false) → AWi P (some n) ns x n1 ⟨putAll s.slots ps.toList z, m1⟩ fun e n2 s2 => e = .normal ∧ n1 ≤ n2 ∧ (∀ j, j < n1 → s2.mem j = m1 j) ∧
      AWi P (some n) ns y n2 { s2 with mem := setMem s2.mem n (some (.loop .busy none ns s.slots ps x y false)) } (RoundP n n2 (setMem s2.mem n (some (.loop .busy none ns s.slots ps x y false))) (I (i + 1)) J))
    (hend : ∀ n' m', n ≤ n' → I xs.length m' → Q .normal n' { s with mem := m' }) (hjmp : ∀ c n' m', n ≤ n' → J c m' → afterP Q n' { s with mem := m' } (some c)) :
    AWi P r ns (.rangeFunc g ps x y) n s Q := by
  refine AWi.rangeFunc hg hr ?_
  rw [← ha]
  have hset : ∀ (m : Mem) (b : Option Blk) j, j < n → setMem m n b j = m j := fun m b j hj => if_neg (by omega)
  refine (hit (.yield n) (n + 1) (fun i m => I i m ∧ m n = some (.loop .ready none ns s.slots ps x y false)) (fun m => ∃ c, J c m ∧ m n = some (.loop .done (some c) ns s.slots ps x y false)) ⟨rfl, rfl⟩ ?_ ?_ (fun i m h => hK i m h.1) ?_ (n + 1) _ (Nat.le_refl _) ⟨hI 0 _ _ (fun j hj => hset _ _ j hj) h0, if_pos rfl⟩).mono ?_
  · rintro i m m' h ⟨h1, h2⟩
    exact ⟨hI i _ _ (fun j hj => h j (by omega)) h1, (h n (by omega)).trans h2⟩
  · rintro m m' h ⟨c, h1, h2⟩
    exact ⟨c, hJ c _ _ (fun j hj => h j (by omega)) h1, (h n (by omega)).trans h2⟩
  · rintro i n1 m z hz hn ⟨h1, h2⟩
    refine YCall.yield h2 (hsz z (List.mem_of_getElem? hz)) hp ((round i n1 m z hz (by omega) h1 h2).mono ?_)
    rintro e n2 s2 ⟨he, h3, h4, h5⟩
    refine ⟨he, none, (h4 n (by omega)).trans h2, h5.mono ?_⟩
    rintro e n3 s3 ⟨h6, h7, h8⟩
    have h9 : s3.mem n = some (.loop .busy none ns s.slots ps x y false) := (h7 n (Nat.le_refl _) (by omega)).trans (if_pos rfl)
    have hk : ∀ b, Keeps (n + 1) n1 m n3 (setMem s3.mem n b) := fun b => ⟨by omega, fun j j1 j2 => by
      rw [show setMem s3.mem n b j = s3.mem j from if_neg (by omega), h7 j (by omega) (by omega), show setMem s2.mem n _ j = s2.mem j from if_neg (by omega)]
      exact h4 j (by omega)⟩
    split at h8
    · rename_i hj
      exact ⟨none, none, hj, h9, hk _, .inl ⟨rfl, hI _ _ _ (fun j hj => hset _ _ j hj) h8, if_pos rfl⟩⟩
    · rename_i c hj
      exact ⟨some c, none, hj, h9, hk _, .inr ⟨rfl, c, hJ c _ _ (fun j hj => hset _ _ j hj) h8, if_pos rfl⟩⟩
    · exact h8.elim
  · rintro _ n' m' ⟨hk, ⟨h1, h2⟩ | ⟨c, h1, h2⟩⟩
    · exact ⟨_, _, h2, by simp, hend n' _ (by have := hk.1; omega) (hI _ _ _ (fun j hj => hset _ _ j hj) h1)⟩
    · exact ⟨_, _, h2, by simp, hjmp c n' _ (by have := hk.1; omega) (hJ c _ _ (fun j hj => hset _ _ j hj) h1)⟩
structure RE (n n2 : Nat) (m2 : Mem) (I : Mem → Prop) (J : Code → Mem → Prop) where
  R : Post
  h : ∀ e n3 s3, RoundP n n2 m2 I J e n3 s3 → R e n3 s3
section
variable {n n2 : Nat} {m2 : Mem} {I : Mem → Prop} {J : Code → Mem → Prop} {q : RE n n2 m2 I J} {n3 : Nat} {s3 : St}
theorem RE.normal (h1 : n2 ≤ n3) (h2 : ∀ j, n ≤ j → j < n2 → s3.mem j = m2 j) (h : I s3.mem) : q.R .normal n3 s3 := q.h _ _ _ ⟨h1, h2, h⟩
theorem RE.ret (h1 : n2 ≤ n3) (h2 : ∀ j, n ≤ j → j < n2 → s3.mem j = m2 j) (h : J .ret s3.mem) : q.R .ret n3 s3 := q.h _ _ _ ⟨h1, h2, h⟩
end
structure RB (P : Program) (n n1 : Nat) (m1 : Mem) (ns : Nat) (sl : Nat → SV) (ps : Array Tmp) (x y : Code) (I : Mem → Prop) (J : Code → Mem → Prop) where
  K : Nat → St → Prop
  h : ∀ n2 s2, n1 ≤ n2 → (∀ j, j < n1 → s2.mem j = m1 j) → (∀ q : RE n n2 (setMem s2.mem n (some (.loop .busy none ns sl ps x y false))) I J, AWi P (some n) ns y n2 { s2 with mem := setMem s2.mem n (some (.loop .busy none ns sl ps x y false)) } q.R) → K n2 s2
theorem RB.go {n n1 : Nat} {m1 : Mem} {sl : Nat → SV} {ps : Array Tmp} {x y : Code} {I : Mem → Prop} {J : Code → Mem → Prop} {k : RB P n n1 m1 ns sl ps x y I J} {n2 : Nat} {s2 : St} (h1 : n1 ≤ n2) (h2 : ∀ j, j < n1 → s2.mem j = m1 j)
    (h : ∀ rc : Option Blk, rc = some (.loop .busy none ns sl ps x y false) → ∀ q : RE n n2 (setMem s2.mem n rc) I J, AWi P (some n) ns y n2 { s2 with mem := setMem s2.mem n rc } q.R) : k.K n2 s2 := k.h _ _ h1 h2 (h _ rfl)
theorem AWi.iterK {n : Nat} {s : St} {Q : Post} {g : Operand} {ps : Array Tmp} {x y : Code} {f : FuncId} {us vs : List SV} {args : SV → List SV} {xs : List (List SV)} {K : Mem → Prop} (hit : Iterates P f args xs K) (hg : opd ns s g = some (.fn f us vs)) (ha : ∀ Y, args Y = us ++ [Y] ++ vs)
    (hr : ∀ id, r = some id → ∃ st pe k sl ps x y z, s.mem id = some (.loop st pe k sl ps x y z)) (hp : ps.toList.all (· < ns) = true) (hsz : ∀ z ∈ xs, z.length = ps.size)
    (I : Nat → Mem → Prop) (J : Code → Mem → Prop) (hI : ∀ i, Below' n (I i)) (hJ : ∀ c, Below' n (J c)) (hK : ∀ i m, I i m → K m) (h0 : I 0 s.mem)
    (round : ∀ i n1 m1 z, xs[i]? = some z → n < n1 → I i m1 → ∀ k : RB P n n1 m1 ns s.slots ps x y (I (i + 1)) J, AWi P (some n) ns x n1 ⟨putAll s.slots ps.toList z, m1⟩ (thenP k.K fun _ _ _ => False))
    (hend : ∀ n' m', n ≤ n' → I xs.length m' → Q .normal n' { s with mem := m' }) (hjmp : ∀ c n' m', n ≤ n' → J c m' → afterP Q n' { s with mem := m' } (some c)) :
    AWi P r ns (.rangeFunc g ps x y) n s Q :=
  AWi.iter hit hg ha hr hp hsz I J hI hJ hK h0 (fun i n1 m1 z hz hn hi _ => (round i n1 m1 z hz hn hi ⟨fun n2 s2 => n1 ≤ n2 ∧ (∀ j, j < n1 → s2.mem j = m1 j) ∧
      AWi P (some n) ns y n2 { s2 with mem := setMem s2.mem n (some (.loop .busy none ns s.slots ps x y false)) } (RoundP n n2 (setMem s2.mem n (some (.loop .busy none ns s.slots ps x y false))) (I (i + 1)) J), fun n2 s2 h1 h2 h3 => ⟨h1, h2, h3 ⟨_, fun _ _ _ h => h⟩⟩⟩).mono fun e n2 s2 h => by
    cases e with
    | normal => exact ⟨rfl, h⟩
    | _ => exact h.elim) hend hjmp
theorem foldl_mask_of : ∀ (l : List Nat) (s x : Nat), (l.foldl (fun s x => s ||| 2 ^ x) s).testBit x = true → s.testBit x = true ∨ x ∈ l
  | [], _, _, h => .inl h
  | y :: l, s, x, h => by
    rw [List.foldl_cons] at h
    rcases foldl_mask_of l _ x h with h | h
    · rw [Nat.testBit_or, Bool.or_eq_true, Nat.testBit_two_pow] at h
      rcases h with h | h
      · exact .inl h
      · exact .inr (List.mem_cons.2 (.inl (of_decide_eq_true h).symm))
    · exact .inr (List.mem_cons_of_mem _ h)
theorem maskL_of {l : List Nat} {x : Nat} (h : (maskL l).testBit x = true) : x ∈ l := (foldl_mask_of l 0 x h).resolve_left (by simp)
def colN (x : Nat) : Nat := if x % 2 = 0 then x else 1
def colF (f : Foot) : Foot := ⟨f.rd.map colN, f.wr.map colN⟩
theorem and_col {a b : List Nat} (h : maskL (a.map colN) &&& maskL (b.map colN) = 0) : maskL a &&& maskL b = 0 := by
  apply Nat.eq_of_testBit_eq
  intro i
  rw [Nat.zero_testBit]
  cases hb : (maskL a &&& maskL b).testBit i with
  | false => rfl
  | true =>
    rw [Nat.testBit_and, Bool.and_eq_true] at hb
    exact (and_bit h (maskL_mem (List.mem_map_of_mem (maskL_of hb.1))) (maskL_mem (List.mem_map_of_mem (maskL_of hb.2)))).elim
theorem okLog_c {l : List Oper} {log : List Foot} (h : okLog l (log.map colF) = true) : okLog l log = true := by
  unfold okLog at h ⊢
  refine List.all_eq_true.2 fun k hk => List.all_eq_true.2 fun i hi => ?_
  have hkl := List.mem_range.1 hk
  have hik := List.mem_range.1 hi
  have h1 := List.all_eq_true.1 (List.all_eq_true.1 h k (by simpa using hkl)) i hi
  rw [Bool.or_eq_true] at h1 ⊢
  refine h1.imp (fun h2 => ?_) fun h2 => h2
  have gk : log[k]? = some log[k] := List.getElem?_eq_getElem hkl
  have gi : log[i]? = some log[i] := List.getElem?_eq_getElem (by omega)
  simp only [List.map_map, List.getD_eq_getElem?_getD, List.getElem?_map, gk, gi, Option.map_some, Option.getD_some, Function.comp, colF, beq_iff_eq] at h2 ⊢
  obtain ⟨h3, h4⟩ := or_zero h2
  rw [Nat.and_or_distrib_left] at h3 ⊢
  obtain ⟨h5, h6⟩ := or_zero h3
  rw [and_col h5, and_col h6, and_col h4]
  rfl
attribute [simp] colN
end Go.Proofs.Ytdkneonokbakjaa.Eng

namespace Go.Proofs.Ytdkneonokbakjaa.Eng
open Go.RowKit
variable {P : Program} {T : Tab}
theorem Rep.restrict {E E' E'' : Env} {w w' : World} {x : SV} {v : Value} (hr : ∀ b, E'.ro b → E''.ro b) (hd : ∀ i, E.dom i → E''.dom i) (hh : ∀ i, E.dom i → E''.home i = E'.home i) (h : Rep E' w' x v) : ∀ v0, Rep E w x v0 → Rep E'' w' x v := by
  induction h with
  | und v => exact fun _ _ => .und v
  | d x v h => exact fun _ _ => .d x v (h.keep hr fun _ _ => rfl)
  | agg cs vs hs h1 _ ih =>
    intro v0 h0
    cases h0 with
    | agg _ us hs0 _ h2 =>
      refine .agg cs vs hs h1 fun i c v hc hv => ?_
      have hi : i < us.size := by have := (List.getElem?_eq_some_iff.1 hc).1; omega
      exact ih i c v hc hv _ (h2 i c _ hc (Array.getElem?_eq_getElem hi))
  | nilS => exact fun _ _ => .nilS
  | lin id n _ hz hc =>
    intro v0 h0
    cases h0 with | lin _ _ k1 _ _ => rw [← hh id k1] at hz hc ⊢; exact .lin id n (hd _ k1) hz hc
  | own id n z _ hz =>
    intro v0 h0
    cases h0 with | own _ _ _ k1 _ => rw [← hh id k1] at hz ⊢; exact .own id n z (hd _ k1) hz
  | rptr cs b off f hb h1 hc hr' => exact fun _ _ => .rptr cs b off f (hr b hb) h1 hc fun j c hj => (hr' j c hj).keep hr fun _ _ => rfl
  | ptr id i j _ =>
    intro v0 h0
    cases h0 with | ptr _ _ _ k1 => rw [← hh id k1]; exact .ptr id i j (hd _ k1)
  | fn f xs ys us vs h1 h2 _ _ ih1 ih2 =>
    intro v0 h0
    cases h0 with
    | fn _ _ _ us0 vs0 k1 k2 k3 k4 =>
      refine .fn f xs ys us vs h1 h2 (fun i c v hc hv => ?_) fun i c v hc hv => ?_
      · have hi : i < us0.size := by have := (List.getElem?_eq_some_iff.1 hc).1; omega
        exact ih1 i c v hc hv _ (k3 i c _ hc (Array.getElem?_eq_getElem hi))
      · have hi : i < vs0.size := by have := (List.getElem?_eq_some_iff.1 hc).1; omega
        exact ih2 i c v hc hv _ (k4 i c _ hc (Array.getElem?_eq_getElem hi))
  | tup cs vs hs _ ih =>
    intro v0 h0
    cases h0 with
    | tup _ us hs0 h2 =>
      refine .tup cs vs hs fun i c v hc hv => ?_
      have hi : i < us.size := by have := (List.getElem?_eq_some_iff.1 hc).1; omega
      exact ih i c v hc hv _ (h2 i c _ hc (Array.getElem?_eq_getElem hi))
  | yield id _ =>
    intro v0 h0
    cases h0 with | yield _ k1 => rw [← hh id k1]; exact .yield id (hd _ k1)
  | sl id off n c o k _ hk ho hn =>
    intro v0 h0
    cases h0 with | sl _ _ _ _ _ _ k1 => rw [← hh id k1] at hk ⊢; exact .sl id off n c o k (hd _ k1) hk ho hn
  | mp id _ =>
    intro v0 h0
    cases h0 with | mp _ k1 => rw [← hh id k1]; exact .mp id (hd _ k1)
  | full rows A h => exact fun _ _ => .full rows A (h.keep hr fun _ _ => rfl)
theorem Holds.restrict {E E' E'' : Env} {w w' : World} {h0 h : Home} {b : Blk} (hr : ∀ b, E'.ro b → E''.ro b) (hd : ∀ i, E.dom i → E''.dom i) (hh : ∀ i, E.dom i → E''.home i = E'.home i) (k : Holds E' w' h b) (k0 : Holds E w h0 b) : Holds E'' w' h b := by
  cases k with
  | box ty cells frz cur h1 h2 h3 h4 =>
    cases k0 with
    | box _ _ _ cur0 g1 g2 g3 g4 =>
      refine .box ty cells frz cur h1 h2 h3 fun j c v hc hv => ?_
      have hj : j < cur0.size := by have := (List.getElem?_eq_some_iff.1 hc).1; omega
      exact (h4 j c v hc hv).restrict hr hd hh _ (g4 j c _ hc (Array.getElem?_eq_getElem hj))
  | loop st pe ns sl ps x y frz r g h1 h2 h3 h4 h5 h6 h7 h8 =>
    cases k0 with
    | loop _ _ _ _ _ _ _ _ r0 g0 e1 e2 e3 e4 e5 e6 e7 e8 => exact .loop st pe ns sl ps x y frz r g h1 h2 h3 h4 h5 h6 h7 fun t => (h8 t).restrict hr hd hh _ (e8 t)
  | iter mid since last seen frz arr h1 h2 h3 h4 =>
    cases k0 with
    | iter _ _ _ _ _ arr0 g1 g2 => exact .iter mid since last seen frz arr (by rw [hh mid g2]; exact h1) (hd mid g2) h3 h4
  | part z ty cells frz cur h0 h1 h2 h3 h4 =>
    cases k0 with
    | part _ _ _ _ cur0 g0 g1 g2 g3 g4 =>
      refine .part z ty cells frz cur h0 h1 h2 h3 fun j c v hc hv => ?_
      have hj : j < cur0.size := by have := (List.getElem?_eq_some_iff.1 hc).1; omega
      exact (h4 j c v hc hv).restrict hr hd hh _ (g4 j c _ hc (Array.getElem?_eq_getElem hj))
  | map es clock frz ents h1 h2 h3 =>
    cases k0 with
    | map _ _ _ ents0 e1 e2 e3 =>
      refine .map es clock frz ents h1 h2 fun i q e hq he => ?_
      have hi : i < ents0.size := by have := (List.getElem?_eq_some_iff.1 hq).1; omega
      obtain ⟨a, b, c⟩ := h3 i q e hq he
      exact ⟨a, b, c.restrict hr hd hh _ (e3 i q _ hq (Array.getElem?_eq_getElem hi)).2.2⟩
  | row ty esz rows frz cur h1 h2 h3 h4 h5 h6 h7 h8 => exact .row ty esz rows frz cur h1 h2 h3 h4 h5 h6 h7 fun i j r c v hr' hc hv => (h8 i j r c v hr' hc hv).keep hr fun _ _ => rfl
def mapO {α β : Type} (f : α → Option β) : List α → Option (List β)
  | [] => some []
  | x :: l => match f x, mapO f l with
    | some y, some m => some (y :: m)
    | _, _ => none
theorem mapO_get {α β : Type} {f : α → Option β} : ∀ {l : List α} {m : List β}, mapO f l = some m → m.length = l.length ∧ ∀ (i : Nat) (x : α), l[i]? = some x → ∃ y, m[i]? = some y ∧ f x = some y
  | [], m, h => by cases h; simp
  | x :: l, m, h => by
    simp only [mapO] at h
    split at h
    · rename_i y m' h1 h2
      cases h
      obtain ⟨e, ih⟩ := mapO_get h2
      refine ⟨by simp [e], fun i z hz => ?_⟩
      cases i with
      | zero => simp at hz; subst hz; exact ⟨y, rfl, h1⟩
      | succ i => exact ih i z hz
    · cases h
def toD1 : SV → Option Dat
  | .d d => some d
  | _ => none
def toD2 : SV → Option Dat
  | .agg l => match mapO toD1 l with
    | some m => some (.agg m)
    | none => none
  | x => toD1 x
def toD3 : SV → Option Dat
  | .tup l => match mapO toD2 l with
    | some m => some (.tup m)
    | none => none
  | x => toD2 x
theorem toD1_eq {x : SV} {d : Dat} (h : toD1 x = some d) : x = .d d := by
  unfold toD1 at h
  split at h
  · cases h; rfl
  · cases h
theorem toD2_rep {E : Env} {w : World} {x : SV} {d : Dat} {v : Value} (h : toD2 x = some d) : Rep E w x v ↔ Rep E w (.d d) v := by
  unfold toD2 at h
  split at h
  · rename_i l
    split at h
    · rename_i m hm
      cases h
      obtain ⟨hlen, hget⟩ := mapO_get hm
      have hget2 : ∀ (i : Nat) (d : Dat), m[i]? = some d → l[i]? = some (.d d) := fun i d hd => by
        have hi : i < l.length := by rw [← hlen]; exact (List.getElem?_eq_some_iff.1 hd).1
        obtain ⟨y, h1, h2⟩ := hget i _ (List.getElem?_eq_getElem hi)
        rw [hd] at h1
        cases h1
        rw [List.getElem?_eq_getElem hi, toD1_eq h2]
      constructor
      · intro hr
        cases hr with
        | agg _ vs h1 h2 h3 =>
        refine .d _ _ (.agg m vs (by rw [h1, hlen]) (fun c hc => ?_) fun i c v hc hv => ?_)
        · obtain ⟨i, hi⟩ := List.mem_iff_getElem?.1 hc
          exact h2 (.d c) (List.mem_of_getElem? (hget2 i c hi))
        · cases h3 i _ v (hget2 i c hc) hv with | d _ _ h => exact h
      · intro hr
        cases hr with | d _ _ hd =>
        cases hd with
        | agg _ vs h1 h2 h3 =>
        refine .agg l vs (by rw [h1, hlen]) (fun c hc => ?_) fun i c v hc hv => ?_
        · obtain ⟨i, hi⟩ := List.mem_iff_getElem?.1 hc
          obtain ⟨y, q1, q2⟩ := hget i c hi
          rw [toD1_eq q2]
          exact h2 y (List.mem_of_getElem? q1)
        · obtain ⟨y, q1, q2⟩ := hget i c hc
          rw [toD1_eq q2]
          exact .d _ _ (h3 i y v q1 hv)
    · cases h
  · rw [toD1_eq h]
theorem toD3_rep {E : Env} {w : World} {x : SV} {d : Dat} {v : Value} (h : toD3 x = some d) : Rep E w x v ↔ Rep E w (.d d) v := by
  unfold toD3 at h
  split at h
  · rename_i l
    split at h
    · rename_i m hm
      cases h
      obtain ⟨hlen, hget⟩ := mapO_get hm
      have hget2 : ∀ (i : Nat) (d : Dat), m[i]? = some d → ∃ x, l[i]? = some x ∧ toD2 x = some d := fun i d hd => by
        have hi : i < l.length := by rw [← hlen]; exact (List.getElem?_eq_some_iff.1 hd).1
        obtain ⟨y, h1, h2⟩ := hget i _ (List.getElem?_eq_getElem hi)
        rw [hd] at h1
        cases h1
        exact ⟨_, List.getElem?_eq_getElem hi, h2⟩
      constructor
      · intro hr
        cases hr with
        | tup _ vs h1 h3 =>
        refine .d _ _ (.tup m vs (by rw [h1, hlen]) fun i c v hc hv => ?_)
        obtain ⟨x, q1, q2⟩ := hget2 i c hc
        cases (toD2_rep q2).1 (h3 i x v q1 hv) with | d _ _ h => exact h
      · intro hr
        cases hr with | d _ _ hd =>
        cases hd with
        | tup _ vs h1 h3 =>
        refine .tup l vs (by rw [h1, hlen]) fun i c v hc hv => ?_
        obtain ⟨y, q1, q2⟩ := hget i c hc
        exact (toD2_rep q2).2 (.d _ _ (h3 i y v q1 hv))
    · cases h
  · exact toD2_rep h
theorem RCall.of3 {f : FuncId} {svs : List SV} {d : Dat} {m : Mem} {n0 : Nat} (h : ∀ n, n0 ≤ n → CWp P f svs n m fun y _ m' => toD3 y = some d ∧ ∀ j, j < n → m' j = m j) : RCall P f svs d m :=
  ⟨(h n0 (Nat.le_refl _)).callable, fun W0 R0 D N E w vs hD M h1 h2 => by
    refine ((h (max N n0) (Nat.le_max_right _ _)).calls W0 R0 E w vs (ms_dom M fun i hi => Nat.lt_of_lt_of_le (hD i hi) (Nat.le_max_left _ _)) h1 h2).mono ?_
    rintro e w' ⟨v, E', n', m', y, rfl, M', hE, hw, hv, hy, hm⟩
    have hlt : ∀ i b, m i = some b → m' i = some b := fun i b hi => by
      rw [hm i (Nat.lt_of_lt_of_le (hD i (M.dom i (M.live i b hi))) (Nat.le_max_left _ _))]; exact hi
    let E2 : Env := { E' with dom := E.dom }
    refine ⟨v, E2, rfl, ⟨M'.below, M'.ro0, M'.ro1, M'.rlt, M.dom, M.live, fun i b hi => ?_, fun i b hi => M'.base i b (hlt i b hi), fun i b hi => M'.frz i b (hlt i b hi), fun i j b c hi hj hn => M'.inj i j b c (hlt i b hi) (hlt j c hj) hn⟩, ⟨hE.ro, fun _ h => h, hE.home⟩, hw, ?_⟩
    · exact Holds.restrict (E := E) (E' := E') (E'' := E2) (w := w) (w' := w') (h0 := E.home i) (h := E'.home i) (fun _ h => h) (fun _ h => h) (fun _ _ => rfl) (M'.mem i b (hlt i b hi)) (M.mem i b hi)
    · cases (toD3_rep hy).1 hv with | d _ _ hv => exact .d _ _ hv⟩
def only (m : Nat → Option Blk) (ids : List Nat) : Nat → Option Blk := fun i => if i ∈ ids then m i else none
@[simp] theorem only_at {m : Nat → Option Blk} {ids : List Nat} {i : Nat} : only m ids i = if i ∈ ids then m i else none := rfl
section
variable {ops : Array Oper} {ns nid : Nat} {o : Oper} {l : List Oper} {s : St} {log : List Foot} {Q2 : St → List Foot → Prop}
end
end Go.Proofs.Ytdkneonokbakjaa.Eng
