/-
  HoneKnown returns true, at every start: the examples of the chapter of layer 7 are as the chapter says. No condition.
-/
import Derived.Test.YtgiomfamlbmpcaaDx6
import Derived.Test.YtgiomfamlbmpcaaRows
import Derived.ProofKit
import Derived.OpenShut
import Derived.Below
import Derived.ChangeSame
set_option linter.unusedSimpArgs false
set_option linter.unusedVariables false
noncomputable section
namespace Go.Proofs.Ytgiomfamlbmpcaa.Eng
open Go.RowKit
variable {P : Program} {T : Tab} {r : Option Nat} {ns n : Nat} {s : St}
theorem ExecS.auto (hT : TabOk P T) {ops : Array Oper} {o : Oper} {l : List Oper} {Q : Nat → St → Prop} (h : match guardS ops ns s o, waits o.op, aop T s.mem n (opd ns s) o.op with
    | some true, false, some out => ExecS P r ns ops (n + 1) l (putS s n o.dst out) Q
    | _, _, _ => False) : ExecS P r ns ops n (o :: l) s Q := by
  split at h
  · rename_i out hg hw hx
    exact ExecS.plain hT hg hw hx h
  · exact h.elim
theorem rep_nil {E : Env} {w : World} {v : Value} (h : Rep E w .nilS v) : v = .slice none 0 0 := by cases h; rfl
theorem ExecS.capNil (hT : TabOk P T) {ops : Array Oper} {o : Oper} {lo : List Oper} {Q : Nat → St → Prop} {cl : Call} {x : Operand} {t e : TypeId} {i : TI} (ho : o.op = .call cl) (hc1 : cl.callee = .builtin .cap) (hc2 : cl.args.toList = [x]) (hc3 : cl.argTypes.toList = [t]) (hg : guardS ops ns s o = some true) (hi : T t = some i) (hk : i.kind = .slice e) (hx : opd ns s x = some .nilS)
    (h : ExecS P r ns ops n lo ⟨setSlot s.slots o.dst (.d (.val (.int .i64 0))), s.mem⟩ Q) : ExecS P r ns ops n (o :: lo) s Q :=
  ⟨hg, fun n' s' => n' = n ∧ s' = ⟨setSlot s.slots o.dst (.d (.val (.int .i64 0))), s.mem⟩, fun W0 R0 B E a w hin hs hd K Q' hK => by
    rw [call_eq hc1 hc2 hc3] at ho
    have hu := slice_und (hT t i hi) hk
    have hv := rep_nil (hs.opd hx)
    refine oper_in (fun c e => by rw [ho] at e; cases e) ?_
    unfold Oper.wp
    have he : (execOp a.eval o).run P w = .ok (.value (goInt 0)) w := by
      simp [execOp, ho, resolve, invoke, builtin, hv, Builtin.cap_, run_underlying hu]
    rw [he]
    exact hK n _ E _ w ⟨rfl, rfl⟩ (hs.put hd (rep_val rfl)), fun n' s' ⟨e1, e2⟩ => by rw [e1, e2]; exact h⟩
theorem ExecS.sliceNil (hT : TabOk P T) {ops : Array Oper} {o : Oper} {lo : List Oper} {Q : Nat → St → Prop} {x y : Operand} {t e : TypeId} {i ie : TI} {kd : IntKind} (ho : o.op = .slice t x none (some y) none) (hg : guardS ops ns s o = some true) (hi : T t = some i) (hk : i.kind = .slice e) (hie : T e = some ie) (hx : opd ns s x = some .nilS) (hy : opd ns s y = some (.d (.val (.int kd 0))))
    (h : ExecS P r ns ops n lo ⟨setSlot s.slots o.dst .nilS, s.mem⟩ Q) : ExecS P r ns ops n (o :: lo) s Q :=
  ⟨hg, fun n' s' => n' = n ∧ s' = ⟨setSlot s.slots o.dst .nilS, s.mem⟩, fun W0 R0 B E a w hin hs hd K Q' hK => by
    have hyv := rep_int (hs.opd hy)
    have hc : sliceC T i .nilS none (some 0) none = some .nilS := by simp [sliceC, hk, hie]
    obtain ⟨z, h1, h2⟩ := sliceC_run (w := w) hT hi Bd.none (Bd.some kd 0) Bd.none hc (hs.opd hx)
    refine oper_in (fun c e => by rw [ho] at e; cases e) ?_
    unfold Oper.wp
    have he : (execOp a.eval o).run P w = .ok (.value z) w := by
      simp only [execOp, ho, Sem.run_bind]
      simp [hyv, h1]
    rw [he]
    exact hK n _ E _ w ⟨rfl, rfl⟩ (hs.put hd h2), fun n' s' ⟨e1, e2⟩ => by rw [e1, e2]; exact h⟩
theorem ExecS.appendZ (hT : TabOk P T) {ops : Array Oper} {o : Oper} {lo : List Oper} {Q : Nat → St → Prop} {cl : Call} {x y : Operand} {t t' e : TypeId} {i i' ie : TI} {kn kd : IntKind} {k : Nat} (ho : o.op = .call cl) (hc1 : cl.callee = .builtin .append) (hc2 : cl.args.toList = [x, y]) (hc3 : cl.argTypes.toList = [t, t']) (hg : guardS ops ns s o = some true) (hi : T t = some i) (hk : i.kind = .slice e) (hi' : T t' = some i') (hk' : i'.kind = .int kn) (hie : T e = some ie) (hx : opd ns s x = some .nilS) (hy : opd ns s y = some (.d (.val (.int kd k)))) (hn : 0 < k) (hf : fitsB k ie.bytes = true)
    (h : ExecS P r ns ops (n + 1) lo ⟨setSlot s.slots o.dst (.own n k ie.size), setMem s.mem n (some (.row e ie.size [] false))⟩ Q) : ExecS P r ns ops n (o :: lo) s Q :=
  ⟨hg, fun n' s' => n' = n + 1 ∧ s' = ⟨setSlot s.slots o.dst (.own n k ie.size), setMem s.mem n (some (.row e ie.size [] false))⟩, fun W0 R0 B E a w hin hs hd K Q' hK => by
    rw [call_eq hc1 hc2 hc3] at ho
    have hu := slice_und (hT t i hi) hk
    have hu' : P.underlying t' = some (.int kn) := by have := (hT _ _ hi').und; rw [hk'] at this; exact this
    obtain ⟨inf, z0, i1, i4, i2, i3, hzs, hz⟩ := zeros_reps (E := E) (w := w) hT hie
    have hsz := (hT e ie hie).pos
    obtain ⟨c2, c3⟩ := fitsB_iff.1 hf
    have hxv := rep_nil (hs.opd hx)
    have hyv := rep_int (hs.opd hy)
    have hr := Lib.run_append_nil_zeros (P := P) w t t' o.type e inf z0 kd kn hu hu' i1 i4 k hn (by rw [i2]; exact hsz) (by simp only [maxLen] at c3; omega) (by rw [i3]; omega)
    have hge := grownCap_ge w k 0 e
    have hcm : grownCap w k 0 e ≤ maxLen := grownCap_le_maxLen w k 0 e c3
    generalize hcap : grownCap w k 0 e = cap at hr hge hcm
    generalize hnew : Builtin.zeroCells z0.cells k ++ Builtin.zeroCells z0.cells (cap - k) = new at hr
    have hcs : new.size = cap * ie.size := by
      rw [← hnew, Array.size_append, size_zeroCells, size_zeroCells, hzs, ← Nat.add_mul]
      congr 1
      omega
    have he : (execOp a.eval o).run P w = .ok (.value (.slice (some ⟨w.heap.size, 0, none⟩) k cap)) (w.drew.alloc (.cells new e)) := by
      simp only [execOp, ho, resolve, invoke, builtin, Sem.run_bind, Sem.run_pure, Result.andThen_ok, List.map_toArray, List.map_cons, List.map_nil, hxv, hyv, hr]
    have hb : Below w.heap.size w (w.drew.alloc (.cells new e)) := ⟨rfl, rfl, rfl, by simp, fun k hk => heap_alloc_old w.drew _ hk⟩
    have hro : ∀ b, E.ro b → (w.drew.alloc (.cells new e)).heap[b]? = w.heap[b]? := fun b hb' => hb.block b (hs.rlt b hb')
    have key := hs.new (i := n) (w' := w.drew.alloc (.cells new e)) (by omega) (.row e ie.size [] false) ⟨w.heap.size, cap, ie.size⟩ (hs.kept hb) hro (fun k c hk => hb.block _ (hs.mem k c hk).lt) (.row _ _ [] false new (heap_alloc_new w.drew _) rfl hcs (Nat.zero_le _) hcm (by simp) (by simp) (by simp)) (hs.fresh (Nat.le_refl _)) rfl (fun hk => Nat.lt_irrefl _ (hs.rlt _ hk)) (fun k c hk e => Nat.lt_irrefl _ (e ▸ (hs.mem k c hk).lt))
    refine oper_in (fun c e => by rw [ho] at e; cases e) ?_
    unfold Oper.wp
    rw [he]
    refine hK (n + 1) _ (E.add n ⟨w.heap.size, cap, ie.size⟩) _ _ ⟨rfl, rfl⟩ ((key.put hd ?_).weak fun i hi => by rcases hi with h | h <;> omega)
    have := Rep.own (E := E.add n ⟨w.heap.size, cap, ie.size⟩) (w := w.drew.alloc (.cells new e)) n k ie.size (.inl rfl) (by simp [Env.add])
    simpa [Env.add] using this, fun n' s' ⟨e1, e2⟩ => by rw [e1, e2]; exact h⟩
theorem ExecS.cut0 (hT : TabOk P T) {ops : Array Oper} {o : Oper} {lo : List Oper} {Q : Nat → St → Prop} {x y : Operand} {t e : TypeId} {i ie : TI} {kd : IntKind} {id k z : Nat} (ho : o.op = .slice t x none (some y) none) (hg : guardS ops ns s o = some true) (hi : T t = some i) (hk : i.kind = .slice e) (hie : T e = some ie) (hx : opd ns s x = some (.own id k z)) (hy : opd ns s y = some (.d (.val (.int kd 0))))
    (h : ExecS P r ns ops n lo ⟨setSlot s.slots o.dst (.own id 0 z), s.mem⟩ Q) : ExecS P r ns ops n (o :: lo) s Q :=
  ⟨hg, fun n' s' => n' = n ∧ s' = ⟨setSlot s.slots o.dst (.own id 0 z), s.mem⟩, fun W0 R0 B E a w hin hs hd K Q' hK => by
    have hyv := rep_int (hs.opd hy)
    have hu := slice_und (hT t i hi) hk
    have hsz := (hT e ie hie).sizeOf w
    obtain ⟨u, hu'⟩ : ∃ u, a.eval x = u := ⟨_, rfl⟩
    have hr := hs.opd hx
    rw [hu'] at hr
    cases hr with
    | own _ _ _ hdm hz =>
    have hb := bounds_run (P := P) (w := w) (isS := true) (len := k) (cap := (E.home id).cap) Bd.none (Bd.some kd 0) Bd.none (by simp) (by simp) (by simp) (by simp) (by simp)
    simp only [Option.getD_none, Option.getD_some] at hb
    refine oper_in (fun c e => by rw [ho] at e; cases e) ?_
    unfold Oper.wp
    have he : (execOp a.eval o).run P w = .ok (.value (.slice (some ⟨(E.home id).blk, 0, none⟩) 0 (E.home id).cap)) w := by
      simp only [execOp, ho, Sem.run_bind]
      simp [hyv, hu', Instr.sliceAt, Instr.slice, run_underlying hu, hsz, hb, Addr.add_lit]
    rw [he]
    exact hK n _ E _ w ⟨rfl, rfl⟩ (hs.put hd (.own id 0 z hdm hz)), fun n' s' ⟨e1, e2⟩ => by rw [e1, e2]; exact h⟩
theorem ExecS.append0 (hT : TabOk P T) {ops : Array Oper} {o : Oper} {lo : List Oper} {Q : Nat → St → Prop} {cl : Call} {x y : Operand} {t e : TypeId} {i ie : TI} (ho : o.op = .call cl) (hc1 : cl.callee = .builtin .append) (hc2 : cl.args.toList = [x, y]) (hc3 : cl.argTypes.toList = [t, t]) (hg : guardS ops ns s o = some true) (hi : T t = some i) (hk : i.kind = .slice e) (hie : T e = some ie) (hx : opd ns s x = some .nilS) (hy : opd ns s y = some (.d (.list [])))
    (h : ExecS P r ns ops n lo ⟨setSlot s.slots o.dst .nilS, s.mem⟩ Q) : ExecS P r ns ops n (o :: lo) s Q :=
  ⟨hg, fun n' s' => n' = n ∧ s' = ⟨setSlot s.slots o.dst .nilS, s.mem⟩, fun W0 R0 B E a w hin hs hd K Q' hK => by
    rw [call_eq hc1 hc2 hc3] at ho
    have hu := slice_und (hT t i hi) hk
    have hsz := (hT e ie hie).sizeOf w
    obtain ⟨inf, z0, i1, i4, i2, i3, hzs, hz⟩ := zeros_reps (E := E) (w := w) hT hie
    have hxv := rep_nil (hs.opd hx)
    obtain ⟨u, hu'⟩ : ∃ u, a.eval y = u := ⟨_, rfl⟩
    have hr := hs.opd hy
    rw [hu'] at hr
    cases hr with
    | d _ _ hr =>
    cases hr with
    | list _ A c f q1 q2 q3 q4 q5 =>
    have hrun : (Builtin.append_ #[t, t] o.type #[.slice none 0 0, .slice A 0 c]).run P w = .ok (.slice none 0 0) w := by
      cases A with
      | none => simp [Builtin.append_, run_underlying hu, sizeOf, typeInfo, i1, Builtin.lenOf, Builtin.firstCells]
      | some ad =>
        have hfc := run_firstCells_some (P := P) w inf.size 0 ad 0 c [] (by simp) (by simp)
        simp [Builtin.append_, run_underlying hu, sizeOf, typeInfo, i1, Builtin.lenOf, hfc]
    refine oper_in (fun c e => by rw [ho] at e; cases e) ?_
    unfold Oper.wp
    have he : (execOp a.eval o).run P w = .ok (.value (.slice none 0 0)) w := by
      simp only [execOp, ho, resolve, invoke, builtin, Sem.run_bind, Sem.run_pure, Result.andThen_ok, List.map_toArray, List.map_cons, List.map_nil, hxv, hu', List.length_nil, hrun]
    rw [he]
    exact hK n _ E _ w ⟨rfl, rfl⟩ (hs.put hd .nilS), fun n' s' ⟨e1, e2⟩ => by rw [e1, e2]; exact h⟩
end Go.Proofs.Ytgiomfamlbmpcaa.Eng

noncomputable section
namespace Go.Proofs.Ytgiomfamlbmpcaa.Eng
open Go.RowKit
set_option maxRecDepth 100000 in
set_option maxHeartbeats 8000000 in
theorem grow_w (k : Nat) (hk : k ≤ 1000) (n : Nat) (m : Mem) : CWp Try.prog 83 [.nilS, .d (iD (k : Int))] n m fun y n' m' => n ≤ n' ∧ (∀ j, j < n → m' j = m j) ∧ ((k = 0 ∧ y = .nilS) ∨ (0 < k ∧ ∃ id, n ≤ id ∧ id < n' ∧ y = .own id 0 3 ∧ m' id = some (.row 54 3 [] false))) := by
  have w1 : IntKind.i64.wrap (k : Int) = (k : Int) := wrap64_in (by omega)
  have hn : ¬ (k : Int) < 0 := by omega
  have w0 : IntKind.i64.wrap 0 = 0 := wrap64_in (by omega)
  refine cwpK tabOk Try.func83 rfl rfl (show 2 ≤ _ by decide) rfl fun _ => ?_; simp only [Try.ntmps83]
  repeat (first | (with_reducible first | refine AWi.seqK fun _ => ?_ | refine AWi.blockK fun _ => ?_ | refine KI.go ?_) | (refine AWi.condK fun _ _ => ?_; simp [-getElem?_pos, z0, z1, z2, z0]) | ((first | refine AWi.ret ?_ | refine AWi.skip ?_ | refine AWi.exit ?_); try simp only [thenP]) | (with_reducible refine BB.go ?_; simp only [blockP, thenP, reduceIte]))
  refine AWi.region tabOk ?_
  simp [-getElem?_pos, z0, z1, z2]
  repeat (first | (with_reducible first | refine AWi.seqK fun _ => ?_ | refine AWi.blockK fun _ => ?_ | refine KI.go ?_) | (refine AWi.condK fun _ _ => ?_; simp [-getElem?_pos, z0, z1, z2, z0]) | ((first | refine AWi.ret ?_ | refine AWi.skip ?_ | refine AWi.exit ?_); try simp only [thenP]) | (with_reducible refine BB.go ?_; simp only [blockP, thenP, reduceIte]))
  refine AWi.region tabOk ?_
  simp [-getElem?_pos, z0, z1, z2, hn]
  repeat (first | (with_reducible first | refine AWi.seqK fun _ => ?_ | refine AWi.blockK fun _ => ?_ | refine KI.go ?_) | (refine AWi.condK fun _ _ => ?_; simp [-getElem?_pos, z0, z1, z2, z0]) | ((first | refine AWi.ret ?_ | refine AWi.skip ?_ | refine AWi.exit ?_); try simp only [thenP]) | (with_reducible refine BB.go ?_; simp only [blockP, thenP, reduceIte]))
  refine AWi.regionS ?_
  iterate 2 (with_reducible refine ExecS.auto tabOk ?_; simp [-getElem?_pos, z0, z1, z2, z0])
  refine ExecS.capNil tabOk rfl rfl rfl rfl rfl (TB22) rfl (by simp [-getElem?_pos, z0, z1, z2]) ?_
  iterate 5 (with_reducible refine ExecS.auto tabOk ?_; simp [-getElem?_pos, z0, z1, z2, w0, w1, Int.sub_zero])
  simp only [ExecS]
  repeat (first | (with_reducible first | refine AWi.seqK fun _ => ?_ | refine AWi.blockK fun _ => ?_ | refine KI.go ?_) | (refine AWi.condK fun _ _ => ?_; simp [-getElem?_pos, z0, z1, z2, z0]) | ((first | refine AWi.ret ?_ | refine AWi.skip ?_ | refine AWi.exit ?_); try simp only [thenP]) | (with_reducible refine BB.go ?_; simp only [blockP, thenP, reduceIte]))
  refine AWi.region tabOk ?_
  simp [-getElem?_pos, z0, z1, z2]
  by_cases hk0 : 0 < k
  · simp [hk0]
    repeat (first | (with_reducible first | refine AWi.seqK fun _ => ?_ | refine AWi.blockK fun _ => ?_ | refine KI.go ?_) | (refine AWi.condK fun _ _ => ?_; simp [-getElem?_pos, z0, z1, z2, hk0]) | ((first | refine AWi.ret ?_ | refine AWi.skip ?_ | refine AWi.exit ?_); try simp only [thenP]) | (with_reducible refine BB.go ?_; simp only [blockP, thenP, reduceIte]))
    refine AWi.regionS ?_
    iterate 2 (with_reducible refine ExecS.auto tabOk ?_; simp [-getElem?_pos, z0, z1, z2, z0])
    refine ExecS.capNil tabOk rfl rfl rfl rfl rfl (TB22) rfl (by simp [-getElem?_pos, z0, z1, z2]) ?_
    refine ExecS.sliceNil tabOk (kd := .i64) rfl rfl (TB22) rfl (TB54) (by simp [-getElem?_pos, z0, z1, z2]) (by simp [-getElem?_pos, z0, z1, z2]) ?_
    (with_reducible refine ExecS.auto tabOk ?_; simp [-getElem?_pos, z0, z1, z2, z0])
    refine ExecS.appendZ tabOk (k := k) (kd := .i64) rfl rfl rfl rfl rfl (TB22) rfl (TB3) rfl (TB54) (by simp [-getElem?_pos, z0, z1, z2]) (by simp [-getElem?_pos, z0, z1, z2]) hk0 (fitsB_small (by omega) (by simp)) ?_
    iterate 2 (with_reducible refine ExecS.auto tabOk ?_; simp [-getElem?_pos, z0, z1, z2, z0])
    refine ExecS.cut0 tabOk (id := n + 1 + 1 + 1 + 1 + 1 + 1 + 1 + 1 + 1 + 1 + 1 + 1 + 1 + 1 + 1) (k := k) (z := 3) (kd := .i64) rfl rfl (TB22) rfl (TB54) (by simp [-getElem?_pos, z0, z1, z2]) (by simp [-getElem?_pos, z0, z1, z2]) ?_
    (with_reducible refine ExecS.auto tabOk ?_; simp [-getElem?_pos, z0, z1, z2, z0])
    simp only [ExecS]
    repeat (first | (with_reducible first | refine AWi.seqK fun _ => ?_ | refine AWi.blockK fun _ => ?_ | refine KI.go ?_) | ((first | refine AWi.region tabOk ?_ | refine AWi.condK fun _ _ => ?_); simp [-getElem?_pos, z0, z1, z2, z0]) | ((first | refine AWi.ret ?_ | refine AWi.skip ?_ | refine AWi.exit ?_); try simp only [thenP]) | (with_reducible refine BB.go ?_; simp only [blockP, thenP, reduceIte]))
    exact RI.ret rfl ⟨by omega, fun j hj => by simp [show ¬ j = n + 1 + 1 + 1 + 1 + 1 + 1 + 1 + 1 + 1 + 1 + 1 + 1 + 1 + 1 + 1 by omega], .inr ⟨hk0, n + 1 + 1 + 1 + 1 + 1 + 1 + 1 + 1 + 1 + 1 + 1 + 1 + 1 + 1 + 1, by omega, by omega, rfl, by simp⟩⟩
  · simp [hk0]
    repeat (first | (with_reducible first | refine AWi.seqK fun _ => ?_ | refine AWi.blockK fun _ => ?_ | refine KI.go ?_) | ((first | refine AWi.region tabOk ?_ | refine AWi.condK fun _ _ => ?_); simp [-getElem?_pos, z0, z1, z2, hk0]) | ((first | refine AWi.ret ?_ | refine AWi.skip ?_ | refine AWi.exit ?_); try simp only [thenP]) | (with_reducible refine BB.go ?_; simp only [blockP, thenP, reduceIte]))
    exact RI.ret rfl ⟨by omega, fun j hj => rfl, .inl ⟨by omega, rfl⟩⟩
def sumK (a b : Nat) : Nat → Nat
  | 0 => 0
  | 1 => a
  | _ => a + b
def partK (l1 l2 : List HS) : Nat → List HS
  | 0 => []
  | 1 => l1
  | _ => l1 ++ l2
set_option maxRecDepth 100000 in
set_option maxHeartbeats 8000000 in
theorem concat_w (l1 l2 : List HS) (h1 : l1.length ≤ 100) (h2 : l2.length ≤ 100) (ida n : Nat) (m : Mem) {z : Bool} (hid : ida < n) (hm : m ida = some (.row 22 1 [[boxD l1], [boxD l2]] z)) : CWp Try.prog 67 [.own ida 2 1] n m fun y n' m' => n ≤ n' ∧ (∀ j, j < n → m' j = m j) ∧ ((l1 ++ l2 = [] ∧ y = .nilS) ∨ 0 < (l1 ++ l2).length ∧ ∃ id, n ≤ id ∧ id < n' ∧ y = .own id (l1 ++ l2).length 3 ∧ m' id = some (.row 54 3 (hsRows (l1 ++ l2)) false)) := by
  refine cwpK tabOk Try.func67 rfl rfl (show 1 ≤ _ by decide) rfl fun _ => ?_; simp only [Try.ntmps67]
  repeat (first | (with_reducible first | refine AWi.seqK fun _ => ?_ | refine AWi.blockK fun _ => ?_ | refine KI.go ?_) | ((first | refine AWi.region tabOk ?_ | refine AWi.condK fun _ _ => ?_); simp [-getElem?_pos, z0, z1, z2, z0]) | ((first | refine AWi.ret ?_ | refine AWi.skip ?_ | refine AWi.exit ?_); try simp only [thenP]) | (with_reducible refine BB.go ?_; simp only [blockP, thenP, reduceIte]))
  refine AWi.loopK (fun (k : Nat) n1 s => n ≤ n1 ∧ s.slots 0 = .own ida 2 1 ∧ s.slots 9 = .own ida 2 1 ∧ s.slots 10 = .d (iD 2) ∧ s.slots 11 = .d (iD k) ∧ s.slots 3 = .d (iD (sumK l1.length l2.length k : Nat)) ∧ (∀ j, j < n → s.mem j = m j) ∧ k ≤ 2) (fun k => 2 - k) 0 ?_ ?_
  · exact ⟨by omega, by simp, by simp, by simp [iD], by simp [iD], by simp [iD, sumK], fun j hj => by simp, by omega⟩
  rintro k n1 s ⟨hle, s0, s9, s10, s11, s3, low, hk⟩ kk
  have ma := (low ida hid).trans hm
  have hz1 : (∀ r : List Dat, r ∈ hsRows l1 → r.length = 3) = True := eq_true fun r hr => by obtain ⟨t, _, rfl⟩ := List.mem_map.1 hr; rfl
  have hz2 : (∀ r : List Dat, r ∈ hsRows l2 → r.length = 3) = True := eq_true fun r hr => by obtain ⟨t, _, rfl⟩ := List.mem_map.1 hr; rfl
  have hl1 : (hsRows l1).length = l1.length := by simp
  have hl2 : (hsRows l2).length = l2.length := by simp
  by_cases hlt : k < 2
  · rcases k with _ | _ | k
    · have w1 : IntKind.i64.wrap (l1.length : Int) = l1.length := wrap64_in (by omega)
      have hn : ¬ (l1.length : Int) < 0 := by omega
      have w2 : IntKind.i64.wrap 1 = 1 := wrap64_in (by omega)
      simp only [sumK] at s3
      repeat (first | (with_reducible first | refine AWi.seqK fun _ => ?_ | refine AWi.blockK fun _ => ?_ | refine KI.go ?_) | ((first | refine AWi.region tabOk ?_ | refine AWi.condK fun _ _ => ?_); simp [-getElem?_pos, z0, z1, z2, s0, s9, s10, s11, s3, ma, hl1, w1, hn, w2]) | ((first | refine AWi.ret ?_ | refine AWi.skip ?_ | refine AWi.exit ?_); try simp only [thenP]) | (with_reducible refine BB.go ?_; simp only [blockP, thenP, reduceIte]))
      refine LI.go 1 ⟨by omega, by simp [s0], by simp [s9], by simp [s10], by simp [iD], by simp [iD, sumK], low, by omega⟩ (by omega)
    · have w1 : IntKind.i64.wrap ((l1.length : Int) + l2.length) = (l1.length : Int) + l2.length := wrap64_in (by omega)
      have hn : ¬ (l1.length : Int) + l2.length < 0 := by omega
      have w2 : IntKind.i64.wrap 2 = 2 := wrap64_in (by omega)
      simp only [sumK] at s3
      repeat (first | (with_reducible first | refine AWi.seqK fun _ => ?_ | refine AWi.blockK fun _ => ?_ | refine KI.go ?_) | ((first | refine AWi.region tabOk ?_ | refine AWi.condK fun _ _ => ?_); simp [-getElem?_pos, z0, z1, z2, s0, s9, s10, s11, s3, ma, hl2, w1, hn, w2]) | ((first | refine AWi.ret ?_ | refine AWi.skip ?_ | refine AWi.exit ?_); try simp only [thenP]) | (with_reducible refine BB.go ?_; simp only [blockP, thenP, reduceIte]))
      refine LI.go 2 ⟨by omega, by simp [s0], by simp [s9], by simp [s10], by simp [iD], by simp [iD, sumK], low, by omega⟩ (by omega)
    · omega
  · obtain rfl : k = 2 := by omega
    repeat (first | (with_reducible first | refine AWi.seqK fun _ => ?_ | refine AWi.blockK fun _ => ?_ | refine KI.go ?_) | ((first | refine AWi.region tabOk ?_ | refine AWi.condK fun _ _ => ?_); simp [-getElem?_pos, z0, z1, z2, s0, s9, s10, s11, s3]) | ((first | refine AWi.ret ?_ | refine AWi.skip ?_ | refine AWi.exit ?_); try simp only [thenP]) | (with_reducible refine BB.go ?_; simp only [blockP, thenP, reduceIte]))
    refine ExecI.callC (grow_w (sumK l1.length l2.length 2) (by simp only [sumK]; omega) _ _) rfl (by simp [calleeS, evList]) ?_
    rintro y n2 m2 ⟨hn2, hm2, hy⟩
    simp [-getElem?_pos, z0, z1, z2]
    have low2 : ∀ j, j < n → m2 j = m j := fun j hj => (hm2 j (by omega)).trans (low j hj)
    have ma2 := (low2 ida hid).trans hm
    have hsum : sumK l1.length l2.length 2 = (l1 ++ l2).length := by simp [sumK]
    rw [hsum] at hy
    repeat (first | (with_reducible first | refine AWi.seqK fun _ => ?_ | refine AWi.blockK fun _ => ?_ | refine KI.go ?_) | ((first | refine AWi.region tabOk ?_ | refine AWi.condK fun _ _ => ?_); simp [-getElem?_pos, z0, z1, z2, s0]) | ((first | refine AWi.ret ?_ | refine AWi.skip ?_ | refine AWi.exit ?_); try simp only [thenP]) | (with_reducible refine BB.go ?_; simp only [blockP, thenP, reduceIte]))
    refine AWi.loopK (fun (k : Nat) n1 s => n2 ≤ n1 ∧ s.slots 25 = .own ida 2 1 ∧ s.slots 26 = .d (iD 2) ∧ s.slots 27 = .d (iD k) ∧ (∀ j, j < n → s.mem j = m j) ∧ k ≤ 2 ∧ ((l1 ++ l2 = [] ∧ s.slots 6 = .nilS) ∨ 0 < (l1 ++ l2).length ∧ ∃ id, n ≤ id ∧ id < n1 ∧ s.slots 6 = .own id (partK l1 l2 k).length 3 ∧ s.mem id = some (.row 54 3 (hsRows (partK l1 l2 k)) false))) (fun k => 2 - k) 0 ?_ ?_
    · refine ⟨by omega, by simp, by simp [iD], by simp [iD], fun j hj => low2 j hj, by omega, ?_⟩
      rcases hy with ⟨h0, rfl⟩ | ⟨h0, id, i1, i2, rfl, i3⟩
      · exact .inl ⟨List.length_eq_zero_iff.1 h0, by simp⟩
      · exact .inr ⟨h0, id, by omega, by omega, by simp [partK], i3⟩
    have fb : fitsB (l1.length) 24 = true := fitsB_small (by omega) (by omega)
    have fb2 : fitsB (l1.length + l2.length) 24 = true := fitsB_small (by omega) (by omega)
    rintro k n3 s3 ⟨hle3, t25, t26, t27, low3, hk3, hq⟩ kk3
    have ma3 := (low3 ida hid).trans hm
    by_cases hlt3 : k < 2
    · rcases k with _ | _ | k
      · have w2 : IntKind.i64.wrap 1 = 1 := wrap64_in (by omega)
        repeat (first | (with_reducible first | refine AWi.seqK fun _ => ?_ | refine AWi.blockK fun _ => ?_ | refine KI.go ?_) | (refine AWi.condK fun _ _ => ?_; simp [-getElem?_pos, z0, z1, z2, z0]) | ((first | refine AWi.ret ?_ | refine AWi.skip ?_ | refine AWi.exit ?_); try simp only [thenP]) | (with_reducible refine BB.go ?_; simp only [blockP, thenP, reduceIte]))
        refine AWi.region tabOk ?_
        simp [-getElem?_pos, z0, z1, z2, t26, t27]
        repeat (first | (with_reducible first | refine AWi.seqK fun _ => ?_ | refine AWi.blockK fun _ => ?_ | refine KI.go ?_) | (refine AWi.condK fun _ _ => ?_; simp [-getElem?_pos, z0, z1, z2, z0]) | ((first | refine AWi.ret ?_ | refine AWi.skip ?_ | refine AWi.exit ?_); try simp only [thenP]) | (with_reducible refine BB.go ?_; simp only [blockP, thenP, reduceIte]))
        refine AWi.region tabOk ?_
        simp [-getElem?_pos, z0, z1, z2, t25, t27, ma3]
        repeat (first | (with_reducible first | refine AWi.seqK fun _ => ?_ | refine AWi.blockK fun _ => ?_ | refine KI.go ?_) | (refine AWi.condK fun _ _ => ?_; simp [-getElem?_pos, z0, z1, z2, z0]) | ((first | refine AWi.ret ?_ | refine AWi.skip ?_ | refine AWi.exit ?_); try simp only [thenP]) | (with_reducible refine BB.go ?_; simp only [blockP, thenP, reduceIte]))
        rcases hq with ⟨q1, q2⟩ | ⟨q0, id, q1, q2, q3, q4⟩
        · obtain ⟨rfl, rfl⟩ := List.append_eq_nil_iff.1 q1
          refine AWi.regionS ?_
          iterate 2 (with_reducible refine ExecS.auto tabOk ?_; simp [-getElem?_pos, z0, z1, z2, q2])
          refine ExecS.append0 tabOk rfl rfl rfl rfl rfl (TB22) rfl (TB54) (by simp [-getElem?_pos, z0, z1, z2]) (by simp [-getElem?_pos, z0, z1, z2]) ?_
          (with_reducible refine ExecS.auto tabOk ?_; simp [-getElem?_pos, z0, z1, z2, z0])
          simp only [ExecS]
          repeat (first | (with_reducible first | refine AWi.seqK fun _ => ?_ | refine AWi.blockK fun _ => ?_ | refine KI.go ?_) | ((first | refine AWi.region tabOk ?_ | refine AWi.condK fun _ _ => ?_); simp [-getElem?_pos, z0, z1, z2, t27, w2]) | ((first | refine AWi.ret ?_ | refine AWi.skip ?_ | refine AWi.exit ?_); try simp only [thenP]) | (with_reducible refine BB.go ?_; simp only [blockP, thenP, reduceIte]))
          refine LI.go 1 ⟨by omega, by simp [t25], by simp [t26], by simp [iD], fun j hj => low3 j hj, by omega, .inl ⟨rfl, by simp⟩⟩ (by omega)
        · refine AWi.region tabOk ?_
          simp [-getElem?_pos, z0, z1, z2, q3, q4, partK, fb, fb2, hz1, hz2, hl1, hl2]
          repeat (first | (with_reducible first | refine AWi.seqK fun _ => ?_ | refine AWi.blockK fun _ => ?_ | refine KI.go ?_) | ((first | refine AWi.region tabOk ?_ | refine AWi.condK fun _ _ => ?_); simp [-getElem?_pos, z0, z1, z2, t27, w2]) | ((first | refine AWi.ret ?_ | refine AWi.skip ?_ | refine AWi.exit ?_); try simp only [thenP]) | (with_reducible refine BB.go ?_; simp only [blockP, thenP, reduceIte]))
          refine LI.go 1 ⟨by omega, by simp [t25], by simp [t26], by simp [iD], fun j hj => by simp [show ¬ j = n3 + 1 + 1 + 1 + 1 + 1 + 1 by omega, show ¬ j = id by omega, low3 j hj], by omega, .inr ⟨q0, n3 + 1 + 1 + 1 + 1 + 1 + 1, by omega, by omega, by simp [partK], by simp [partK]⟩⟩ (by omega)
      · have w2 : IntKind.i64.wrap 2 = 2 := wrap64_in (by omega)
        repeat (first | (with_reducible first | refine AWi.seqK fun _ => ?_ | refine AWi.blockK fun _ => ?_ | refine KI.go ?_) | (refine AWi.condK fun _ _ => ?_; simp [-getElem?_pos, z0, z1, z2, z0]) | ((first | refine AWi.ret ?_ | refine AWi.skip ?_ | refine AWi.exit ?_); try simp only [thenP]) | (with_reducible refine BB.go ?_; simp only [blockP, thenP, reduceIte]))
        refine AWi.region tabOk ?_
        simp [-getElem?_pos, z0, z1, z2, t26, t27]
        repeat (first | (with_reducible first | refine AWi.seqK fun _ => ?_ | refine AWi.blockK fun _ => ?_ | refine KI.go ?_) | (refine AWi.condK fun _ _ => ?_; simp [-getElem?_pos, z0, z1, z2, z0]) | ((first | refine AWi.ret ?_ | refine AWi.skip ?_ | refine AWi.exit ?_); try simp only [thenP]) | (with_reducible refine BB.go ?_; simp only [blockP, thenP, reduceIte]))
        refine AWi.region tabOk ?_
        simp [-getElem?_pos, z0, z1, z2, t25, t27, ma3]
        repeat (first | (with_reducible first | refine AWi.seqK fun _ => ?_ | refine AWi.blockK fun _ => ?_ | refine KI.go ?_) | (refine AWi.condK fun _ _ => ?_; simp [-getElem?_pos, z0, z1, z2, z0]) | ((first | refine AWi.ret ?_ | refine AWi.skip ?_ | refine AWi.exit ?_); try simp only [thenP]) | (with_reducible refine BB.go ?_; simp only [blockP, thenP, reduceIte]))
        rcases hq with ⟨q1, q2⟩ | ⟨q0, id, q1, q2, q3, q4⟩
        · obtain ⟨rfl, rfl⟩ := List.append_eq_nil_iff.1 q1
          refine AWi.regionS ?_
          iterate 2 (with_reducible refine ExecS.auto tabOk ?_; simp [-getElem?_pos, z0, z1, z2, q2])
          refine ExecS.append0 tabOk rfl rfl rfl rfl rfl (TB22) rfl (TB54) (by simp [-getElem?_pos, z0, z1, z2]) (by simp [-getElem?_pos, z0, z1, z2]) ?_
          (with_reducible refine ExecS.auto tabOk ?_; simp [-getElem?_pos, z0, z1, z2, z0])
          simp only [ExecS]
          repeat (first | (with_reducible first | refine AWi.seqK fun _ => ?_ | refine AWi.blockK fun _ => ?_ | refine KI.go ?_) | ((first | refine AWi.region tabOk ?_ | refine AWi.condK fun _ _ => ?_); simp [-getElem?_pos, z0, z1, z2, t27, w2]) | ((first | refine AWi.ret ?_ | refine AWi.skip ?_ | refine AWi.exit ?_); try simp only [thenP]) | (with_reducible refine BB.go ?_; simp only [blockP, thenP, reduceIte]))
          refine LI.go 2 ⟨by omega, by simp [t25], by simp [t26], by simp [iD], fun j hj => low3 j hj, by omega, .inl ⟨rfl, by simp⟩⟩ (by omega)
        · refine AWi.region tabOk ?_
          simp [-getElem?_pos, z0, z1, z2, q3, q4, partK, fb, fb2, hz1, hz2, hl1, hl2]
          repeat (first | (with_reducible first | refine AWi.seqK fun _ => ?_ | refine AWi.blockK fun _ => ?_ | refine KI.go ?_) | ((first | refine AWi.region tabOk ?_ | refine AWi.condK fun _ _ => ?_); simp [-getElem?_pos, z0, z1, z2, t27, w2]) | ((first | refine AWi.ret ?_ | refine AWi.skip ?_ | refine AWi.exit ?_); try simp only [thenP]) | (with_reducible refine BB.go ?_; simp only [blockP, thenP, reduceIte]))
          refine LI.go 2 ⟨by omega, by simp [t25], by simp [t26], by simp [iD], fun j hj => by simp [show ¬ j = n3 + 1 + 1 + 1 + 1 + 1 + 1 by omega, show ¬ j = id by omega, low3 j hj], by omega, .inr ⟨q0, n3 + 1 + 1 + 1 + 1 + 1 + 1, by omega, by omega, by simp [partK], by simp [partK, hsRows]⟩⟩ (by omega)
      · omega
    · obtain rfl : k = 2 := by omega
      rcases hq with ⟨q1, q2⟩ | ⟨q0, id, q1, q2, q3, q4⟩
      · repeat (first | (with_reducible first | refine AWi.seqK fun _ => ?_ | refine AWi.blockK fun _ => ?_ | refine KI.go ?_) | ((first | refine AWi.region tabOk ?_ | refine AWi.condK fun _ _ => ?_); simp [-getElem?_pos, z0, z1, z2, t25, t26, t27, q2]) | ((first | refine AWi.ret ?_ | refine AWi.skip ?_ | refine AWi.exit ?_); try simp only [thenP]) | (with_reducible refine BB.go ?_; simp only [blockP, thenP, reduceIte]))
        exact RI.ret rfl ⟨by omega, low3, .inl ⟨q1, rfl⟩⟩
      · repeat (first | (with_reducible first | refine AWi.seqK fun _ => ?_ | refine AWi.blockK fun _ => ?_ | refine KI.go ?_) | ((first | refine AWi.region tabOk ?_ | refine AWi.condK fun _ _ => ?_); simp [-getElem?_pos, z0, z1, z2, t25, t26, t27, q3]) | ((first | refine AWi.ret ?_ | refine AWi.skip ?_ | refine AWi.exit ?_); try simp only [thenP]) | (with_reducible refine BB.go ?_; simp only [blockP, thenP, reduceIte]))
        exact RI.ret rfl ⟨by omega, low3, .inr ⟨q0, id, q1, by omega, rfl, q4⟩⟩
end Go.Proofs.Ytgiomfamlbmpcaa.Eng

noncomputable section
namespace Go.Proofs.Ytgiomfamlbmpcaa.Eng
open Go.RowKit
theorem concat_r (l1 l2 : List HS) (h1 : l1.length ≤ 100) (h2 : l2.length ≤ 100) (ida : Nat) (m : Mem) {z : Bool} (hm : m ida = some (.row 22 1 [[boxD l1], [boxD l2]] z)) : RCall Try.prog 67 [.own ida 2 1] (boxD (l1 ++ l2)) m := by
  by_cases h : l1 ++ l2 = []
  · rw [h]
    refine RCall.of4 (n0 := ida + 1) fun n hn => (concat_w l1 l2 h1 h2 ida n m (by omega) hm).mono ?_
    rintro y n' m' ⟨q1, q2, ⟨q3, rfl⟩ | ⟨q0, id, q3, q4, rfl, q5⟩⟩
    · exact ⟨rfl, q2⟩
    · rw [h] at q0
      exact absurd q0 (by simp)
  · refine RCall.ofOwn (n0 := ida + 1) fun n hn => (concat_w l1 l2 h1 h2 ida n m (by omega) hm).mono ?_
    rintro y n' m' ⟨q1, q2, ⟨q3, rfl⟩ | ⟨q0, id, q3, q4, rfl, q5⟩⟩
    · exact absurd q3 h
    · exact ⟨⟨id, 3, _, q3, by rw [hsRows_len], q5⟩, q2⟩
def woS (l : List HS) (i : Nat) : List HS := l.take i ++ l.drop (i + 1)
def spareL (l : List HS) (e g : HE) (k i : Nat) : List Int := ((List.range i).filter fun j => decide (needN (woS l j) g e = some k)).map fun j : Nat => (j : Int)
def spareO (l : List HS) (e g : HE) : List Int := if chkErr l [e, g] = 0 then (match needN l g e with
  | some k => spareL l e g k l.length
  | none => []) else []
theorem woS_ok {l : List HS} (h : l.all okS = true) (i : Nat) : (woS l i).all okS = true := by
  rw [List.all_eq_true] at h ⊢
  intro s hs
  rcases List.mem_append.1 hs with hs | hs
  · exact h s (List.mem_of_mem_take hs)
  · exact h s (List.mem_of_mem_drop hs)
theorem woS_len (l : List HS) (i : Nat) : (woS l i).length ≤ l.length := by
  rw [woS, List.length_append, List.length_take, List.length_drop]
  omega
theorem hsRows_take (l : List HS) (i : Nat) : (hsRows l).take i = hsRows (l.take i) := by simp [hsRows]
theorem hsRows_drop (l : List HS) (i : Nat) : (hsRows l).drop i = hsRows (l.drop i) := by simp [hsRows]
set_option maxRecDepth 100000 in
set_option maxHeartbeats 8000000 in
theorem spare_ok (l : List HS) (e g : HE) (n : Nat) (m : Mem) (h0 : chkErr l [e, g] = 0) {k : Nat} (hneed : needN l g e = some k) :
    CWp Try.prog 36 [.d (boxD l), .d (edgD e), .d (edgD g)] n m fun y _ m' => toD4 y = some (.tup [intL (spareL l e g k l.length), iD 0]) ∧ ∀ j, j < n → m' j = m j := by
  obtain ⟨hb, hes⟩ := chkOk h0
  have ge := goodE (e := e) (by simp at hes; exact hes.1)
  have gg := goodE (e := g) (by simp at hes; exact hes.2)
  obtain ⟨hk1, hk2⟩ := rows_take hneed
  have hn6 := hb.n2
  refine cwpK tabOk Try.func36 rfl rfl (show 3 ≤ _ by decide) rfl fun _ => ?_; simp only [Try.ntmps36]
  repeat (first | (with_reducible first | refine AWi.seqK fun _ => ?_ | refine AWi.blockK fun _ => ?_ | refine KI.go ?_) | ((first | refine AWi.region tabOk ?_ | refine AWi.condK fun _ _ => ?_); simp [-getElem?_pos, z0, z1, z2, z0]) | ((first | refine AWi.ret ?_ | refine AWi.skip ?_ | refine AWi.exit ?_); try simp only [thenP]) | (with_reducible refine BB.go ?_; simp only [blockP, thenP, reduceIte]))
  refine ExecI.callC (checkReach_w l e g _ _) rfl (by simp [calleeS, evList]) ?_
  rintro y n1 m1 ⟨hn1, hm1, hy⟩
  have hlow : ∀ j, j < n → m1 j = m j := fun j hj => (hm1 j (by omega)).trans (by (try dsimp only); repeat (first | rw [setMem_lt (by omega)] | rw [putN_lt (by omega)]))
  have he : m1 n = some (.box 24 [.d (iD e.depth), .d (iD e.burr)] false) := (hm1 n (by omega)).trans (by simp)
  have hg : m1 (n + 1) = some (.box 24 [.d (iD g.depth), .d (iD g.burr)] false) := (hm1 (n + 1) (by omega)).trans (by simp)
  rw [if_pos h0, hneed] at hy
  obtain ⟨c, rfl, x, q1, q2, q3, q4⟩ := hy
  rw [RowsV, hk1] at q4
  have hlx : lenSV x = some k := by
    rcases q4 with ⟨h, rfl⟩ | ⟨id, -, -, rfl, -⟩
    · have := congrArg List.length h
      rw [hk1] at this
      rw [this]; rfl
    · rfl
  have hll : (hsRows l).length = l.length := hsRows_len l
  simp [-getElem?_pos, z0, z1, z2]
  repeat (first | (with_reducible first | refine AWi.seqK fun _ => ?_ | refine AWi.blockK fun _ => ?_ | refine KI.go ?_) | ((first | refine AWi.region tabOk ?_ | refine AWi.condK fun _ _ => ?_); simp [-getElem?_pos, z0, z1, z2, q3, hll]) | ((first | refine AWi.ret ?_ | refine AWi.skip ?_ | refine AWi.exit ?_); try simp only [thenP]) | (with_reducible refine BB.go ?_; simp only [blockP, thenP, reduceIte]))
  refine AWi.loopK (fun (i : Nat) n2 s => n1 ≤ n2 ∧ s.slots 4 = .ptr n 0 0 ∧ s.slots 5 = .ptr (n + 1) 0 0 ∧ s.slots 8 = .ptr c 0 0 ∧ s.slots 10 = listV (spareL l e g k i) ∧ s.slots 30 = .d (iD l.length) ∧ s.slots 31 = .d (iD i) ∧ (∀ j, j < n1 → s.mem j = m1 j) ∧ i ≤ l.length) (fun i => l.length - i) 0 ?_ ?_
  · exact ⟨by omega, by simp, by simp, by simp, by simp [spareL, listV], by simp [iD], by simp [iD], fun j hj => rfl, by omega⟩
  rintro i n2 s ⟨hle, s4, s5, s8, s10, s30, s31, low, hi⟩ kk
  have hlen : (spareL l e g k i).length ≤ 6 := by
    rw [spareL, List.length_map]
    exact Nat.le_trans (List.length_filter_le _ _) (by simp; omega)
  by_cases hlt : i < l.length
  · have hii : (i : Int) < (l.length : Int) := by omega
    have w1 : IntKind.i64.wrap ((i : Int) + 1) = (i : Int) + 1 := wrap64_in (by omega)
    have hi0 : (0 : Int) ≤ (i : Int) + 1 := by omega
    have hil : (i : Int) + 1 ≤ (l.length : Int) := by omega
    have hil2 : (i : Int) ≤ (l.length : Int) := by omega
    have mc : s.mem c = some (.box 81 [.d (boxD l), x] false) := (low c (by omega)).trans q3
    have c1 : c < n2 + 1 + 1 := by omega
    have hz : (∀ r : List Dat, r ∈ hsRows l → r.length = 3) = True := eq_true fun r hr => by obtain ⟨t, _, rfl⟩ := List.mem_map.1 hr; rfl
    have ht1 := hsRows_take l i
    have ht2 := hsRows_drop l (i + 1)
    repeat (first | (with_reducible first | refine AWi.seqK fun _ => ?_ | refine AWi.blockK fun _ => ?_ | refine KI.go ?_) | ((first | refine AWi.region tabOk ?_ | refine AWi.condK fun _ _ => ?_); simp [-getElem?_pos, z0, z1, z2, s31, s30, hii]) | ((first | refine AWi.ret ?_ | refine AWi.skip ?_ | refine AWi.exit ?_); try simp only [thenP]) | (with_reducible refine BB.go ?_; simp only [blockP, thenP, reduceIte]))
    have htt : List.take l.length (hsRows l) = hsRows l := List.take_of_length_le (by omega)
    refine AWi.mono (Q := fun ex n3 s3 => ex = .normal ∧ n3 = n2 + 1 + 1 + 1 + 1 + 1 ∧ s3.slots 4 = .ptr n 0 0 ∧ s3.slots 5 = .ptr (n + 1) 0 0 ∧ s3.slots 8 = .ptr c 0 0 ∧ s3.slots 10 = listV (spareL l e g k i) ∧ s3.slots 11 = .d (iD i) ∧ s3.slots 12 = .ptr (n2 + 1 + 1 + 1 + 1) 0 0 ∧ s3.slots 30 = .d (iD l.length) ∧ s3.slots 31 = .d (iD i) ∧ s3.mem (n2 + 1 + 1 + 1 + 1) = some (.box 65 [.d (boxD (woS l i))] false) ∧ ∀ j, j < n1 → s3.mem j = m1 j) ?_ ?_
    · refine AWi.drawsV mixedH (by kernel_rfl) ?_
      repeat (with_reducible refine ExecV.auto tabOk ?_; simp [-getElem?_pos, z0, z1, z2, kindV, isPure, s8, mc, c1, hz, hll, hii, hil, hil2, hi0, w1, ht1, ht2, htt]; try (refine And.intro (OkV_old (by simp; try omega) (by omega) (by simp [AllAcc])) ?_))
      refine ExecV.ro (x := .d (boxD (woS l i))) (svs := [.own (n2 + 1 + 1 + 1) 2 1]) [n2 + 1 + 1 + 1] (concat_r (l.take i) (l.drop (i + 1)) (by rw [List.length_take]; omega) (by rw [List.length_drop]; omega) (n2 + 1 + 1 + 1) _ (z := false) (by simp)) rfl rfl (by simp [calleeS, evList]) ?_ ?_
      · (refine OkV_last (by simp; try omega) ?_; repeat' (first | exact trivial | refine And.intro (show ordB _ _ _ = true from by kernel_rfl) ?_))
      repeat (with_reducible refine ExecV.auto tabOk ?_; simp [-getElem?_pos, z0, z1, z2, kindV, isPure, z0]; try (refine And.intro (OkV_old (by simp; try omega) (by omega) (by simp [AllAcc])) ?_))
      refine And.intro ?_ ?_
      · (refine OkV_last (by simp; try omega) ?_; repeat' (first | exact trivial | refine And.intro (show ordB _ _ _ = true from by kernel_rfl) ?_))
      unfold ExecV
      refine ⟨rfl, by simp [s4], by simp [s5], by simp [s8], by simp [s10], by simp, by simp, by simp [s30], by simp [s31], by simp, fun j hj => by simp [show ¬ j = n2 + 1 + 1 + 1 + 1 by omega, show ¬ j = n2 + 1 + 1 + 1 by omega, low j hj]⟩
    rintro ex n3 s3 ⟨rfl, hn3, t4, t5, t8, t10, t11, t12, t30, t31, mb, low3⟩
    have he3 := (low3 n (by omega)).trans he
    have hg3 := (low3 (n + 1) (by omega)).trans hg
    have hbx : n2 + 1 + 1 + 1 + 1 < n3 := by omega
    have c2 : n < n3 := by omega
    have c3 : n + 1 < n3 := by omega
    have c4 : n1 ≤ n3 := by omega
    generalize n2 + 1 + 1 + 1 + 1 = bx at *
    simp only [thenP]
    repeat (first | (with_reducible first | refine AWi.seqK fun _ => ?_ | refine AWi.blockK fun _ => ?_ | refine KI.go ?_) | (refine AWi.condK fun _ _ => ?_; simp [-getElem?_pos, z0, z1, z2, z0]) | ((first | refine AWi.ret ?_ | refine AWi.skip ?_ | refine AWi.exit ?_); try simp only [thenP]) | (with_reducible refine BB.go ?_; simp only [blockP, thenP, reduceIte]))
    refine AWi.drawsM mixedH 4 (by kernel_rfl) (by kernel_rfl) (by kernel_rfl) ?_
    simp only [List.take_succ_cons, List.take_zero]
    repeat (with_reducible refine ExecV.auto tabOk ?_; simp [-getElem?_pos, z0, z1, z2, kindV, isPure, t4, t5, t12, mb, he3, hg3, c2, c3, hbx]; try (refine And.intro (OkV_old (by simp; try omega) (by omega) (by simp [AllAcc])) ?_))
    refine ExecV.callP [] (reaches_n g _ _) (by omega) (fun i hi => by cases hi) rfl (by simp [calleeS, evList]) (OkV_old (by simp) (by omega) (by simp [AllAcc])) ?_
    refine ⟨_, stepI_call (by simp [calleeS, evList]) (course_w (woS l i) (woS_ok hb.all i) (Nat.le_trans (woS_len l i) hn6) g gg e ge n3 _ _ (by omega) ⟨false, (if_pos ⟨Nat.le_refl _, by omega⟩).trans (if_pos rfl)⟩), ?_⟩
    rintro n4 s4' ⟨y, m', ⟨hn4, hm4, hy⟩, rfl⟩
    simp only [restO, List.drop_succ_cons, List.drop_zero, List.map_cons, List.map_nil, shiftO]
    have low4 : ∀ j, j < n1 → m' j = m1 j := fun j hj => (hm4 j (by omega)).trans ((putN_lt (by omega)).trans (low3 j hj))
    have mc4 : m' c = some (.box 81 [.d (boxD l), x] false) := (low4 c (by omega)).trans q3
    have hnext : spareL l e g k (i + 1) = if needN (woS l i) g e = some k then spareL l e g k i ++ [(i : Int)] else spareL l e g k i := by
      rw [spareL, List.range_succ, List.filter_append, List.map_append]
      by_cases h : needN (woS l i) g e = some k <;> simp [h, spareL]
    obtain ⟨k2, hneed2⟩ | hneed2 : (∃ k2, needN (woS l i) g e = some k2) ∨ needN (woS l i) g e = none := by
      cases needN (woS l i) g e
      · exact .inr rfl
      · exact .inl ⟨_, rfl⟩
    · rw [hneed2] at hy
      obtain ⟨c5, rfl, x5, p1, p2, p3, p4⟩ := hy
      have hk5 := (rows_take hneed2).1
      rw [RowsV, hk5] at p4
      have hlx5 : lenSV x5 = some k2 := by
        rcases p4 with ⟨h, rfl⟩ | ⟨id, -, -, rfl, -⟩
        · have := congrArg List.length h
          rw [hk5] at this
          rw [this]; rfl
        · rfl
      repeat (with_reducible refine ExecV.auto tabOk ?_; simp [-getElem?_pos, z0, z1, z2, kindV, isPure, z0]; try (refine And.intro (OkV_old (by simp; try omega) (by omega) (by simp [AllAcc])) ?_))
      unfold ExecV
      simp only [thenP]
      repeat (first | (with_reducible first | refine AWi.seqK fun _ => ?_ | refine AWi.blockK fun _ => ?_ | refine KI.go ?_) | (refine AWi.condK fun _ _ => ?_; simp [-getElem?_pos, z0, z1, z2, z0]) | ((first | refine AWi.ret ?_ | refine AWi.skip ?_ | refine AWi.exit ?_); try simp only [thenP]) | (with_reducible refine BB.go ?_; simp only [blockP, thenP, reduceIte]))
      have d1 : c < n4 := by omega
      have d2 : c5 < n4 := by omega
      have hkk : ((k2 : Int) = (k : Int)) = (k2 = k) := by simp [Int.natCast_inj]
      refine AWi.mono (Q := fun ex n5 s5 => ex = .normal ∧ n4 ≤ n5 ∧ s5.slots 4 = .ptr n 0 0 ∧ s5.slots 5 = .ptr (n + 1) 0 0 ∧ s5.slots 8 = .ptr c 0 0 ∧ s5.slots 10 = listV (spareL l e g k i) ∧ s5.slots 11 = .d (iD i) ∧ s5.slots 30 = .d (iD l.length) ∧ s5.slots 31 = .d (iD i) ∧ s5.slots 73 = .d (bD (decide (k2 = k))) ∧ ∀ j, j < n1 → s5.mem j = m1 j) ?_ ?_
      · refine AWi.drawsV mixedH (by kernel_rfl) ?_
        have e4 : ∀ id, id < n1 → id < n4 := fun id h => by omega
        rcases q4 with ⟨-, rfl⟩ | ⟨ix, ix1, ix2, rfl, -⟩ <;> rcases p4 with ⟨-, rfl⟩ | ⟨iy, iy1, iy2, rfl, -⟩ <;> simp only [lenSV, Option.some.injEq] at hlx hlx5 <;> (try subst hlx) <;> (try subst hlx5)
        all_goals
          repeat (with_reducible refine ExecV.auto tabOk ?_; simp [-getElem?_pos, z0, z1, z2, kindV, isPure, t8, mc4, p3, d1, d2]; try (refine And.intro (OkV_old (by simp; try omega) (by omega) (by simp [AllAcc])) ?_))
          unfold ExecV
          try simp only [thenP]
        all_goals
          refine ⟨by omega, by simp [t4], by simp [t5], by simp [t8], by simp [t10], by simp [t11], by simp [t30], by simp [t31], ?_, low4⟩
          simp [Int.natCast_inj, eq_comm]
      rintro ex n5 s5 ⟨rfl, hn5, u4, u5, u8, u10, u11, u30, u31, u73, low5⟩
      simp only [thenP]
      by_cases hkq : k2 = k
      · subst hkq
        rw [if_pos hneed2] at hnext
        rw [decide_eq_true rfl] at u73
        repeat (first | (with_reducible first | refine AWi.seqK fun _ => ?_ | refine AWi.blockK fun _ => ?_ | refine KI.go ?_) | ((first | refine AWi.region tabOk ?_ | refine AWi.condK fun _ _ => ?_); simp [-getElem?_pos, z0, z1, z2, u73, u10, u11]) | ((first | refine AWi.ret ?_ | refine AWi.skip ?_ | refine AWi.exit ?_); try simp only [thenP]) | (with_reducible refine BB.go ?_; simp only [blockP, thenP, reduceIte]))
        refine ExecI.callC ((RCall.ofA4 (grown_c (spareL l e g k2 i) (i : Int) (by omega)) (svs := [listV (spareL l e g k2 i), .d (iD (i : Int))]) (by rw [mapO, listV_toD]; rfl) _).cwp (fun _ _ h => h) (x := .d (intL (spareL l e g k2 i ++ [(i : Int)]))) rfl _) rfl (by simp [calleeS, evList, iD]) ?_
        rintro y n9 m9 ⟨rfl, rfl, rfl⟩
        simp [-getElem?_pos, z0, z1, z2]
        repeat (first | (with_reducible first | refine AWi.seqK fun _ => ?_ | refine AWi.blockK fun _ => ?_ | refine KI.go ?_) | ((first | refine AWi.region tabOk ?_ | refine AWi.condK fun _ _ => ?_); simp [-getElem?_pos, z0, z1, z2, u31, w1]) | ((first | refine AWi.ret ?_ | refine AWi.skip ?_ | refine AWi.exit ?_); try simp only [thenP]) | (with_reducible refine BB.go ?_; simp only [blockP, thenP, reduceIte]))
        refine LI.go (i + 1) ⟨by omega, by simp [u4], by simp [u5], by simp [u8], ?_, by simp [u30], by simp [iD], low5, by omega⟩ (by omega)
        rw [hnext]
        cases spareL l e g k2 i <;> simp [listV]
      · rw [if_neg (by rw [hneed2]; simpa using hkq)] at hnext
        rw [decide_eq_false hkq] at u73
        repeat (first | (with_reducible first | refine AWi.seqK fun _ => ?_ | refine AWi.blockK fun _ => ?_ | refine KI.go ?_) | ((first | refine AWi.region tabOk ?_ | refine AWi.condK fun _ _ => ?_); simp [-getElem?_pos, z0, z1, z2, u73, u31, w1]) | ((first | refine AWi.ret ?_ | refine AWi.skip ?_ | refine AWi.exit ?_); try simp only [thenP]) | (with_reducible refine BB.go ?_; simp only [blockP, thenP, reduceIte]))
        exact LI.go (i + 1) ⟨by omega, by simp [u4], by simp [u5], by simp [u8], by simp [hnext, u10], by simp [u30], by simp [iD], low5, by omega⟩ (by omega)
    · rw [hneed2] at hy
      subst hy
      rw [if_neg (by rw [hneed2]; simp)] at hnext
      repeat (with_reducible refine ExecV.auto tabOk ?_; simp [-getElem?_pos, z0, z1, z2, kindV, isPure, z0]; try (refine And.intro (OkV_old (by simp; try omega) (by omega) (by simp [AllAcc])) ?_))
      unfold ExecV
      simp only [thenP]
      repeat (first | (with_reducible first | refine AWi.seqK fun _ => ?_ | refine AWi.blockK fun _ => ?_ | refine KI.go ?_) | (refine AWi.condK fun _ _ => ?_; simp [-getElem?_pos, z0, z1, z2, z0]) | ((first | refine AWi.ret ?_ | refine AWi.skip ?_ | refine AWi.exit ?_); try simp only [thenP]) | (with_reducible refine BB.go ?_; simp only [blockP, thenP, reduceIte]))
      refine AWi.drawsV mixedH (by kernel_rfl) ?_
      repeat (with_reducible refine ExecV.auto tabOk ?_; simp [-getElem?_pos, z0, z1, z2, kindV, isPure, t8, mc4]; try (refine And.intro (OkV_old (by simp; try omega) (by omega) (by simp [AllAcc])) ?_))
      unfold ExecV
      try simp only [thenP]
      repeat (first | (with_reducible first | refine AWi.seqK fun _ => ?_ | refine AWi.blockK fun _ => ?_ | refine KI.go ?_) | ((first | refine AWi.region tabOk ?_ | refine AWi.condK fun _ _ => ?_); simp [-getElem?_pos, z0, z1, z2, t31, w1]) | ((first | refine AWi.ret ?_ | refine AWi.skip ?_ | refine AWi.exit ?_); try simp only [thenP]) | (with_reducible refine BB.go ?_; simp only [blockP, thenP, reduceIte]))
      exact LI.go (i + 1) ⟨by omega, by simp [t4], by simp [t5], by simp [t8], by simp [hnext, t10], by simp [t30], by simp [iD], low4, by omega⟩ (by omega)
  · obtain rfl : i = l.length := by omega
    repeat (first | (with_reducible first | refine AWi.seqK fun _ => ?_ | refine AWi.blockK fun _ => ?_ | refine KI.go ?_) | ((first | refine AWi.region tabOk ?_ | refine AWi.condK fun _ _ => ?_); simp [-getElem?_pos, z0, z1, z2, s10, s30, s31]) | ((first | refine AWi.ret ?_ | refine AWi.skip ?_ | refine AWi.exit ?_); try simp only [thenP]) | (with_reducible refine BB.go ?_; simp only [blockP, thenP, reduceIte]))
    refine ExecI.callC ((RCall.ofA4 (taken_c (spareL l e g k l.length) (by omega)) (svs := [listV (spareL l e g k l.length)]) (by rw [mapO, listV_toD]; rfl) _).cwp (fun _ _ h => h) (x := .d (intL (spareL l e g k l.length))) rfl _) rfl (by simp [calleeS, evList]) ?_
    rintro y n9 m9 ⟨rfl, rfl, rfl⟩
    simp [-getElem?_pos, z0, z1, z2]
    repeat (first | (with_reducible first | refine AWi.seqK fun _ => ?_ | refine AWi.blockK fun _ => ?_ | refine KI.go ?_) | ((first | refine AWi.region tabOk ?_ | refine AWi.condK fun _ _ => ?_); simp [-getElem?_pos, z0, z1, z2, z0]) | ((first | refine AWi.ret ?_ | refine AWi.skip ?_ | refine AWi.exit ?_); try simp only [thenP]) | (with_reducible refine BB.go ?_; simp only [blockP, thenP, reduceIte]))
    exact RI.ret rfl ⟨rfl, fun j hj => (low j (by omega)).trans (hlow j hj)⟩
set_option maxRecDepth 100000 in
set_option maxHeartbeats 8000000 in
theorem spare_no (l : List HS) (e g : HE) (n : Nat) (m : Mem) (h : reachE l g e ≠ 0) :
    CWp Try.prog 36 [.d (boxD l), .d (edgD e), .d (edgD g)] n m fun y _ m' => toD4 y = some (.tup [.list [], iD (reachE l g e)]) ∧ ∀ j, j < n → m' j = m j := by
  refine cwpK tabOk Try.func36 rfl rfl (show 3 ≤ _ by decide) rfl fun _ => ?_; simp only [Try.ntmps36]
  repeat (first | (with_reducible first | refine AWi.seqK fun _ => ?_ | refine AWi.blockK fun _ => ?_ | refine KI.go ?_) | ((first | refine AWi.region tabOk ?_ | refine AWi.condK fun _ _ => ?_); simp [-getElem?_pos, z0, z1, z2, z0]) | ((first | refine AWi.ret ?_ | refine AWi.skip ?_ | refine AWi.exit ?_); try simp only [thenP]) | (with_reducible refine BB.go ?_; simp only [blockP, thenP, reduceIte]))
  refine ExecI.callC (checkReach_w l e g _ _) rfl (by simp [calleeS, evList]) ?_
  rintro y n1 m1 ⟨hn1, hm1, hy⟩
  have hlow : ∀ j, j < n → m1 j = m j := fun j hj => (hm1 j (by omega)).trans (by (try dsimp only); repeat (first | rw [setMem_lt (by omega)] | rw [putN_lt (by omega)]))
  by_cases h0 : chkErr l [e, g] = 0
  · rw [if_pos h0] at hy
    have hneed : needN l g e = none := by
      cases hn : needN l g e with
      | none => rfl
      | some k => exact absurd (by rw [reachE, if_pos h0, hn]) h
    rw [hneed] at hy
    subst hy
    have hE : reachE l g e = 13 := by rw [reachE, if_pos h0, hneed]
    simp [-getElem?_pos, z0, z1, z2]
    repeat (first | (with_reducible first | refine AWi.seqK fun _ => ?_ | refine AWi.blockK fun _ => ?_ | refine KI.go ?_) | ((first | refine AWi.region tabOk ?_ | refine AWi.condK fun _ _ => ?_); simp [-getElem?_pos, z0, z1, z2, z0]) | ((first | refine AWi.ret ?_ | refine AWi.skip ?_ | refine AWi.exit ?_); try simp only [thenP]) | (with_reducible refine BB.go ?_; simp only [blockP, thenP, reduceIte]))
    exact RI.ret rfl ⟨by rw [hE]; rfl, hlow⟩
  · rw [if_neg h0] at hy
    subst hy
    have hE : reachE l g e = chkErr l [e, g] := if_neg h0
    simp [-getElem?_pos, z0, z1, z2]
    repeat (first | (with_reducible first | refine AWi.seqK fun _ => ?_ | refine AWi.blockK fun _ => ?_ | refine KI.go ?_) | ((first | refine AWi.region tabOk ?_ | refine AWi.condK fun _ _ => ?_); simp [-getElem?_pos, z0, z1, z2, h0]) | ((first | refine AWi.ret ?_ | refine AWi.skip ?_ | refine AWi.exit ?_); try simp only [thenP]) | (with_reducible refine BB.go ?_; simp only [blockP, thenP, reduceIte]))
    exact RI.ret rfl ⟨by rw [hE]; rfl, hlow⟩
theorem spare_c (l : List HS) (e g : HE) : ACall Try.prog 36 [boxD l, edgD e, edgD g] (.tup [intL (spareO l e g), iD (reachE l g e)]) := by
  by_cases h : reachE l g e = 0
  · obtain ⟨h0, k, hneed⟩ := reach_ok h
    have hO : spareO l e g = spareL l e g k l.length := by rw [spareO, if_pos h0, hneed]
    rw [hO, h]
    exact ACall.ofR (RCall.of4 (n0 := 0) fun n _ => (spare_ok l e g n _ h0 hneed).mono fun _ _ _ h => ⟨h.1, h.2⟩)
  · have hO : spareO l e g = [] := by
      unfold spareO
      split
      · rename_i h0
        cases hn : needN l g e with
        | none => rfl
        | some k => exact absurd (by rw [reachE, if_pos h0, hn]) h
      · rfl
    rw [hO]
    exact ACall.ofR (RCall.of4 (n0 := 0) fun n _ => (spare_no l e g n _ h).mono fun _ _ _ h => ⟨h.1, h.2⟩)
end Go.Proofs.Ytgiomfamlbmpcaa.Eng

noncomputable section
namespace Go.Proofs.Ytgiomfamlbmpcaa.Eng
open Go.RowKit
def rowF (L : List Int) (i : Nat) : Int := L.getD i 0
def cR (f : Nat → Int) : Nat → Int := rowF (tab f)
theorem cR_at (f : Nat → Int) {i : Nat} (h : i < 7) : cR f i = f i := by
  rw [cR, rowF, List.getD_eq_getElem?_getD, tab_get f h]
  rfl
theorem canS_burr {s : HS} {e : HE} (h : canS s e = true) : (strE s e).burr.toNat < 7 := by
  simp only [canS, decide_eq_true_eq] at h
  simp only [strE]
  omega
theorem strX_cR (s : HS) (e : HE) (f : Nat → Int) : strX s e (cR f) = strX s e f := by
  unfold strX
  cases hc : canS s e
  · rfl
  · rw [cR_at f (canS_burr hc)]
theorem strkTo_cR (l : List HS) (e : HE) (f : Nat → Int) : ∀ n, strkTo l e (cR f) n = strkTo l e f n
  | 0 => rfl
  | n + 1 => by
    rw [strkTo, strkTo, strkTo_cR l e f n]
    cases l[n]? with
    | none => rfl
    | some s => simp only [strX_cR]
theorem strks_cR (l : List HS) (e : HE) (f : Nat → Int) : strks l e (cR f) = strks l e f := strkTo_cR l e f _
theorem strks_burr {l : List HS} {e : HE} {f : Nat → Int} {x : Nat × HE} (h : x ∈ strks l e f) : x.2.burr.toNat < 7 := by
  obtain ⟨k, x⟩ := x
  obtain ⟨i, hi⟩ := List.getElem?_of_mem h
  obtain ⟨s, -, hX, rfl⟩ := strks_of hi
  simp only [strX, Bool.and_eq_true] at hX
  exact canS_burr hX.1
theorem depX_cR (l : List HS) (b : Nat) (f : Nat → Int) : depX l b (cR f) = depX l b f := by
  unfold depX
  rw [strks_cR]
  exact List.map_congr_left fun x hx => by unfold depN; rw [cR_at f (strks_burr hx)]
theorem leadR_cR (l : List HS) (f : Nat → Int) : leadR l (cR f) = leadR l f := funext fun b => by unfold leadR; rw [depX_cR]
def nxtL (l : List HS) (L : List Int) : List Int := tab (stepR l (rowF L))
theorem nxtL_tab (l : List HS) (f : Nat → Int) : nxtL l (tab f) = tab (stepR l f) := tab_ext fun i hi => by
  show max (cR f i) (leadR l (cR f) i) = max (f i) (leadR l f i)
  rw [cR_at f hi, leadR_cR]
def rowsL (l : List HS) : Nat → List Int → List (List Int)
  | 0, _ => []
  | k + 1, L => L :: if nxtL l L = L then [] else rowsL l k (nxtL l L)
theorem rowsL_tab (l : List HS) : ∀ k f, (rowsFrom l k f).map tab = rowsL l k (tab f)
  | 0, _ => rfl
  | k + 1, f => by
    rw [rowsFrom, rowsL, List.map_cons, nxtL_tab]
    by_cases h : tab (stepR l f) = tab f
    · rw [if_pos h, if_pos h]; rfl
    · rw [if_neg h, if_neg h, rowsL_tab l k]
def gL (l : List HS) (g : HE) : List (List Int) := rowsL l 800 (tab (firstR g))
theorem rowsG_tab (l : List HS) (g : HE) : (rowsG l g).map tab = gL l g := rowsL_tab l 800 _
theorem need_L {l : List HS} {g e : HE} (ge : GoodE e) : needN l g e = (gL l g).findIdx? fun L => decide (e.depth < rowF L e.burr.toNat) := by
  have hb : e.burr.toNat < 7 := by have := ge.b0; have := ge.b1; omega
  rw [← rowsG_tab, List.findIdx?_map, needN]
  refine congrArg (fun p => List.findIdx? p (rowsG l g)) (funext fun f => ?_)
  show decide (e.depth < f e.burr.toNat) = decide (e.depth < cR f e.burr.toNat)
  rw [cR_at f hb]
theorem onwX_cR (l : List HS) (rs : List (Nat → Int)) (e : HE) (k : Nat) : onwX l (rs.map cR) e k = onwX l rs e k := by
  cases k with
  | zero => rfl
  | succ k =>
    rw [onwX, onwX, List.getD_eq_getElem?_getD, List.getD_eq_getElem?_getD, List.getElem?_map]
    cases rs[k]? with
    | none => rfl
    | some f => exact strks_cR l e f
theorem bestG_cR (l : List HS) (rs : List (Nat → Int)) : ∀ k e, bestG l (rs.map cR) k e = bestG l rs k e
  | 0, _ => rfl
  | k + 1, e => by
    rw [bestG, bestG, onwX_cR]
    cases onwX l rs e (k + 1) with
    | nil => rfl
    | cons x _ => simp only [bestG_cR l rs k]
theorem procA_cR (l : List HS) (rs : List (Nat → Int)) (k : Nat) : ∀ A B, procA l (rs.map cR) k A B = procA l rs k A B
  | [], _ => rfl
  | a :: A, B => by rw [procA, procA, onwX_cR, procA_cR l rs k A]
theorem marksA_cR (l : List HS) (rs : List (Nat → Int)) (A : List HE) : marksA l (rs.map cR) A = marksA l rs A := by
  unfold marksA
  simp only [onwX_cR]
theorem endsG_cR (l : List HS) (rs : List (Nat → Int)) : ∀ k A, endsG l (rs.map cR) k A = endsG l rs k A
  | 0, _ => rfl
  | k + 1, A => by rw [endsG, endsG, marksA_cR, procA_cR, endsG_cR l rs k]
theorem take_cR (l : List HS) (g : HE) (k : Nat) : ((rowsG l g).take k).map cR = ((gL l g).take k).map rowF := by
  rw [← rowsG_tab, ← List.map_take, List.map_map]
  rfl
theorem best_L (l : List HS) (g e : HE) (k : Nat) : bestG l ((rowsG l g).take k) k e = bestG l (((gL l g).take k).map rowF) k e := by
  rw [← bestG_cR, take_cR]
theorem ends_L (l : List HS) (g : HE) (k : Nat) (A : List HE) : endsG l ((rowsG l g).take k) k A = endsG l (((gL l g).take k).map rowF) k A := by
  rw [← endsG_cR, take_cR]
theorem rowL_tab (f : Nat → Int) : rowL f = (tab f).map (· - 1) := by
  rw [rowL, tab, tab, List.map_map]
  rfl
theorem rows_L (l : List HS) (g : HE) (k : Nat) : ((rowsG l g).take k).map rowL = ((gL l g).take k).map fun L => L.map (· - 1) := by
  rw [← rowsG_tab, ← List.map_take, List.map_map]
  exact List.map_congr_left fun f _ => rowL_tab f
theorem far_L (l : List HS) (g : HE) (k : Nat) : (tab fun i => farR l g k i - 1) = ((gL l g).getD (min k ((gL l g).length - 1)) []).map (· - 1) := by
  have hp := rowsG_pos l g
  show rowL (farR l g k) = _
  rw [rowL_tab, farR, ← rowsG_tab, List.length_map, List.getD_eq_getElem?_getD, List.getD_eq_getElem?_getD, List.getElem?_map, List.getElem?_eq_getElem (show min k ((rowsG l g).length - 1) < (rowsG l g).length by omega)]
  rfl
def BX : List HS := [⟨20, 15, 2⟩, ⟨5, 4, 1⟩, ⟨0, 1, -3⟩]
def BX2 : List HS := [⟨20, 15, 2⟩, ⟨5, 4, 1⟩]
def RW : List (List Int) := [[5, 0, 0, 0, 0, 0, 0], [6, 6, 6, 6, 0, 0, 0], [10, 10, 10, 7, 7, 7, 7], [14, 14, 11, 11, 11, 11, 8], [18, 15, 15, 15, 15, 12, 12], [19, 19, 19, 19, 16, 16, 16], [23, 23, 23, 20, 20, 20, 20], [38, 27, 24, 24, 24, 24, 21], [39, 39, 39, 39, 36, 25, 25], [54, 54, 51, 40, 40, 40, 40], [66, 55, 55, 55, 55, 52, 41], [70, 70, 70, 67, 56, 56, 56], [85, 82, 71, 71, 71, 71, 68], [86, 86, 86, 86, 83, 72, 72], [101, 101, 98, 87, 87, 87, 87], [101, 101, 101, 101, 101, 99, 88], [101, 101, 101, 101, 101, 101, 101]]
def RW2 : List (List Int) := [[5, 0, 0, 0, 0, 0, 0]]
def RW0 : List (List Int) := [[5, 0, 0, 0, 0, 0, 0], [6, 6, 6, 6, 0, 0, 0], [10, 10, 10, 7, 7, 7, 7], [14, 14, 11, 11, 11, 11, 8], [18, 15, 15, 15, 15, 12, 12], [19, 19, 19, 19, 16, 16, 16], [23, 23, 23, 20, 20, 20, 20], [27, 27, 24, 24, 24, 24, 21], [31, 28, 28, 28, 28, 25, 25], [32, 32, 32, 32, 29, 29, 29], [36, 36, 36, 33, 33, 33, 33], [40, 40, 37, 37, 37, 37, 34], [44, 41, 41, 41, 41, 38, 38], [45, 45, 45, 45, 42, 42, 42], [49, 49, 49, 46, 46, 46, 46], [53, 53, 50, 50, 50, 50, 47], [57, 54, 54, 54, 54, 51, 51], [58, 58, 58, 58, 55, 55, 55], [62, 62, 62, 59, 59, 59, 59], [66, 66, 63, 63, 63, 63, 60], [70, 67, 67, 67, 67, 64, 64], [71, 71, 71, 71, 68, 68, 68], [75, 75, 75, 72, 72, 72, 72], [79, 79, 76, 76, 76, 76, 73], [83, 80, 80, 80, 80, 77, 77], [84, 84, 84, 84, 81, 81, 81], [88, 88, 88, 85, 85, 85, 85], [92, 92, 89, 89, 89, 89, 86], [96, 93, 93, 93, 93, 90, 90], [97, 97, 97, 97, 94, 94, 94], [101, 101, 101, 98, 98, 98, 98], [101, 101, 101, 101, 101, 101, 99], [101, 101, 101, 101, 101, 101, 101]]
def RW1 : List (List Int) := [[5, 0, 0, 0, 0, 0, 0], [6, 6, 6, 6, 0, 0, 0], [7, 7, 7, 7, 7, 7, 7], [8, 8, 8, 8, 8, 8, 8], [9, 9, 9, 9, 9, 9, 9], [10, 10, 10, 10, 10, 10, 10], [11, 11, 11, 11, 11, 11, 11], [12, 12, 12, 12, 12, 12, 12], [13, 13, 13, 13, 13, 13, 13], [14, 14, 14, 14, 14, 14, 14], [15, 15, 15, 15, 15, 15, 15], [16, 16, 16, 16, 16, 16, 16], [17, 17, 17, 17, 17, 17, 17], [18, 18, 18, 18, 18, 18, 18], [19, 19, 19, 19, 19, 19, 19], [20, 20, 20, 20, 20, 20, 20], [21, 21, 21, 21, 21, 21, 21], [36, 36, 36, 36, 36, 22, 22], [51, 51, 51, 37, 37, 37, 37], [66, 52, 52, 52, 52, 52, 38], [67, 67, 67, 67, 53, 53, 53], [82, 82, 68, 68, 68, 68, 68], [83, 83, 83, 83, 83, 69, 69], [98, 98, 98, 84, 84, 84, 84], [101, 99, 99, 99, 99, 99, 85], [101, 101, 101, 101, 100, 100, 100], [101, 101, 101, 101, 101, 101, 101]]
set_option maxRecDepth 100000
theorem gL_BX : gL BX ⟨4, 0⟩ = RW := by kernel_rfl
theorem gL_BX2 : gL BX2 ⟨4, 0⟩ = RW2 := by kernel_rfl
theorem gL_BX0 : gL (woS BX 0) ⟨4, 0⟩ = RW0 := by kernel_rfl
theorem gL_BX1 : gL (woS BX 1) ⟨4, 0⟩ = RW1 := by kernel_rfl
end Go.Proofs.Ytgiomfamlbmpcaa.Eng

noncomputable section
namespace Go.Proofs.Ytgiomfamlbmpcaa.Eng
open Go.RowKit
set_option maxRecDepth 100000
set_option maxHeartbeats 4000000
theorem stone_c (a b c : Int) : ACall Try.prog 73 [iD a, iD b, iD c] (stnD ⟨a, b, c⟩) := by
  refine acallK tabOk Try.func73 rfl rfl (show 3 ≤ _ by decide) rfl fun _ => ?_; simp only [Try.ntmps73]
  repeat (first | (with_reducible first | refine zq1 fun _ => ?_ | refine zq2 fun _ => ?_ | refine zq3 ?_) | ((first | refine zq4 ?_ | refine zq5 fun _ _ => ?_ | refine zq6 ?_); simp [-getElem?_pos, z0, z1, z2, z0]) | ((first | refine AWp.ret ?_ | refine AWp.skip ?_ | refine AWp.exit ?_); try simp only [thenP]) | (with_reducible refine zq7 ?_; simp only [blockP, thenP, reduceIte]) | with_reducible refine zq8 ?_)
  (first | refine RR.ret ?_ | refine RR.normal ?_); simp [z0]
theorem edge_c (a b : Int) : ACall Try.prog 43 [iD a, iD b] (edgD ⟨a, b⟩) := by
  refine acallK tabOk Try.func43 rfl rfl (show 2 ≤ _ by decide) rfl fun _ => ?_; simp only [Try.ntmps43]
  repeat (first | (with_reducible first | refine zq1 fun _ => ?_ | refine zq2 fun _ => ?_ | refine zq3 ?_) | ((first | refine zq4 ?_ | refine zq5 fun _ _ => ?_ | refine zq6 ?_); simp [-getElem?_pos, z0, z1, z2, z0]) | ((first | refine AWp.ret ?_ | refine AWp.skip ?_ | refine AWp.exit ?_); try simp only [thenP]) | (with_reducible refine zq7 ?_; simp only [blockP, thenP, reduceIte]) | with_reducible refine zq8 ?_)
  (first | refine RR.ret ?_ | refine RR.normal ?_); simp [z0]
theorem box_c : ACall Try.prog 48 [] (boxD BX) := by
  have c1 := stone_c 20 15 2
  have c2 := stone_c 5 4 1
  have c3 := stone_c 0 1 (-3)
  refine acallK tabOk Try.func48 rfl rfl (show 0 ≤ _ by decide) rfl fun _ => ?_; simp only [Try.ntmps48]
  repeat (first | (with_reducible first | refine zq1 fun _ => ?_ | refine zq2 fun _ => ?_ | refine zq3 ?_) | ((first | refine zq4 ?_ | refine zq5 fun _ _ => ?_ | refine zq6 ?_); simp [-getElem?_pos, z0, z1, z2, z0]) | ((first | refine AWp.ret ?_ | refine AWp.skip ?_ | refine AWp.exit ?_); try simp only [thenP]) | (with_reducible refine zq7 ?_; simp only [blockP, thenP, reduceIte]) | with_reducible refine zq8 ?_)
  (first | refine Exec0.call [] c1 ?_ rfl ?_ ?_ | refine Exec.call [] c1 ?_ rfl ?_ ?_); (focus simp [-getElem?_pos, z0]); (focus simp [-getElem?_pos, z0, z1, z2, z0]); simp [-getElem?_pos, z0, z1, z2, z0]
  (first | refine Exec0.call [] c2 ?_ rfl ?_ ?_ | refine Exec.call [] c2 ?_ rfl ?_ ?_); (focus simp [-getElem?_pos, z0]); (focus simp [-getElem?_pos, z0, z1, z2, z0]); simp [-getElem?_pos, z0, z1, z2, z0]
  (first | refine Exec0.call [] c3 ?_ rfl ?_ ?_ | refine Exec.call [] c3 ?_ rfl ?_ ?_); (focus simp [-getElem?_pos, z0]); (focus simp [-getElem?_pos, z0, z1, z2, z0]); simp [-getElem?_pos, z0, z1, z2, z0]
  repeat (first | (with_reducible first | refine zq1 fun _ => ?_ | refine zq2 fun _ => ?_ | refine zq3 ?_) | ((first | refine zq4 ?_ | refine zq5 fun _ _ => ?_ | refine zq6 ?_); simp [-getElem?_pos, z0, z1, z2, z0]) | ((first | refine AWp.ret ?_ | refine AWp.skip ?_ | refine AWp.exit ?_); try simp only [thenP]) | (with_reducible refine zq7 ?_; simp only [blockP, thenP, reduceIte]) | with_reducible refine zq8 ?_)
  (first | refine RR.ret ?_ | refine RR.normal ?_); simp [z0]
  rfl
theorem ints_c (a b : List Int) (ha : a.length ≤ 1000000) (hb : b.length ≤ 1000000) : ACall Try.prog 23 [intL a, intL b] (bD (decide (a = b))) := by
  obtain ⟨r, hr⟩ : ∃ r, r = decide (a = b) := ⟨_, rfl⟩
  rw [← hr]
  by_cases hl : a.length = b.length
  · have hli : (a.length : Int) = b.length := by omega
    refine acallK tabOk Try.func23 rfl rfl (show 2 ≤ _ by decide) rfl fun _ => ?_; simp only [Try.ntmps23]
    repeat (first | (with_reducible first | refine zq1 fun _ => ?_ | refine zq2 fun _ => ?_ | refine zq3 ?_) | ((first | refine zq4 ?_ | refine zq5 fun _ _ => ?_ | refine zq6 ?_); simp [-getElem?_pos, z0, z1, z2, hl, hli]) | ((first | refine AWp.ret ?_ | refine AWp.skip ?_ | refine AWp.exit ?_); try simp only [thenP]) | (with_reducible refine zq7 ?_; simp only [blockP, thenP, reduceIte]) | with_reducible refine zq8 ?_)
    refine AWp.loopK (ι := { k : Nat // k ≤ b.length ∧ a.take k = b.take k }) (n := 0) (fun k => [(0, .d (intL a)), (1, .d (intL b)), (5, .d (iD k.1))]) (fun _ => []) (fun k => b.length - k.1) ⟨0, Nat.zero_le _, rfl⟩ [] ?_ ?_
    · refine ⟨by rfl, by simp [], by simp [or_imp, forall_and, ] <;> (try (intro _hne; simp [_hne])), by decide⟩
    rintro ⟨k, hk, hall⟩ kk
    have w1 : IntKind.i64.wrap ((k : Int) + 1) = (k : Int) + 1 := wrap64_in (by omega)
    by_cases hlt : k < b.length
    · obtain ⟨x, hx⟩ : ∃ x, a[k]? = some x := ⟨_, List.getElem?_eq_getElem (by omega)⟩
      obtain ⟨y, hy⟩ : ∃ y, b[k]? = some y := ⟨_, List.getElem?_eq_getElem hlt⟩
      by_cases g : x = y
      · subst g
        have hall2 : a.take (k + 1) = b.take (k + 1) := by rw [List.take_add_one, List.take_add_one, hall, hx, hy]
        repeat (first | (with_reducible first | refine zq1 fun _ => ?_ | refine zq2 fun _ => ?_ | refine zq3 ?_) | ((first | refine zq4 ?_ | refine zq5 fun _ _ => ?_ | refine zq6 ?_); simp [-getElem?_pos, z0, z1, z2, hlt, hx, hy, hl, hli, w1]) | ((first | refine AWp.ret ?_ | refine AWp.skip ?_ | refine AWp.exit ?_); try simp only [thenP]) | (with_reducible refine zq7 ?_; simp only [blockP, thenP, reduceIte]) | with_reducible refine zq8 ?_)
        refine LL.go ⟨k + 1, hlt, hall2⟩ [] ⟨by rfl, by simp [], by simp [or_imp, forall_and, ] <;> (try (intro _hne; simp [_hne])), by decide⟩ ?_
        simp; omega
      · have hr' : r = false := by rw [hr]; exact decide_eq_false fun h => by subst h; rw [hx] at hy; exact g (Option.some.inj hy)
        repeat (first | (with_reducible first | refine zq1 fun _ => ?_ | refine zq2 fun _ => ?_ | refine zq3 ?_) | ((first | refine zq4 ?_ | refine zq5 fun _ _ => ?_ | refine zq6 ?_); simp [-getElem?_pos, z0, z1, z2, hlt, hx, hy, g, hl, hli]) | ((first | refine AWp.ret ?_ | refine AWp.skip ?_ | refine AWp.exit ?_); try simp only [thenP]) | (with_reducible refine zq7 ?_; simp only [blockP, thenP, reduceIte]) | with_reducible refine zq8 ?_)
        (first | refine RR.ret ?_ | refine RR.normal ?_); simp [hr']
    · obtain rfl : k = b.length := by omega
      have hr' : r = true := hr.trans (decide_eq_true (by rwa [List.take_of_length_le (Nat.le_refl _), List.take_of_length_le (by omega)] at hall))
      repeat (first | (with_reducible first | refine zq1 fun _ => ?_ | refine zq2 fun _ => ?_ | refine zq3 ?_) | ((first | refine zq4 ?_ | refine zq5 fun _ _ => ?_ | refine zq6 ?_); simp [-getElem?_pos, z0, z1, z2, hlt, hl, hli]) | ((first | refine AWp.ret ?_ | refine AWp.skip ?_ | refine AWp.exit ?_); try simp only [thenP]) | (with_reducible refine zq7 ?_; simp only [blockP, thenP, reduceIte]) | with_reducible refine zq8 ?_)
      (first | refine RR.ret ?_ | refine RR.normal ?_); simp [hr']
  · have hr' : r = false := hr.trans (decide_eq_false fun h => hl (congrArg _ h))
    have hli : ¬ (a.length : Int) = b.length := by omega
    refine acallK tabOk Try.func23 rfl rfl (show 2 ≤ _ by decide) rfl fun _ => ?_; simp only [Try.ntmps23]
    repeat (first | (with_reducible first | refine zq1 fun _ => ?_ | refine zq2 fun _ => ?_ | refine zq3 ?_) | ((first | refine zq4 ?_ | refine zq5 fun _ _ => ?_ | refine zq6 ?_); simp [-getElem?_pos, z0, z1, z2, hl, hli]) | ((first | refine AWp.ret ?_ | refine AWp.skip ?_ | refine AWp.exit ?_); try simp only [thenP]) | (with_reducible refine zq7 ?_; simp only [blockP, thenP, reduceIte]) | with_reducible refine zq8 ?_)
    (first | refine RR.ret ?_ | refine RR.normal ?_); simp [hr']
end Go.Proofs.Ytgiomfamlbmpcaa.Eng

noncomputable section
namespace Go.Proofs.Ytgiomfamlbmpcaa.Eng
open Go.RowKit
set_option maxRecDepth 100000
set_option maxHeartbeats 4000000
def FT : List Int := [4, -1, -1, -1, -1, -1, -1]
def ST : List Int := [0, 0, 1, 1, 2, 1, 1, 2, 2]
theorem chk_g : chkErr BX [⟨4, 0⟩] = 0 := by kernel_rfl
theorem chk_eg : chkErr BX [⟨40, 0⟩, ⟨4, 0⟩] = 0 := by kernel_rfl
theorem chk_eg2 : chkErr BX2 [⟨40, 0⟩, ⟨4, 0⟩] = 0 := by kernel_rfl
theorem chk_g2 : chkErr BX2 [⟨4, 0⟩] = 0 := by kernel_rfl
theorem gE : GoodE ⟨40, 0⟩ := ⟨by decide, by decide, by decide, by decide⟩
theorem nd : needN BX ⟨4, 0⟩ ⟨40, 0⟩ = some 9 := by rw [need_L gE, gL_BX]; kernel_rfl
theorem nd2 : needN BX2 ⟨4, 0⟩ ⟨40, 0⟩ = none := by rw [need_L gE, gL_BX2]; kernel_rfl
theorem nd_0 : needN (woS BX 0) ⟨4, 0⟩ ⟨40, 0⟩ = some 12 := by rw [need_L gE, gL_BX0]; kernel_rfl
theorem nd_1 : needN (woS BX 1) ⟨4, 0⟩ ⟨40, 0⟩ = some 18 := by rw [need_L gE, gL_BX1]; kernel_rfl
theorem nd_2 : needN (woS BX 2) ⟨4, 0⟩ ⟨40, 0⟩ = none := nd2
theorem vReach : reachE BX ⟨4, 0⟩ ⟨40, 0⟩ = 0 := by rw [reachE, if_pos chk_eg, nd]
theorem vReach2 : reachE BX2 ⟨4, 0⟩ ⟨40, 0⟩ = 13 := by rw [reachE, if_pos chk_eg2, nd2]
theorem vAft1 : aftR BX ⟨40, 0⟩ [0, 0, 1] = ⟨16, 5⟩ := by kernel_rfl
theorem vAft1E : aftE BX ⟨40, 0⟩ [0, 0, 1] = 0 := by kernel_rfl
theorem vAft2E : aftE BX ⟨40, 0⟩ [0, 0, 0, 0] = 16 := by kernel_rfl
theorem vAft2 : aftR BX ⟨40, 0⟩ [0, 0, 0, 0] = ⟨0, 0⟩ := by kernel_rfl
theorem vBest : bestO BX ⟨40, 0⟩ ⟨4, 0⟩ = ST := by rw [bestO, if_pos chk_eg, nd]; simp only []; rw [best_L, gL_BX]; kernel_rfl
theorem vBest2 : bestO BX2 ⟨40, 0⟩ ⟨4, 0⟩ = [] := by rw [bestO, if_pos chk_eg2, nd2]
theorem vFarE : farE BX ⟨4, 0⟩ 2 = 0 := by rw [farE, if_pos chk_g]; rfl
theorem vFarE2 : farE BX2 ⟨4, 0⟩ 800 = 0 := by rw [farE, if_pos chk_g2]; rfl
theorem vFar : farO BX ⟨4, 0⟩ 2 = [9, 9, 9, 6, 6, 6, 6] := by rw [farO, if_pos vFarE, far_L, gL_BX]; kernel_rfl
theorem vLast : farO BX2 ⟨4, 0⟩ 800 = FT := by rw [farO, if_pos vFarE2, far_L, gL_BX2]; kernel_rfl
theorem vChk1 : chkRows BX ⟨40, 0⟩ ⟨4, 0⟩ [FT, [5, 5, 5, 5, -1, -1, -1]] = 0 := by kernel_rfl
theorem vChk2 : chkRows BX ⟨40, 0⟩ ⟨4, 0⟩ [FT, FT] = 14 := by kernel_rfl
def RQ : List (List Int) := (RW.take 9).map fun L => L.map (· - 1)
theorem vRows : rowsO BX ⟨40, 0⟩ ⟨4, 0⟩ = RQ := by rw [rowsO, if_pos chk_eg, nd]; simp only []; rw [rows_L, gL_BX]; rfl
theorem vRef : refChk BX ⟨40, 0⟩ ⟨4, 0⟩ RQ = 0 := by kernel_rfl
theorem vSpare : spareO BX ⟨40, 0⟩ ⟨4, 0⟩ = [] := by
  rw [spareO, if_pos chk_eg, nd]
  show (([0, 1, 2].filter fun j => decide (needN (woS BX j) ⟨4, 0⟩ ⟨40, 0⟩ = some 9)).map fun j : Nat => (j : Int)) = []
  simp [nd_0, nd_1, nd_2]
theorem vEnds : endsO BX ⟨40, 0⟩ ⟨4, 0⟩ = [2] := by rw [endsO, if_pos chk_eg, nd]; simp only []; rw [ends_L, gL_BX]; kernel_rfl
theorem vNever : chkNever BX2 ⟨40, 0⟩ ⟨4, 0⟩ FT = 0 := by kernel_rfl
end Go.Proofs.Ytgiomfamlbmpcaa.Eng

noncomputable section
namespace Go.Proofs.Ytgiomfamlbmpcaa.Eng
open Go.RowKit
set_option maxRecDepth 100000
set_option maxHeartbeats 16000000
theorem bxL : boxD BX = .list [[iD 20, iD 15, iD 2], [iD 5, iD 4, iD 1], [iD 0, iD 1, iD (-3)]] := rfl
theorem bxL2 : boxD BX2 = .list [[iD 20, iD 15, iD 2], [iD 5, iD 4, iD 1]] := rfl
theorem ftL : intL FT = .list [[iD 4], [iD (-1)], [iD (-1)], [iD (-1)], [iD (-1)], [iD (-1)], [iD (-1)]] := rfl
theorem bestLit : intL ST = .list [[iD 0], [iD 0], [iD 1], [iD 1], [iD 2], [iD 1], [iD 1], [iD 2], [iD 2]] := rfl
theorem works_call : ACall Try.prog 16 [] (.val (.bool true)) := by
  have ce := edge_c 40 0
  have cg := edge_c 4 0
  have ca := edge_c 16 5
  have c1 := after_c BX ⟨40, 0⟩ [0, 0, 1] (by decide)
  have c2 := after_c BX ⟨40, 0⟩ [0, 0, 0, 0] (by decide)
  rw [vAft1, vAft1E] at c1
  rw [vAft2, vAft2E] at c2
  have c3 := best_c BX ⟨40, 0⟩ ⟨4, 0⟩
  rw [vBest, vReach] at c3
  have c4 := far_c BX ⟨4, 0⟩ 2
  rw [vFar, vFarE] at c4
  have c5 := checkRows_c BX ⟨40, 0⟩ ⟨4, 0⟩ [FT, [5, 5, 5, 5, -1, -1, -1]] (by decide)
  have c6 := checkRows_c BX ⟨40, 0⟩ ⟨4, 0⟩ [FT, FT] (by decide)
  rw [vChk1] at c5
  rw [vChk2] at c6
  have c7 := rows_c BX ⟨40, 0⟩ ⟨4, 0⟩
  rw [vRows, vReach] at c7
  have c8 := spare_c BX ⟨40, 0⟩ ⟨4, 0⟩
  rw [vSpare, vReach] at c8
  have c9 := ends_c BX ⟨40, 0⟩ ⟨4, 0⟩
  rw [vEnds, vReach] at c9
  have c10 := last_c BX2 ⟨4, 0⟩
  rw [vLast, vFarE2] at c10
  have c11 := checkNever_c BX2 ⟨40, 0⟩ ⟨4, 0⟩ FT (by decide)
  rw [vNever] at c11
  have c12 := best_c BX2 ⟨40, 0⟩ ⟨4, 0⟩
  rw [vBest2, vReach2] at c12
  have r1 := refCheckRows_c BX ⟨40, 0⟩ ⟨4, 0⟩ RQ (by decide)
  rw [vRef] at r1
  have i1 := ints_c ST ST (by decide) (by decide)
  have i2 := ints_c [9, 9, 9, 6, 6, 6, 6] [9, 9, 9, 6, 6, 6, 6] (by decide) (by decide)
  have i3 := ints_c [2] [2] (by decide) (by decide)
  have i4 := ints_c FT FT (by decide) (by decide)
  have cb := box_c
  rw [bxL] at cb c1 c2 c3 c4 c5 c6 c7 c8 c9 r1
  rw [bxL2] at c10 c11 c12
  rw [bestLit] at c3 i1
  rw [ftL] at c10 c11 i4
  rw [show intL [0, 0, 1] = .list [[iD 0], [iD 0], [iD 1]] from rfl] at c1
  rw [show intL [0, 0, 0, 0] = .list [[iD 0], [iD 0], [iD 0], [iD 0]] from rfl] at c2
  rw [show (Dat.list (listsD [FT, [5, 5, 5, 5, -1, -1, -1]])) = .list [[.list [[iD 4], [iD (-1)], [iD (-1)], [iD (-1)], [iD (-1)], [iD (-1)], [iD (-1)]]], [.list [[iD 5], [iD 5], [iD 5], [iD 5], [iD (-1)], [iD (-1)], [iD (-1)]]]] from rfl] at c5
  rw [show (Dat.list (listsD [FT, FT])) = .list [[.list [[iD 4], [iD (-1)], [iD (-1)], [iD (-1)], [iD (-1)], [iD (-1)], [iD (-1)]]], [.list [[iD 4], [iD (-1)], [iD (-1)], [iD (-1)], [iD (-1)], [iD (-1)], [iD (-1)]]]] from rfl] at c6
  rw [show intL [] = .list [] from rfl] at c8
  rw [show intL [2] = .list [[iD 2]] from rfl] at c9 i3
  rw [show intL [9, 9, 9, 6, 6, 6, 6] = .list [[iD 9], [iD 9], [iD 9], [iD 6], [iD 6], [iD 6], [iD 6]] from rfl] at c4 i2
  rw [show intL [] = .list [] from rfl] at c12
  have hlen : (listsD RQ).length = 9 := rfl
  refine acallK tabOk Try.func16 rfl rfl (show 0 ≤ _ by decide) rfl fun _ => ?_; simp only [Try.ntmps16]
  repeat (first | (with_reducible first | refine zq1 fun _ => ?_ | refine zq2 fun _ => ?_ | refine zq3 ?_) | ((first | refine zq4 ?_ | refine zq5 fun _ _ => ?_ | refine zq6 ?_); simp [-getElem?_pos, z0, z1, z2, z0]) | ((first | refine AWp.ret ?_ | refine AWp.skip ?_ | refine AWp.exit ?_); try simp only [thenP]) | (with_reducible refine zq7 ?_; simp only [blockP, thenP, reduceIte]) | with_reducible refine zq8 ?_)
  (first | refine Exec0.call [] cb ?_ rfl ?_ ?_ | refine Exec.call [] cb ?_ rfl ?_ ?_); (focus simp [-getElem?_pos, z0]); (focus simp [-getElem?_pos, z0, z1, z2, z0]); simp [-getElem?_pos, z0, z1, z2, z0]
  (first | refine Exec0.call [] ce ?_ rfl ?_ ?_ | refine Exec.call [] ce ?_ rfl ?_ ?_); (focus simp [-getElem?_pos, z0]); (focus simp [-getElem?_pos, z0, z1, z2, z0]); simp [-getElem?_pos, z0, z1, z2, z0]
  (first | refine Exec0.call [] cg ?_ rfl ?_ ?_ | refine Exec.call [] cg ?_ rfl ?_ ?_); (focus simp [-getElem?_pos, z0]); (focus simp [-getElem?_pos, z0, z1, z2, z0]); simp [-getElem?_pos, z0, z1, z2, z0]
  repeat (first | (with_reducible first | refine zq1 fun _ => ?_ | refine zq2 fun _ => ?_ | refine zq3 ?_) | ((first | refine zq4 ?_ | refine zq5 fun _ _ => ?_ | refine zq6 ?_); simp [-getElem?_pos, z0, z1, z2, z0]) | ((first | refine AWp.ret ?_ | refine AWp.skip ?_ | refine AWp.exit ?_); try simp only [thenP]) | (with_reducible refine zq7 ?_; simp only [blockP, thenP, reduceIte]) | with_reducible refine zq8 ?_)
  (first | refine Exec0.call [11] c1 ?_ rfl ?_ ?_ | refine Exec.call [11] c1 ?_ rfl ?_ ?_); (focus simp [-getElem?_pos, z0]); (focus simp [-getElem?_pos, z0, z1, z2, z0]); simp [-getElem?_pos, z0, z1, z2, z0]
  repeat (first | (with_reducible first | refine zq1 fun _ => ?_ | refine zq2 fun _ => ?_ | refine zq3 ?_) | ((first | refine zq4 ?_ | refine zq5 fun _ _ => ?_ | refine zq6 ?_); simp [-getElem?_pos, z0, z1, z2, z0]) | ((first | refine AWp.ret ?_ | refine AWp.skip ?_ | refine AWp.exit ?_); try simp only [thenP]) | (with_reducible refine zq7 ?_; simp only [blockP, thenP, reduceIte]) | with_reducible refine zq8 ?_)
  (first | refine Exec0.call [21] c2 ?_ rfl ?_ ?_ | refine Exec.call [21] c2 ?_ rfl ?_ ?_); (focus simp [-getElem?_pos, z0]); (focus simp [-getElem?_pos, z0, z1, z2, z0]); simp [-getElem?_pos, z0, z1, z2, z0]
  repeat (first | (with_reducible first | refine zq1 fun _ => ?_ | refine zq2 fun _ => ?_ | refine zq3 ?_) | ((first | refine zq4 ?_ | refine zq5 fun _ _ => ?_ | refine zq6 ?_); simp [-getElem?_pos, z0, z1, z2, z0]) | ((first | refine AWp.ret ?_ | refine AWp.skip ?_ | refine AWp.exit ?_); try simp only [thenP]) | (with_reducible refine zq7 ?_; simp only [blockP, thenP, reduceIte]) | with_reducible refine zq8 ?_)
  (first | refine Exec0.call [] c3 ?_ rfl ?_ ?_ | refine Exec.call [] c3 ?_ rfl ?_ ?_); (focus simp [-getElem?_pos, z0]); (focus simp [-getElem?_pos, z0, z1, z2, z0]); simp [-getElem?_pos, z0, z1, z2, z0]
  repeat (first | (with_reducible first | refine zq1 fun _ => ?_ | refine zq2 fun _ => ?_ | refine zq3 ?_) | ((first | refine zq4 ?_ | refine zq5 fun _ _ => ?_ | refine zq6 ?_); simp [-getElem?_pos, z0, z1, z2, z0]) | ((first | refine AWp.ret ?_ | refine AWp.skip ?_ | refine AWp.exit ?_); try simp only [thenP]) | (with_reducible refine zq7 ?_; simp only [blockP, thenP, reduceIte]) | with_reducible refine zq8 ?_)
  (first | refine Exec0.call [] c4 ?_ rfl ?_ ?_ | refine Exec.call [] c4 ?_ rfl ?_ ?_); (focus simp [-getElem?_pos, z0]); (focus simp [-getElem?_pos, z0, z1, z2, z0]); simp [-getElem?_pos, z0, z1, z2, z0]
  repeat (first | (with_reducible first | refine zq1 fun _ => ?_ | refine zq2 fun _ => ?_ | refine zq3 ?_) | ((first | refine zq4 ?_ | refine zq5 fun _ _ => ?_ | refine zq6 ?_); simp [-getElem?_pos, z0, z1, z2, z0]) | ((first | refine AWp.ret ?_ | refine AWp.skip ?_ | refine AWp.exit ?_); try simp only [thenP]) | (with_reducible refine zq7 ?_; simp only [blockP, thenP, reduceIte]) | with_reducible refine zq8 ?_)
  (first | refine Exec0.call [53] c5 ?_ rfl ?_ ?_ | refine Exec.call [53] c5 ?_ rfl ?_ ?_); (focus simp [-getElem?_pos, z0]); (focus simp [-getElem?_pos, z0, z1, z2, z0]); simp [-getElem?_pos, z0, z1, z2, z0]
  repeat (first | (with_reducible first | refine zq1 fun _ => ?_ | refine zq2 fun _ => ?_ | refine zq3 ?_) | ((first | refine zq4 ?_ | refine zq5 fun _ _ => ?_ | refine zq6 ?_); simp [-getElem?_pos, z0, z1, z2, z0]) | ((first | refine AWp.ret ?_ | refine AWp.skip ?_ | refine AWp.exit ?_); try simp only [thenP]) | (with_reducible refine zq7 ?_; simp only [blockP, thenP, reduceIte]) | with_reducible refine zq8 ?_)
  (first | refine Exec0.call [61] c6 ?_ rfl ?_ ?_ | refine Exec.call [61] c6 ?_ rfl ?_ ?_); (focus simp [-getElem?_pos, z0]); (focus simp [-getElem?_pos, z0, z1, z2, z0]); simp [-getElem?_pos, z0, z1, z2, z0]
  repeat (first | (with_reducible first | refine zq1 fun _ => ?_ | refine zq2 fun _ => ?_ | refine zq3 ?_) | ((first | refine zq4 ?_ | refine zq5 fun _ _ => ?_ | refine zq6 ?_); simp [-getElem?_pos, z0, z1, z2, z0]) | ((first | refine AWp.ret ?_ | refine AWp.skip ?_ | refine AWp.exit ?_); try simp only [thenP]) | (with_reducible refine zq7 ?_; simp only [blockP, thenP, reduceIte]) | with_reducible refine zq8 ?_)
  (first | refine Exec0.call [] c7 ?_ rfl ?_ ?_ | refine Exec.call [] c7 ?_ rfl ?_ ?_); (focus simp [-getElem?_pos, z0]); (focus simp [-getElem?_pos, z0, z1, z2, z0]); simp [-getElem?_pos, z0, z1, z2, z0]
  repeat (first | (with_reducible first | refine zq1 fun _ => ?_ | refine zq2 fun _ => ?_ | refine zq3 ?_) | ((first | refine zq4 ?_ | refine zq5 fun _ _ => ?_ | refine zq6 ?_); simp [-getElem?_pos, z0, z1, z2, z0]) | ((first | refine AWp.ret ?_ | refine AWp.skip ?_ | refine AWp.exit ?_); try simp only [thenP]) | (with_reducible refine zq7 ?_; simp only [blockP, thenP, reduceIte]) | with_reducible refine zq8 ?_)
  (first | refine Exec0.call [] c8 ?_ rfl ?_ ?_ | refine Exec.call [] c8 ?_ rfl ?_ ?_); (focus simp [-getElem?_pos, z0]); (focus simp [-getElem?_pos, z0, z1, z2, z0]); simp [-getElem?_pos, z0, z1, z2, z0]
  repeat (first | (with_reducible first | refine zq1 fun _ => ?_ | refine zq2 fun _ => ?_ | refine zq3 ?_) | ((first | refine zq4 ?_ | refine zq5 fun _ _ => ?_ | refine zq6 ?_); simp [-getElem?_pos, z0, z1, z2, z0]) | ((first | refine AWp.ret ?_ | refine AWp.skip ?_ | refine AWp.exit ?_); try simp only [thenP]) | (with_reducible refine zq7 ?_; simp only [blockP, thenP, reduceIte]) | with_reducible refine zq8 ?_)
  (first | refine Exec0.call [] c9 ?_ rfl ?_ ?_ | refine Exec.call [] c9 ?_ rfl ?_ ?_); (focus simp [-getElem?_pos, z0]); (focus simp [-getElem?_pos, z0, z1, z2, z0]); simp [-getElem?_pos, z0, z1, z2, z0]
  repeat (first | (with_reducible first | refine zq1 fun _ => ?_ | refine zq2 fun _ => ?_ | refine zq3 ?_) | ((first | refine zq4 ?_ | refine zq5 fun _ _ => ?_ | refine zq6 ?_); simp [-getElem?_pos, z0, z1, z2, z0]) | ((first | refine AWp.ret ?_ | refine AWp.skip ?_ | refine AWp.exit ?_); try simp only [thenP]) | (with_reducible refine zq7 ?_; simp only [blockP, thenP, reduceIte]) | with_reducible refine zq8 ?_)
  (first | refine Exec0.call [] c10 ?_ rfl ?_ ?_ | refine Exec.call [] c10 ?_ rfl ?_ ?_); (focus simp [-getElem?_pos, z0]); (focus simp [-getElem?_pos, z0, z1, z2, z0]); simp [-getElem?_pos, z0, z1, z2, z0]
  repeat (first | (with_reducible first | refine zq1 fun _ => ?_ | refine zq2 fun _ => ?_ | refine zq3 ?_) | ((first | refine zq4 ?_ | refine zq5 fun _ _ => ?_ | refine zq6 ?_); simp [-getElem?_pos, z0, z1, z2, z0]) | ((first | refine AWp.ret ?_ | refine AWp.skip ?_ | refine AWp.exit ?_); try simp only [thenP]) | (with_reducible refine zq7 ?_; simp only [blockP, thenP, reduceIte]) | with_reducible refine zq8 ?_)
  (first | refine Exec0.call [46] c11 ?_ rfl ?_ ?_ | refine Exec.call [46] c11 ?_ rfl ?_ ?_); (focus simp [-getElem?_pos, z0]); (focus simp [-getElem?_pos, z0, z1, z2, z0]); simp [-getElem?_pos, z0, z1, z2, z0]
  repeat (first | (with_reducible first | refine zq1 fun _ => ?_ | refine zq2 fun _ => ?_ | refine zq3 ?_) | ((first | refine zq4 ?_ | refine zq5 fun _ _ => ?_ | refine zq6 ?_); simp [-getElem?_pos, z0, z1, z2, z0]) | ((first | refine AWp.ret ?_ | refine AWp.skip ?_ | refine AWp.exit ?_); try simp only [thenP]) | (with_reducible refine zq7 ?_; simp only [blockP, thenP, reduceIte]) | with_reducible refine zq8 ?_)
  (first | refine Exec0.call [] c12 ?_ rfl ?_ ?_ | refine Exec.call [] c12 ?_ rfl ?_ ?_); (focus simp [-getElem?_pos, z0]); (focus simp [-getElem?_pos, z0, z1, z2, z0]); simp [-getElem?_pos, z0, z1, z2, z0]
  (first | (with_reducible first | refine zq1 fun _ => ?_ | refine zq2 fun _ => ?_ | refine zq3 ?_) | ((first | refine zq4 ?_ | refine zq5 fun _ _ => ?_ | refine zq6 ?_); simp [-getElem?_pos, z0, z1, z2, z0]) | ((first | refine AWp.ret ?_ | refine AWp.skip ?_ | refine AWp.exit ?_); try simp only [thenP]) | (with_reducible refine zq7 ?_; simp only [blockP, thenP, reduceIte]) | with_reducible refine zq8 ?_)
  refine KK.go ?_
  refine AWp.fits (n := 4) (l := [(1, .d (.list [[iD 20, iD 15, iD 2], [iD 5, iD 4, iD 1], [iD 0, iD 1, iD (-3)]])), (2, .ptr 0 0 0), (3, .ptr 1 0 0), (4, .ptr 2 0 0), (5, .d (iD 0)), (7, .d (iD 16)), (8, .d (.list [[iD 0], [iD 0], [iD 1], [iD 1], [iD 2], [iD 1], [iD 1], [iD 2], [iD 2]])), (9, .d (iD 0)), (10, .d (.list [[iD 9], [iD 9], [iD 9], [iD 6], [iD 6], [iD 6], [iD 6]])), (11, .d (iD 0)), (12, .own 3 7 1), (13, .d (iD 0)), (14, .d (iD 14)), (15, .d (.list (listsD RQ))), (16, .d (iD 0)), (17, .d (.list [])), (18, .d (iD 0)), (19, .d (.list [[iD 2]])), (20, .d (iD 0)), (21, .d (.list [[iD 4], [iD (-1)], [iD (-1)], [iD (-1)], [iD (-1)], [iD (-1)], [iD (-1)]])), (22, .d (iD 0)), (23, .d (iD 0)), (25, .d (iD 13))]) (m := [(0, .box 24 [.d (iD 40), .d (iD 0)] false), (1, .box 24 [.d (iD 4), .d (iD 0)] false), (2, .box 24 [.d (iD 16), .d (iD 5)] false), (3, .row 3 1 [[iD 4], [iD (-1)], [iD (-1)], [iD (-1)], [iD (-1)], [iD (-1)], [iD (-1)]] true)]) (σ := [4, 5, 16, 46]) ⟨by rfl, by simp, by simp [or_imp, forall_and], by decide⟩ ?_
  repeat (first | (with_reducible first | refine zq1 fun _ => ?_ | refine zq2 fun _ => ?_ | refine zq3 ?_) | ((first | refine zq4 ?_ | refine zq5 fun _ _ => ?_ | refine zq6 ?_); simp [-getElem?_pos, z0, z1, z2, hlen]) | ((first | refine AWp.ret ?_ | refine AWp.skip ?_ | refine AWp.exit ?_); try simp only [thenP]) | (with_reducible refine zq7 ?_; simp only [blockP, thenP, reduceIte]) | with_reducible refine zq8 ?_)
  (first | refine Exec0.call [] ca ?_ rfl ?_ ?_ | refine Exec.call [] ca ?_ rfl ?_ ?_); (focus simp [-getElem?_pos, z0]); (focus simp [-getElem?_pos, z0, z1, z2, z0]); simp [-getElem?_pos, z0, z1, z2, z0]
  (first | refine Exec0.call [55] i1 ?_ rfl ?_ ?_ | refine Exec.call [55] i1 ?_ rfl ?_ ?_); (focus simp [-getElem?_pos, z0]); (focus simp [-getElem?_pos, z0, z1, z2, z0]); simp [-getElem?_pos, z0, z1, z2, z0]
  (first | refine Exec0.call [60] i2 ?_ rfl ?_ ?_ | refine Exec.call [60] i2 ?_ rfl ?_ ?_); (focus simp [-getElem?_pos, hlen]); (focus simp [-getElem?_pos, z0, z1, z2, hlen]); simp [-getElem?_pos, z0, z1, z2, hlen]
  (first | refine Exec0.call [] r1 ?_ rfl ?_ ?_ | refine Exec.call [] r1 ?_ rfl ?_ ?_); (focus simp [-getElem?_pos, z0]); (focus simp [-getElem?_pos, z0, z1, z2, z0]); simp [-getElem?_pos, z0, z1, z2, z0]
  (first | refine Exec0.call [83] i3 ?_ rfl ?_ ?_ | refine Exec.call [83] i3 ?_ rfl ?_ ?_); (focus simp [-getElem?_pos, z0]); (focus simp [-getElem?_pos, z0, z1, z2, z0]); simp [-getElem?_pos, z0, z1, z2, z0]
  (first | refine Exec0.call [3] i4 ?_ rfl ?_ ?_ | refine Exec.call [3] i4 ?_ rfl ?_ ?_); (focus simp [-getElem?_pos, z0]); (focus simp [-getElem?_pos, z0, z1, z2, z0]); simp [-getElem?_pos, z0, z1, z2, z0]
  repeat (first | (with_reducible first | refine zq1 fun _ => ?_ | refine zq2 fun _ => ?_ | refine zq3 ?_) | ((first | refine zq4 ?_ | refine zq5 fun _ _ => ?_ | refine zq6 ?_); simp [-getElem?_pos, z0, z1, z2, z0]) | ((first | refine AWp.ret ?_ | refine AWp.skip ?_ | refine AWp.exit ?_); try simp only [thenP]) | (with_reducible refine zq7 ?_; simp only [blockP, thenP, reduceIte]) | with_reducible refine zq8 ?_)
  (first | refine RR.ret ?_ | refine RR.normal ?_); simp [z0]
end Go.Proofs.Ytgiomfamlbmpcaa.Eng

noncomputable section
namespace Go.Proofs.Ytgiomfamlbmpcaa.Eng
open Go.RowKit
set_option maxRecDepth 100000
set_option maxHeartbeats 16000000
theorem gG : GoodE ⟨4, 0⟩ := ⟨by decide, by decide, by decide, by decide⟩
theorem chk_ge : chkErr BX [⟨4, 0⟩, ⟨40, 0⟩] = 0 := by kernel_rfl
theorem kNd : needN BX ⟨40, 0⟩ ⟨4, 0⟩ = some 0 := by rw [need_L gG]; kernel_rfl
theorem kReach : reachE BX ⟨40, 0⟩ ⟨4, 0⟩ = 0 := by rw [reachE, if_pos chk_ge, kNd]
theorem kBest : bestO BX ⟨4, 0⟩ ⟨40, 0⟩ = [] := by rw [bestO, if_pos chk_ge, kNd]; rfl
theorem kAft1 : aftR BX ⟨40, 0⟩ [0, 0] = ⟨20, 4⟩ := by kernel_rfl
theorem kAft1E : aftE BX ⟨40, 0⟩ [0, 0] = 0 := by kernel_rfl
theorem kAft2 : aftR BX ⟨40, 0⟩ [0, 0, 1, 1, 2, 1, 1, 2, 2] = ⟨3, 0⟩ := by kernel_rfl
theorem kAft2E : aftE BX ⟨40, 0⟩ [0, 0, 1, 1, 2, 1, 1, 2, 2] = 0 := by kernel_rfl
theorem kFar0E : farE BX ⟨4, 0⟩ 0 = 0 := by rw [farE, if_pos chk_g]; rfl
theorem kFar1E : farE BX ⟨4, 0⟩ 1 = 0 := by rw [farE, if_pos chk_g]; rfl
theorem kFar0 : farO BX ⟨4, 0⟩ 0 = [4, -1, -1, -1, -1, -1, -1] := by rw [farO, if_pos kFar0E, far_L, gL_BX]; kernel_rfl
theorem kFar1 : farO BX ⟨4, 0⟩ 1 = [5, 5, 5, 5, -1, -1, -1] := by rw [farO, if_pos kFar1E, far_L, gL_BX]; kernel_rfl
theorem honeKnown_call : ACall Try.prog 14 [] (.val (.bool true)) := by
  have ce := edge_c 40 0
  have cg := edge_c 4 0
  have ca := edge_c 20 4
  have cb2 := edge_c 3 0
  have c1 := after_c BX ⟨40, 0⟩ [0, 0] (by decide)
  have c2 := after_c BX ⟨40, 0⟩ [0, 0, 1, 1, 2, 1, 1, 2, 2] (by decide)
  rw [kAft1, kAft1E] at c1
  rw [kAft2, kAft2E] at c2
  have c3 := far_c BX ⟨4, 0⟩ 0
  rw [kFar0, kFar0E] at c3
  have c4 := far_c BX ⟨4, 0⟩ 1
  rw [kFar1, kFar1E] at c4
  have c5 := best_c BX ⟨4, 0⟩ ⟨40, 0⟩
  rw [kBest, kReach] at c5
  have i1 := ints_c [4, -1, -1, -1, -1, -1, -1] [4, -1, -1, -1, -1, -1, -1] (by decide) (by decide)
  have i2 := ints_c [5, 5, 5, 5, -1, -1, -1] [5, 5, 5, 5, -1, -1, -1] (by decide) (by decide)
  have cw := works_call
  have cb := box_c
  rw [bxL] at cb c1 c2 c3 c4 c5
  rw [show intL [0, 0] = .list [[iD 0], [iD 0]] from rfl] at c1
  rw [show intL [0, 0, 1, 1, 2, 1, 1, 2, 2] = .list [[iD 0], [iD 0], [iD 1], [iD 1], [iD 2], [iD 1], [iD 1], [iD 2], [iD 2]] from rfl] at c2
  rw [show intL [4, -1, -1, -1, -1, -1, -1] = .list [[iD 4], [iD (-1)], [iD (-1)], [iD (-1)], [iD (-1)], [iD (-1)], [iD (-1)]] from rfl] at c3 i1
  rw [show intL [5, 5, 5, 5, -1, -1, -1] = .list [[iD 5], [iD 5], [iD 5], [iD 5], [iD (-1)], [iD (-1)], [iD (-1)]] from rfl] at c4 i2
  rw [show intL [] = .list [] from rfl] at c5
  refine acallK tabOk Try.func14 rfl rfl (show 0 ≤ _ by decide) rfl fun _ => ?_; simp only [Try.ntmps14]
  repeat (first | (with_reducible first | refine zq1 fun _ => ?_ | refine zq2 fun _ => ?_ | refine zq3 ?_) | ((first | refine zq4 ?_ | refine zq5 fun _ _ => ?_ | refine zq6 ?_); simp [-getElem?_pos, z0, z1, z2, z0]) | ((first | refine AWp.ret ?_ | refine AWp.skip ?_ | refine AWp.exit ?_); try simp only [thenP]) | (with_reducible refine zq7 ?_; simp only [blockP, thenP, reduceIte]) | with_reducible refine zq8 ?_)
  (first | refine Exec0.call [] cb ?_ rfl ?_ ?_ | refine Exec.call [] cb ?_ rfl ?_ ?_); (focus simp [-getElem?_pos, z0]); (focus simp [-getElem?_pos, z0, z1, z2, z0]); simp [-getElem?_pos, z0, z1, z2, z0]
  (first | refine Exec0.call [] ce ?_ rfl ?_ ?_ | refine Exec.call [] ce ?_ rfl ?_ ?_); (focus simp [-getElem?_pos, z0]); (focus simp [-getElem?_pos, z0, z1, z2, z0]); simp [-getElem?_pos, z0, z1, z2, z0]
  (first | refine Exec0.call [] cg ?_ rfl ?_ ?_ | refine Exec.call [] cg ?_ rfl ?_ ?_); (focus simp [-getElem?_pos, z0]); (focus simp [-getElem?_pos, z0, z1, z2, z0]); simp [-getElem?_pos, z0, z1, z2, z0]
  repeat (first | (with_reducible first | refine zq1 fun _ => ?_ | refine zq2 fun _ => ?_ | refine zq3 ?_) | ((first | refine zq4 ?_ | refine zq5 fun _ _ => ?_ | refine zq6 ?_); simp [-getElem?_pos, z0, z1, z2, z0]) | ((first | refine AWp.ret ?_ | refine AWp.skip ?_ | refine AWp.exit ?_); try simp only [thenP]) | (with_reducible refine zq7 ?_; simp only [blockP, thenP, reduceIte]) | with_reducible refine zq8 ?_)
  (first | refine Exec0.call [11] c1 ?_ rfl ?_ ?_ | refine Exec.call [11] c1 ?_ rfl ?_ ?_); (focus simp [-getElem?_pos, z0]); (focus simp [-getElem?_pos, z0, z1, z2, z0]); simp [-getElem?_pos, z0, z1, z2, z0]
  repeat (first | (with_reducible first | refine zq1 fun _ => ?_ | refine zq2 fun _ => ?_ | refine zq3 ?_) | ((first | refine zq4 ?_ | refine zq5 fun _ _ => ?_ | refine zq6 ?_); simp [-getElem?_pos, z0, z1, z2, z0]) | ((first | refine AWp.ret ?_ | refine AWp.skip ?_ | refine AWp.exit ?_); try simp only [thenP]) | (with_reducible refine zq7 ?_; simp only [blockP, thenP, reduceIte]) | with_reducible refine zq8 ?_)
  (first | refine Exec0.call [21] c2 ?_ rfl ?_ ?_ | refine Exec.call [21] c2 ?_ rfl ?_ ?_); (focus simp [-getElem?_pos, z0]); (focus simp [-getElem?_pos, z0, z1, z2, z0]); simp [-getElem?_pos, z0, z1, z2, z0]
  repeat (first | (with_reducible first | refine zq1 fun _ => ?_ | refine zq2 fun _ => ?_ | refine zq3 ?_) | ((first | refine zq4 ?_ | refine zq5 fun _ _ => ?_ | refine zq6 ?_); simp [-getElem?_pos, z0, z1, z2, z0]) | ((first | refine AWp.ret ?_ | refine AWp.skip ?_ | refine AWp.exit ?_); try simp only [thenP]) | (with_reducible refine zq7 ?_; simp only [blockP, thenP, reduceIte]) | with_reducible refine zq8 ?_)
  (first | refine Exec0.call [] c3 ?_ rfl ?_ ?_ | refine Exec.call [] c3 ?_ rfl ?_ ?_); (focus simp [-getElem?_pos, z0]); (focus simp [-getElem?_pos, z0, z1, z2, z0]); simp [-getElem?_pos, z0, z1, z2, z0]
  repeat (first | (with_reducible first | refine zq1 fun _ => ?_ | refine zq2 fun _ => ?_ | refine zq3 ?_) | ((first | refine zq4 ?_ | refine zq5 fun _ _ => ?_ | refine zq6 ?_); simp [-getElem?_pos, z0, z1, z2, z0]) | ((first | refine AWp.ret ?_ | refine AWp.skip ?_ | refine AWp.exit ?_); try simp only [thenP]) | (with_reducible refine zq7 ?_; simp only [blockP, thenP, reduceIte]) | with_reducible refine zq8 ?_)
  (first | refine Exec0.call [] c4 ?_ rfl ?_ ?_ | refine Exec.call [] c4 ?_ rfl ?_ ?_); (focus simp [-getElem?_pos, z0]); (focus simp [-getElem?_pos, z0, z1, z2, z0]); simp [-getElem?_pos, z0, z1, z2, z0]
  repeat (first | (with_reducible first | refine zq1 fun _ => ?_ | refine zq2 fun _ => ?_ | refine zq3 ?_) | ((first | refine zq4 ?_ | refine zq5 fun _ _ => ?_ | refine zq6 ?_); simp [-getElem?_pos, z0, z1, z2, z0]) | ((first | refine AWp.ret ?_ | refine AWp.skip ?_ | refine AWp.exit ?_); try simp only [thenP]) | (with_reducible refine zq7 ?_; simp only [blockP, thenP, reduceIte]) | with_reducible refine zq8 ?_)
  (first | refine Exec0.call [] c5 ?_ rfl ?_ ?_ | refine Exec.call [] c5 ?_ rfl ?_ ?_); (focus simp [-getElem?_pos, z0]); (focus simp [-getElem?_pos, z0, z1, z2, z0]); simp [-getElem?_pos, z0, z1, z2, z0]
  repeat (first | (with_reducible first | refine zq1 fun _ => ?_ | refine zq2 fun _ => ?_ | refine zq3 ?_) | ((first | refine zq4 ?_ | refine zq5 fun _ _ => ?_ | refine zq6 ?_); simp [-getElem?_pos, z0, z1, z2, z0]) | ((first | refine AWp.ret ?_ | refine AWp.skip ?_ | refine AWp.exit ?_); try simp only [thenP]) | (with_reducible refine zq7 ?_; simp only [blockP, thenP, reduceIte]) | with_reducible refine zq8 ?_)
  (first | refine Exec0.call [] ca ?_ rfl ?_ ?_ | refine Exec.call [] ca ?_ rfl ?_ ?_); (focus simp [-getElem?_pos, z0]); (focus simp [-getElem?_pos, z0, z1, z2, z0]); simp [-getElem?_pos, z0, z1, z2, z0]
  (first | refine Exec0.call [] cb2 ?_ rfl ?_ ?_ | refine Exec.call [] cb2 ?_ rfl ?_ ?_); (focus simp [-getElem?_pos, z0]); (focus simp [-getElem?_pos, z0, z1, z2, z0]); simp [-getElem?_pos, z0, z1, z2, z0]
  (first | refine Exec0.call [84] i1 ?_ rfl ?_ ?_ | refine Exec.call [84] i1 ?_ rfl ?_ ?_); (focus simp [-getElem?_pos, z0]); (focus simp [-getElem?_pos, z0, z1, z2, z0]); simp [-getElem?_pos, z0, z1, z2, z0]
  (first | refine Exec0.call [89] i2 ?_ rfl ?_ ?_ | refine Exec.call [89] i2 ?_ rfl ?_ ?_); (focus simp [-getElem?_pos, z0]); (focus simp [-getElem?_pos, z0, z1, z2, z0]); simp [-getElem?_pos, z0, z1, z2, z0]
  (first | refine Exec0.call [] cw ?_ rfl ?_ ?_ | refine Exec.call [] cw ?_ rfl ?_ ?_); (focus simp [-getElem?_pos, z0]); (focus simp [-getElem?_pos, z0, z1, z2, z0]); simp [-getElem?_pos, z0, z1, z2, z0]
  repeat (first | (with_reducible first | refine zq1 fun _ => ?_ | refine zq2 fun _ => ?_ | refine zq3 ?_) | ((first | refine zq4 ?_ | refine zq5 fun _ _ => ?_ | refine zq6 ?_); simp [-getElem?_pos, z0, z1, z2, z0]) | ((first | refine AWp.ret ?_ | refine AWp.skip ?_ | refine AWp.exit ?_); try simp only [thenP]) | (with_reducible refine zq7 ?_; simp only [blockP, thenP, reduceIte]) | with_reducible refine zq8 ?_)
  (first | refine RR.ret ?_ | refine RR.normal ?_); simp [z0]
end Go.Proofs.Ytgiomfamlbmpcaa.Eng

namespace Go.Proofs.Ytgiomfamlbmpcaa
open Go.ChangeShapes Go.WideShapes Go.ChangeAt Go.RowKit
theorem post_later {H : Type} {enc : TypeId × Value → H} {P : Program} {f : Func} {s : ChangeSpec} {apart fresh handsOn again : Bool} {W W' : World} {args : Array Value} {v : Value} {ds gs : List (DataW H)} {before pa pv : List MemPlace}
    (hW : DataW.Whole enc P f.params.toList s.vars apart W args.toList ds gs before) (hsplit : before = pa ++ pv)
    (hr : ∀ (b : Nat) (sp : Nat → Bool) (hd : Bool), DataW.TrodAll enc P W' b sp hd f.resultTypes.toList (v.resultList f.resultTypes.size) (s.fn H (ds ++ gs)).results [])
    (ha : ∀ sp : Nat → Bool, (∀ p ∈ before, sp p.block = true) → DataW.TrodAll enc P W' 0 sp true f.params.toList args.toList (s.fn H (ds ++ gs)).args pa)
    (hv : ∀ sp : Nat → Bool, (∀ p ∈ before, sp p.block = true) → DataW.TrodVars enc P W' sp s.vars (s.fn H (ds ++ gs)).vars pv)
    (hk : ∀ (j : Nat) (t : TypeId) (r : Value), f.resultTypes[j]? = some t → (v.resultList f.resultTypes.size)[j]? = some r → Value.okWide P W' .any 0 t r)
    (hb : Below W.heap.size W W') : s.post enc P f apart fresh handsOn again W args v W' := by
  have inside : ∀ p, p ∈ before → p.block < W.heap.size := fun p hp => hW.lt p hp
  have keep : ∀ p ∈ before, (decide ((p : MemPlace).block < W.heap.size)) = true := fun p hp => decide_eq_true (inside p hp)
  refine ⟨ds, gs, before, [], pa, pv, hW, hr _ _ _, ha (fun b => decide (b < W.heap.size)) keep, hv (fun b => decide (b < W.heap.size)) keep, ?_, ?_⟩
  · refine World.keptBut_mono (fun p hp => ⟨hp, ?_⟩) (hb.frame (· ∈ before))
    right
    rw [hsplit, List.mem_append] at hp
    exact hp
  · intro _
    obtain ⟨_, _, _, _, _, hz, hn⟩ := hW
    have e : [] ++ pa ++ pv = before := by rw [hsplit, List.nil_append]
    refine ⟨hk, _, _, [] ++ pa ++ pv, ⟨[] ++ pa, pv, trodAll_append (ha _ fun _ _ => rfl) (hr _ _ _), hv _ fun _ _ => rfl, rfl, fun b off hp => ?_, fun h => ?_⟩, fun p hp _ => ?_⟩
    · rw [e] at hp
      rw [hb.frozen (inside _ hp)]
      exact hz b off hp
    · have := hn h
      rw [← e] at this
      simpa using this
    · rw [e] at hp
      simpa using hp
end Go.Proofs.Ytgiomfamlbmpcaa

namespace Go.Proofs.Ytgiomfamlbmpcaa.honeKnown
open Go.ChangeShapes Go.WideShapes Go.ChangeAt Go.RowKit
theorem own : ownKnob Try.prog.godebug = none := by kernel_rfl
theorem known_any (w : World) : Calls Try.prog 14 #[] w fun e w' => e = .returned (.bool true) ∧ Below w.heap.size w w' := by
  refine (Eng.honeKnown_call.calls (fun _ => False) w #[] (fun _ h => h.elim) rfl (by simp)).mono ?_
  rintro e w' ⟨v, rfl, hb, hv⟩
  cases hv
  exact ⟨rfl, hb⟩
set_option maxRecDepth 100000 in
theorem lifted (os : Os) (started : os.Started) (H : Type) (enc : TypeId × Value → H) :
    ReturnsInHanded {} Try.checked os 14 .any (Rows.honeKnownSpec.pre6 enc Try.prog Try.f14 Rows.honeKnownRow.domain false) (Rows.honeKnownSpec.post enc Try.prog Try.f14 false true false false) := by
  refine returnsInHanded_of_change (C := Try.checked) own started (by kernel_rfl) Try.func14
    (ChangeSpec.witness6 (enc := enc) (C := Try.checked) false ⟨#[], #[], []⟩ 8 (by kernel_rfl) (by kernel_rfl) (by kernel_rfl) (by kernel_rfl)) ?_
  intro W base args ds gs before hval0 hW hcnd _
  have hW' := hW
  obtain ⟨p, q, hA0, hV, rfl, hfz, hnd⟩ := hW
  have hA : DataW.TrodAll enc Try.prog W 0 (fun _ => true) true Try.f14.params.toList args.toList ds p := hA0
  rw [Try.params14] at hA
  obtain ⟨rfl, rfl, rfl⟩ := trodAll_none hA
  obtain ⟨rfl, rfl⟩ := trodVars_none hV
  clear hA0 hval0
  simp only [List.append_nil] at hW'
  refine (known_any W).mono fun e W' ⟨he, hb⟩ => ?_
  subst he
  exact ⟨_, rfl, post_later (pa := []) (pv := []) hW' rfl (fun _ _ _ => (trodAll_cons_mk (shut_bool Try.underlying4 _) trodAll_mk0)) (fun sp _ => rfl) (fun _ _ => rfl)
    (ok_one (by kernel_rfl) rfl (okWide_bool_mk Try.underlying4 _)) hb⟩
theorem over : Rows.honeKnownRow.holds Try.pinned (OpenSpec.ofChange Rows.honeKnownSpec) :=
  OpenClaim.holds_of_wide 14 Try.f14 rfl rfl rfl rfl rfl rfl rfl ⟨rfl, rfl, rfl, rfl, rfl⟩ rfl rfl rfl rfl rfl (by kernel_rfl) Try.func14 (by kernel_rfl)
    (of_decide_eq_true (by kernel_rfl)) (by unfold Func.isWrapper; first | (rw [if_pos (by decide +kernel)]; kernel_rfl) | (rw [if_neg (by decide +kernel)]; exact ⟨rfl, rfl⟩))
    (fun os started H enc _ => lifted os started H enc)
theorem proved : Rows.HoneKnownSaid := over
end Go.Proofs.Ytgiomfamlbmpcaa.honeKnown
