/-
  A part of the texts that the claim builds on: see the last one.
-/
import Derived.Test.YtcmkkgdjhjpldaaDl6
import Derived.Test.YtcmkkgdjhjpldaaRows
import Derived.ProofKit
import Derived.OpenShut
import Derived.Below
import Derived.ChangeSame
import Derived.ReadAgain
import Derived.Deep.Slices
set_option linter.unusedSimpArgs false
set_option linter.unusedVariables false
noncomputable section
namespace Go.Proofs.Ytcmkkgdjhjpldaa.Eng
open Go.RowKit
variable {P : Program} {T : Tab} {r : Option Nat} {ns n : Nat} {s : St}
theorem ExecS.auto (hT : TabOk P T) {ops : Array Oper} {o : Oper} {l : List Oper} {Q : Nat → St → Prop} (h : match guardS ops ns s o, waits o.op, aop T s.mem n (opd ns s) o.op with
    | some true, false, some out => ExecS P r ns ops (n + 1) l (putS s n o.dst out) Q
    | _, _, _ => False) : ExecS P r ns ops n (o :: l) s Q := by
  split at h
  · rename_i out hg hw hx
    exact ExecS.plain hT hg hw hx h
  · exact h.elim
theorem rep_nil {E : Env} {w : World} {v : Value} (h : Rep E w .nilS v) : v = .slice none 0 0 := by cases h; rfl
theorem ExecS.capNil (hT : TabOk P T) {ops : Array Oper} {o : Oper} {lo : List Oper} {Q : Nat → St → Prop} {cl : Call} {x : Operand} {t e : TypeId} {i : TI} (ho : o.op = .call cl) (hc1 : cl.callee = .builtin .cap) (hc2 : cl.args.toList = [x]) (hc3 : cl.argTypes.toList = [t]) (hg : guardS ops ns s o = some true) (hi : T t = some i) (hk : i.kind = .slice e) (hx : opd ns s x = some .nilS)
    (h : ExecS P r ns ops n lo ⟨setSlot s.slots o.dst (.d (.val (.int .i64 0))), s.mem⟩ Q) : ExecS P r ns ops n (o :: lo) s Q :=
  ⟨hg, fun n' s' => n' = n ∧ s' = ⟨setSlot s.slots o.dst (.d (.val (.int .i64 0))), s.mem⟩, fun W0 R0 B E a w hin hs hd K Q' hK => by
    rw [call_eq hc1 hc2 hc3] at ho
    have hu := slice_und (hT t i hi) hk
    have hv := rep_nil (hs.opd hx)
    refine oper_in (fun c e => by rw [ho] at e; cases e) ?_
    unfold Oper.wp
    have he : (execOp a.eval o).run P w = .ok (.value (goInt 0)) w := by
      simp [execOp, ho, resolve, invoke, builtin, hv, Builtin.cap_, run_underlying hu]
    rw [he]
    exact hK n _ E _ w ⟨rfl, rfl⟩ (hs.put hd (rep_val rfl)), fun n' s' ⟨e1, e2⟩ => by rw [e1, e2]; exact h⟩
theorem ExecS.sliceNil (hT : TabOk P T) {ops : Array Oper} {o : Oper} {lo : List Oper} {Q : Nat → St → Prop} {x y : Operand} {t e : TypeId} {i ie : TI} {kd : IntKind} (ho : o.op = .slice t x none (some y) none) (hg : guardS ops ns s o = some true) (hi : T t = some i) (hk : i.kind = .slice e) (hie : T e = some ie) (hx : opd ns s x = some .nilS) (hy : opd ns s y = some (.d (.val (.int kd 0))))
    (h : ExecS P r ns ops n lo ⟨setSlot s.slots o.dst .nilS, s.mem⟩ Q) : ExecS P r ns ops n (o :: lo) s Q :=
  ⟨hg, fun n' s' => n' = n ∧ s' = ⟨setSlot s.slots o.dst .nilS, s.mem⟩, fun W0 R0 B E a w hin hs hd K Q' hK => by
    have hyv := rep_int (hs.opd hy)
    have hc : sliceC T i .nilS none (some 0) none = some .nilS := by simp [sliceC, hk, hie]
    obtain ⟨z, h1, h2⟩ := sliceC_run (w := w) hT hi Bd.none (Bd.some kd 0) Bd.none hc (hs.opd hx)
    refine oper_in (fun c e => by rw [ho] at e; cases e) ?_
    unfold Oper.wp
    have he : (execOp a.eval o).run P w = .ok (.value z) w := by
      simp only [execOp, ho, Sem.run_bind]
      simp [hyv, h1]
    rw [he]
    exact hK n _ E _ w ⟨rfl, rfl⟩ (hs.put hd h2), fun n' s' ⟨e1, e2⟩ => by rw [e1, e2]; exact h⟩
theorem ExecS.appendZ (hT : TabOk P T) {ops : Array Oper} {o : Oper} {lo : List Oper} {Q : Nat → St → Prop} {cl : Call} {x y : Operand} {t t' e : TypeId} {i i' ie : TI} {kn kd : IntKind} {k : Nat} (ho : o.op = .call cl) (hc1 : cl.callee = .builtin .append) (hc2 : cl.args.toList = [x, y]) (hc3 : cl.argTypes.toList = [t, t']) (hg : guardS ops ns s o = some true) (hi : T t = some i) (hk : i.kind = .slice e) (hi' : T t' = some i') (hk' : i'.kind = .int kn) (hie : T e = some ie) (hx : opd ns s x = some .nilS) (hy : opd ns s y = some (.d (.val (.int kd k)))) (hn : 0 < k) (hf : fitsB k ie.bytes = true)
    (h : ExecS P r ns ops (n + 1) lo ⟨setSlot s.slots o.dst (.own n k ie.size), setMem s.mem n (some (.row e ie.size [] false))⟩ Q) : ExecS P r ns ops n (o :: lo) s Q :=
  ⟨hg, fun n' s' => n' = n + 1 ∧ s' = ⟨setSlot s.slots o.dst (.own n k ie.size), setMem s.mem n (some (.row e ie.size [] false))⟩, fun W0 R0 B E a w hin hs hd K Q' hK => by
    rw [call_eq hc1 hc2 hc3] at ho
    have hu := slice_und (hT t i hi) hk
    have hu' : P.underlying t' = some (.int kn) := by have := (hT _ _ hi').und; rw [hk'] at this; exact this
    obtain ⟨inf, z0, i1, i4, i2, i3, hzs, hz⟩ := zeros_reps (E := E) (w := w) hT hie
    have hsz := (hT e ie hie).pos
    obtain ⟨c2, c3⟩ := fitsB_iff.1 hf
    have hxv := rep_nil (hs.opd hx)
    have hyv := rep_int (hs.opd hy)
    have hr := Lib.run_append_nil_zeros (P := P) w t t' o.type e inf z0 kd kn hu hu' i1 i4 k hn (by rw [i2]; exact hsz) (by simp only [maxLen] at c3; omega) (by rw [i3]; omega)
    have hge := grownCap_ge w k 0 e
    have hcm : grownCap w k 0 e ≤ maxLen := grownCap_le_maxLen w k 0 e c3
    generalize hcap : grownCap w k 0 e = cap at hr hge hcm
    generalize hnew : Builtin.zeroCells z0.cells k ++ Builtin.zeroCells z0.cells (cap - k) = new at hr
    have hcs : new.size = cap * ie.size := by
      rw [← hnew, Array.size_append, size_zeroCells, size_zeroCells, hzs, ← Nat.add_mul]
      congr 1
      omega
    have he : (execOp a.eval o).run P w = .ok (.value (.slice (some ⟨w.heap.size, 0, none⟩) k cap)) (w.drew.alloc (.cells new e)) := by
      simp only [execOp, ho, resolve, invoke, builtin, Sem.run_bind, Sem.run_pure, Result.andThen_ok, List.map_toArray, List.map_cons, List.map_nil, hxv, hyv, hr]
    have hb : Below w.heap.size w (w.drew.alloc (.cells new e)) := ⟨rfl, rfl, rfl, by simp, fun k hk => heap_alloc_old w.drew _ hk⟩
    have hro : ∀ b, E.ro b → (w.drew.alloc (.cells new e)).heap[b]? = w.heap[b]? := fun b hb' => hb.block b (hs.rlt b hb')
    have key := hs.new (i := n) (w' := w.drew.alloc (.cells new e)) (by omega) (.row e ie.size [] false) ⟨w.heap.size, cap, ie.size⟩ (hs.kept hb) hro (fun k c hk => hb.block _ (hs.mem k c hk).lt) (.row _ _ [] false new (heap_alloc_new w.drew _) rfl hcs (Nat.zero_le _) hcm (by simp) (by simp) (by simp)) (hs.fresh (Nat.le_refl _)) rfl (fun hk => Nat.lt_irrefl _ (hs.rlt _ hk)) (fun k c hk e => Nat.lt_irrefl _ (e ▸ (hs.mem k c hk).lt))
    refine oper_in (fun c e => by rw [ho] at e; cases e) ?_
    unfold Oper.wp
    rw [he]
    refine hK (n + 1) _ (E.add n ⟨w.heap.size, cap, ie.size⟩) _ _ ⟨rfl, rfl⟩ ((key.put hd ?_).weak fun i hi => by rcases hi with h | h <;> omega)
    have := Rep.own (E := E.add n ⟨w.heap.size, cap, ie.size⟩) (w := w.drew.alloc (.cells new e)) n k ie.size (.inl rfl) (by simp [Env.add])
    simpa [Env.add] using this, fun n' s' ⟨e1, e2⟩ => by rw [e1, e2]; exact h⟩
theorem ExecS.cut0 (hT : TabOk P T) {ops : Array Oper} {o : Oper} {lo : List Oper} {Q : Nat → St → Prop} {x y : Operand} {t e : TypeId} {i ie : TI} {kd : IntKind} {id k z : Nat} (ho : o.op = .slice t x none (some y) none) (hg : guardS ops ns s o = some true) (hi : T t = some i) (hk : i.kind = .slice e) (hie : T e = some ie) (hx : opd ns s x = some (.own id k z)) (hy : opd ns s y = some (.d (.val (.int kd 0))))
    (h : ExecS P r ns ops n lo ⟨setSlot s.slots o.dst (.own id 0 z), s.mem⟩ Q) : ExecS P r ns ops n (o :: lo) s Q :=
  ⟨hg, fun n' s' => n' = n ∧ s' = ⟨setSlot s.slots o.dst (.own id 0 z), s.mem⟩, fun W0 R0 B E a w hin hs hd K Q' hK => by
    have hyv := rep_int (hs.opd hy)
    have hu := slice_und (hT t i hi) hk
    have hsz := (hT e ie hie).sizeOf w
    obtain ⟨u, hu'⟩ : ∃ u, a.eval x = u := ⟨_, rfl⟩
    have hr := hs.opd hx
    rw [hu'] at hr
    cases hr with
    | own _ _ _ hdm hz =>
    have hb := bounds_run (P := P) (w := w) (isS := true) (len := k) (cap := (E.home id).cap) Bd.none (Bd.some kd 0) Bd.none (by simp) (by simp) (by simp) (by simp) (by simp)
    simp only [Option.getD_none, Option.getD_some] at hb
    refine oper_in (fun c e => by rw [ho] at e; cases e) ?_
    unfold Oper.wp
    have he : (execOp a.eval o).run P w = .ok (.value (.slice (some ⟨(E.home id).blk, 0, none⟩) 0 (E.home id).cap)) w := by
      simp only [execOp, ho, Sem.run_bind]
      simp [hyv, hu', Instr.sliceAt, Instr.slice, run_underlying hu, hsz, hb, Addr.add_lit]
    rw [he]
    exact hK n _ E _ w ⟨rfl, rfl⟩ (hs.put hd (.own id 0 z hdm hz)), fun n' s' ⟨e1, e2⟩ => by rw [e1, e2]; exact h⟩
theorem ExecS.append0 (hT : TabOk P T) {ops : Array Oper} {o : Oper} {lo : List Oper} {Q : Nat → St → Prop} {cl : Call} {x y : Operand} {t e : TypeId} {i ie : TI} (ho : o.op = .call cl) (hc1 : cl.callee = .builtin .append) (hc2 : cl.args.toList = [x, y]) (hc3 : cl.argTypes.toList = [t, t]) (hg : guardS ops ns s o = some true) (hi : T t = some i) (hk : i.kind = .slice e) (hie : T e = some ie) (hx : opd ns s x = some .nilS) (hy : opd ns s y = some (.d (.list [])))
    (h : ExecS P r ns ops n lo ⟨setSlot s.slots o.dst .nilS, s.mem⟩ Q) : ExecS P r ns ops n (o :: lo) s Q :=
  ⟨hg, fun n' s' => n' = n ∧ s' = ⟨setSlot s.slots o.dst .nilS, s.mem⟩, fun W0 R0 B E a w hin hs hd K Q' hK => by
    rw [call_eq hc1 hc2 hc3] at ho
    have hu := slice_und (hT t i hi) hk
    have hsz := (hT e ie hie).sizeOf w
    obtain ⟨inf, z0, i1, i4, i2, i3, hzs, hz⟩ := zeros_reps (E := E) (w := w) hT hie
    have hxv := rep_nil (hs.opd hx)
    obtain ⟨u, hu'⟩ : ∃ u, a.eval y = u := ⟨_, rfl⟩
    have hr := hs.opd hy
    rw [hu'] at hr
    cases hr with
    | d _ _ hr =>
    cases hr with
    | list _ A c f q1 q2 q3 q4 q5 =>
    have hrun : (Builtin.append_ #[t, t] o.type #[.slice none 0 0, .slice A 0 c]).run P w = .ok (.slice none 0 0) w := by
      cases A with
      | none => simp [Builtin.append_, run_underlying hu, sizeOf, typeInfo, i1, Builtin.lenOf, Builtin.firstCells]
      | some ad =>
        have hfc := run_firstCells_some (P := P) w inf.size 0 ad 0 c [] (by simp) (by simp)
        simp [Builtin.append_, run_underlying hu, sizeOf, typeInfo, i1, Builtin.lenOf, hfc]
    refine oper_in (fun c e => by rw [ho] at e; cases e) ?_
    unfold Oper.wp
    have he : (execOp a.eval o).run P w = .ok (.value (.slice none 0 0)) w := by
      simp only [execOp, ho, resolve, invoke, builtin, Sem.run_bind, Sem.run_pure, Result.andThen_ok, List.map_toArray, List.map_cons, List.map_nil, hxv, hu', List.length_nil, hrun]
    rw [he]
    exact hK n _ E _ w ⟨rfl, rfl⟩ (hs.put hd .nilS), fun n' s' ⟨e1, e2⟩ => by rw [e1, e2]; exact h⟩
end Go.Proofs.Ytcmkkgdjhjpldaa.Eng

noncomputable section
namespace Go.Proofs.Ytcmkkgdjhjpldaa.Eng
open Go.RowKit
set_option maxRecDepth 100000 in
set_option maxHeartbeats 8000000 in
theorem grow_w (k : Nat) (hk : k ≤ 1000) (n : Nat) (m : Mem) : CWp Try.prog 83 [.nilS, .d (iD (k : Int))] n m fun y n' m' => n ≤ n' ∧ (∀ j, j < n → m' j = m j) ∧ ((k = 0 ∧ y = .nilS) ∨ (0 < k ∧ ∃ id, n ≤ id ∧ id < n' ∧ y = .own id 0 3 ∧ m' id = some (.row 54 3 [] false))) := by
  have w1 : IntKind.i64.wrap (k : Int) = (k : Int) := wrap64_in (by omega)
  have hn : ¬ (k : Int) < 0 := by omega
  have w0 : IntKind.i64.wrap 0 = 0 := wrap64_in (by omega)
  refine cwpK tabOk Try.func83 rfl rfl (show 2 ≤ _ by decide) rfl fun _ => ?_; simp only [Try.ntmps83]
  repeat (first | (with_reducible first | refine AWi.seqK fun _ => ?_ | refine AWi.blockK fun _ => ?_ | refine KI.go ?_) | (refine AWi.condK fun _ _ => ?_; simp [-getElem?_pos, z0, z1, z2, z0]) | ((first | refine AWi.ret ?_ | refine AWi.skip ?_ | refine AWi.exit ?_); try simp only [thenP]) | (with_reducible refine BB.go ?_; simp only [blockP, thenP, reduceIte]))
  refine AWi.region tabOk ?_
  simp [-getElem?_pos, z0, z1, z2]
  repeat (first | (with_reducible first | refine AWi.seqK fun _ => ?_ | refine AWi.blockK fun _ => ?_ | refine KI.go ?_) | (refine AWi.condK fun _ _ => ?_; simp [-getElem?_pos, z0, z1, z2, z0]) | ((first | refine AWi.ret ?_ | refine AWi.skip ?_ | refine AWi.exit ?_); try simp only [thenP]) | (with_reducible refine BB.go ?_; simp only [blockP, thenP, reduceIte]))
  refine AWi.region tabOk ?_
  simp [-getElem?_pos, z0, z1, z2, hn]
  repeat (first | (with_reducible first | refine AWi.seqK fun _ => ?_ | refine AWi.blockK fun _ => ?_ | refine KI.go ?_) | (refine AWi.condK fun _ _ => ?_; simp [-getElem?_pos, z0, z1, z2, z0]) | ((first | refine AWi.ret ?_ | refine AWi.skip ?_ | refine AWi.exit ?_); try simp only [thenP]) | (with_reducible refine BB.go ?_; simp only [blockP, thenP, reduceIte]))
  refine AWi.regionS ?_
  iterate 2 (with_reducible refine ExecS.auto tabOk ?_; simp [-getElem?_pos, z0, z1, z2, z0])
  refine ExecS.capNil tabOk rfl rfl rfl rfl rfl (TB22) rfl (by simp [-getElem?_pos, z0, z1, z2]) ?_
  iterate 5 (with_reducible refine ExecS.auto tabOk ?_; simp [-getElem?_pos, z0, z1, z2, w0, w1, Int.sub_zero])
  simp only [ExecS]
  repeat (first | (with_reducible first | refine AWi.seqK fun _ => ?_ | refine AWi.blockK fun _ => ?_ | refine KI.go ?_) | (refine AWi.condK fun _ _ => ?_; simp [-getElem?_pos, z0, z1, z2, z0]) | ((first | refine AWi.ret ?_ | refine AWi.skip ?_ | refine AWi.exit ?_); try simp only [thenP]) | (with_reducible refine BB.go ?_; simp only [blockP, thenP, reduceIte]))
  refine AWi.region tabOk ?_
  simp [-getElem?_pos, z0, z1, z2]
  by_cases hk0 : 0 < k
  · simp [hk0]
    repeat (first | (with_reducible first | refine AWi.seqK fun _ => ?_ | refine AWi.blockK fun _ => ?_ | refine KI.go ?_) | (refine AWi.condK fun _ _ => ?_; simp [-getElem?_pos, z0, z1, z2, hk0]) | ((first | refine AWi.ret ?_ | refine AWi.skip ?_ | refine AWi.exit ?_); try simp only [thenP]) | (with_reducible refine BB.go ?_; simp only [blockP, thenP, reduceIte]))
    refine AWi.regionS ?_
    iterate 2 (with_reducible refine ExecS.auto tabOk ?_; simp [-getElem?_pos, z0, z1, z2, z0])
    refine ExecS.capNil tabOk rfl rfl rfl rfl rfl (TB22) rfl (by simp [-getElem?_pos, z0, z1, z2]) ?_
    refine ExecS.sliceNil tabOk (kd := .i64) rfl rfl (TB22) rfl (TB54) (by simp [-getElem?_pos, z0, z1, z2]) (by simp [-getElem?_pos, z0, z1, z2]) ?_
    (with_reducible refine ExecS.auto tabOk ?_; simp [-getElem?_pos, z0, z1, z2, z0])
    refine ExecS.appendZ tabOk (k := k) (kd := .i64) rfl rfl rfl rfl rfl (TB22) rfl (TB3) rfl (TB54) (by simp [-getElem?_pos, z0, z1, z2]) (by simp [-getElem?_pos, z0, z1, z2]) hk0 (fitsB_small (by omega) (by simp)) ?_
    iterate 2 (with_reducible refine ExecS.auto tabOk ?_; simp [-getElem?_pos, z0, z1, z2, z0])
    refine ExecS.cut0 tabOk (id := n + 1 + 1 + 1 + 1 + 1 + 1 + 1 + 1 + 1 + 1 + 1 + 1 + 1 + 1 + 1) (k := k) (z := 3) (kd := .i64) rfl rfl (TB22) rfl (TB54) (by simp [-getElem?_pos, z0, z1, z2]) (by simp [-getElem?_pos, z0, z1, z2]) ?_
    (with_reducible refine ExecS.auto tabOk ?_; simp [-getElem?_pos, z0, z1, z2, z0])
    simp only [ExecS]
    repeat (first | (with_reducible first | refine AWi.seqK fun _ => ?_ | refine AWi.blockK fun _ => ?_ | refine KI.go ?_) | ((first | refine AWi.region tabOk ?_ | refine AWi.condK fun _ _ => ?_); simp [-getElem?_pos, z0, z1, z2, z0]) | ((first | refine AWi.ret ?_ | refine AWi.skip ?_ | refine AWi.exit ?_); try simp only [thenP]) | (with_reducible refine BB.go ?_; simp only [blockP, thenP, reduceIte]))
    exact RI.ret rfl ⟨by omega, fun j hj => by simp [show ¬ j = n + 1 + 1 + 1 + 1 + 1 + 1 + 1 + 1 + 1 + 1 + 1 + 1 + 1 + 1 + 1 by omega], .inr ⟨hk0, n + 1 + 1 + 1 + 1 + 1 + 1 + 1 + 1 + 1 + 1 + 1 + 1 + 1 + 1 + 1, by omega, by omega, rfl, by simp⟩⟩
  · simp [hk0]
    repeat (first | (with_reducible first | refine AWi.seqK fun _ => ?_ | refine AWi.blockK fun _ => ?_ | refine KI.go ?_) | ((first | refine AWi.region tabOk ?_ | refine AWi.condK fun _ _ => ?_); simp [-getElem?_pos, z0, z1, z2, hk0]) | ((first | refine AWi.ret ?_ | refine AWi.skip ?_ | refine AWi.exit ?_); try simp only [thenP]) | (with_reducible refine BB.go ?_; simp only [blockP, thenP, reduceIte]))
    exact RI.ret rfl ⟨by omega, fun j hj => rfl, .inl ⟨by omega, rfl⟩⟩
def sumK (a b : Nat) : Nat → Nat
  | 0 => 0
  | 1 => a
  | _ => a + b
def partK (l1 l2 : List HS) : Nat → List HS
  | 0 => []
  | 1 => l1
  | _ => l1 ++ l2
set_option maxRecDepth 100000 in
set_option maxHeartbeats 8000000 in
theorem concat_w (l1 l2 : List HS) (h1 : l1.length ≤ 100) (h2 : l2.length ≤ 100) (ida n : Nat) (m : Mem) {z : Bool} (hid : ida < n) (hm : m ida = some (.row 22 1 [[boxD l1], [boxD l2]] z)) : CWp Try.prog 67 [.own ida 2 1] n m fun y n' m' => n ≤ n' ∧ (∀ j, j < n → m' j = m j) ∧ ((l1 ++ l2 = [] ∧ y = .nilS) ∨ 0 < (l1 ++ l2).length ∧ ∃ id, n ≤ id ∧ id < n' ∧ y = .own id (l1 ++ l2).length 3 ∧ m' id = some (.row 54 3 (hsRows (l1 ++ l2)) false)) := by
  refine cwpK tabOk Try.func67 rfl rfl (show 1 ≤ _ by decide) rfl fun _ => ?_; simp only [Try.ntmps67]
  repeat (first | (with_reducible first | refine AWi.seqK fun _ => ?_ | refine AWi.blockK fun _ => ?_ | refine KI.go ?_) | ((first | refine AWi.region tabOk ?_ | refine AWi.condK fun _ _ => ?_); simp [-getElem?_pos, z0, z1, z2, z0]) | ((first | refine AWi.ret ?_ | refine AWi.skip ?_ | refine AWi.exit ?_); try simp only [thenP]) | (with_reducible refine BB.go ?_; simp only [blockP, thenP, reduceIte]))
  refine AWi.loopK (fun (k : Nat) n1 s => n ≤ n1 ∧ s.slots 0 = .own ida 2 1 ∧ s.slots 9 = .own ida 2 1 ∧ s.slots 10 = .d (iD 2) ∧ s.slots 11 = .d (iD k) ∧ s.slots 3 = .d (iD (sumK l1.length l2.length k : Nat)) ∧ (∀ j, j < n → s.mem j = m j) ∧ k ≤ 2) (fun k => 2 - k) 0 ?_ ?_
  · exact ⟨by omega, by simp, by simp, by simp [iD], by simp [iD], by simp [iD, sumK], fun j hj => by simp, by omega⟩
  rintro k n1 s ⟨hle, s0, s9, s10, s11, s3, low, hk⟩ kk
  have ma := (low ida hid).trans hm
  have hz1 : (∀ r : List Dat, r ∈ hsRows l1 → r.length = 3) = True := eq_true fun r hr => by obtain ⟨t, _, rfl⟩ := List.mem_map.1 hr; rfl
  have hz2 : (∀ r : List Dat, r ∈ hsRows l2 → r.length = 3) = True := eq_true fun r hr => by obtain ⟨t, _, rfl⟩ := List.mem_map.1 hr; rfl
  have hl1 : (hsRows l1).length = l1.length := by simp
  have hl2 : (hsRows l2).length = l2.length := by simp
  by_cases hlt : k < 2
  · rcases k with _ | _ | k
    · have w1 : IntKind.i64.wrap (l1.length : Int) = l1.length := wrap64_in (by omega)
      have hn : ¬ (l1.length : Int) < 0 := by omega
      have w2 : IntKind.i64.wrap 1 = 1 := wrap64_in (by omega)
      simp only [sumK] at s3
      repeat (first | (with_reducible first | refine AWi.seqK fun _ => ?_ | refine AWi.blockK fun _ => ?_ | refine KI.go ?_) | ((first | refine AWi.region tabOk ?_ | refine AWi.condK fun _ _ => ?_); simp [-getElem?_pos, z0, z1, z2, s0, s9, s10, s11, s3, ma, hl1, w1, hn, w2]) | ((first | refine AWi.ret ?_ | refine AWi.skip ?_ | refine AWi.exit ?_); try simp only [thenP]) | (with_reducible refine BB.go ?_; simp only [blockP, thenP, reduceIte]))
      refine LI.go 1 ⟨by omega, by simp [s0], by simp [s9], by simp [s10], by simp [iD], by simp [iD, sumK], low, by omega⟩ (by omega)
    · have w1 : IntKind.i64.wrap ((l1.length : Int) + l2.length) = (l1.length : Int) + l2.length := wrap64_in (by omega)
      have hn : ¬ (l1.length : Int) + l2.length < 0 := by omega
      have w2 : IntKind.i64.wrap 2 = 2 := wrap64_in (by omega)
      simp only [sumK] at s3
      repeat (first | (with_reducible first | refine AWi.seqK fun _ => ?_ | refine AWi.blockK fun _ => ?_ | refine KI.go ?_) | ((first | refine AWi.region tabOk ?_ | refine AWi.condK fun _ _ => ?_); simp [-getElem?_pos, z0, z1, z2, s0, s9, s10, s11, s3, ma, hl2, w1, hn, w2]) | ((first | refine AWi.ret ?_ | refine AWi.skip ?_ | refine AWi.exit ?_); try simp only [thenP]) | (with_reducible refine BB.go ?_; simp only [blockP, thenP, reduceIte]))
      refine LI.go 2 ⟨by omega, by simp [s0], by simp [s9], by simp [s10], by simp [iD], by simp [iD, sumK], low, by omega⟩ (by omega)
    · omega
  · obtain rfl : k = 2 := by omega
    repeat (first | (with_reducible first | refine AWi.seqK fun _ => ?_ | refine AWi.blockK fun _ => ?_ | refine KI.go ?_) | ((first | refine AWi.region tabOk ?_ | refine AWi.condK fun _ _ => ?_); simp [-getElem?_pos, z0, z1, z2, s0, s9, s10, s11, s3]) | ((first | refine AWi.ret ?_ | refine AWi.skip ?_ | refine AWi.exit ?_); try simp only [thenP]) | (with_reducible refine BB.go ?_; simp only [blockP, thenP, reduceIte]))
    refine ExecI.callC (grow_w (sumK l1.length l2.length 2) (by simp only [sumK]; omega) _ _) rfl (by simp [calleeS, evList]) ?_
    rintro y n2 m2 ⟨hn2, hm2, hy⟩
    simp [-getElem?_pos, z0, z1, z2]
    have low2 : ∀ j, j < n → m2 j = m j := fun j hj => (hm2 j (by omega)).trans (low j hj)
    have ma2 := (low2 ida hid).trans hm
    have hsum : sumK l1.length l2.length 2 = (l1 ++ l2).length := by simp [sumK]
    rw [hsum] at hy
    repeat (first | (with_reducible first | refine AWi.seqK fun _ => ?_ | refine AWi.blockK fun _ => ?_ | refine KI.go ?_) | ((first | refine AWi.region tabOk ?_ | refine AWi.condK fun _ _ => ?_); simp [-getElem?_pos, z0, z1, z2, s0]) | ((first | refine AWi.ret ?_ | refine AWi.skip ?_ | refine AWi.exit ?_); try simp only [thenP]) | (with_reducible refine BB.go ?_; simp only [blockP, thenP, reduceIte]))
    refine AWi.loopK (fun (k : Nat) n1 s => n2 ≤ n1 ∧ s.slots 25 = .own ida 2 1 ∧ s.slots 26 = .d (iD 2) ∧ s.slots 27 = .d (iD k) ∧ (∀ j, j < n → s.mem j = m j) ∧ k ≤ 2 ∧ ((l1 ++ l2 = [] ∧ s.slots 6 = .nilS) ∨ 0 < (l1 ++ l2).length ∧ ∃ id, n ≤ id ∧ id < n1 ∧ s.slots 6 = .own id (partK l1 l2 k).length 3 ∧ s.mem id = some (.row 54 3 (hsRows (partK l1 l2 k)) false))) (fun k => 2 - k) 0 ?_ ?_
    · refine ⟨by omega, by simp, by simp [iD], by simp [iD], fun j hj => low2 j hj, by omega, ?_⟩
      rcases hy with ⟨h0, rfl⟩ | ⟨h0, id, i1, i2, rfl, i3⟩
      · exact .inl ⟨List.length_eq_zero_iff.1 h0, by simp⟩
      · exact .inr ⟨h0, id, by omega, by omega, by simp [partK], i3⟩
    have fb : fitsB (l1.length) 24 = true := fitsB_small (by omega) (by omega)
    have fb2 : fitsB (l1.length + l2.length) 24 = true := fitsB_small (by omega) (by omega)
    rintro k n3 s3 ⟨hle3, t25, t26, t27, low3, hk3, hq⟩ kk3
    have ma3 := (low3 ida hid).trans hm
    by_cases hlt3 : k < 2
    · rcases k with _ | _ | k
      · have w2 : IntKind.i64.wrap 1 = 1 := wrap64_in (by omega)
        repeat (first | (with_reducible first | refine AWi.seqK fun _ => ?_ | refine AWi.blockK fun _ => ?_ | refine KI.go ?_) | (refine AWi.condK fun _ _ => ?_; simp [-getElem?_pos, z0, z1, z2, z0]) | ((first | refine AWi.ret ?_ | refine AWi.skip ?_ | refine AWi.exit ?_); try simp only [thenP]) | (with_reducible refine BB.go ?_; simp only [blockP, thenP, reduceIte]))
        refine AWi.region tabOk ?_
        simp [-getElem?_pos, z0, z1, z2, t26, t27]
        repeat (first | (with_reducible first | refine AWi.seqK fun _ => ?_ | refine AWi.blockK fun _ => ?_ | refine KI.go ?_) | (refine AWi.condK fun _ _ => ?_; simp [-getElem?_pos, z0, z1, z2, z0]) | ((first | refine AWi.ret ?_ | refine AWi.skip ?_ | refine AWi.exit ?_); try simp only [thenP]) | (with_reducible refine BB.go ?_; simp only [blockP, thenP, reduceIte]))
        refine AWi.region tabOk ?_
        simp [-getElem?_pos, z0, z1, z2, t25, t27, ma3]
        repeat (first | (with_reducible first | refine AWi.seqK fun _ => ?_ | refine AWi.blockK fun _ => ?_ | refine KI.go ?_) | (refine AWi.condK fun _ _ => ?_; simp [-getElem?_pos, z0, z1, z2, z0]) | ((first | refine AWi.ret ?_ | refine AWi.skip ?_ | refine AWi.exit ?_); try simp only [thenP]) | (with_reducible refine BB.go ?_; simp only [blockP, thenP, reduceIte]))
        rcases hq with ⟨q1, q2⟩ | ⟨q0, id, q1, q2, q3, q4⟩
        · obtain ⟨rfl, rfl⟩ := List.append_eq_nil_iff.1 q1
          refine AWi.regionS ?_
          iterate 2 (with_reducible refine ExecS.auto tabOk ?_; simp [-getElem?_pos, z0, z1, z2, q2])
          refine ExecS.append0 tabOk rfl rfl rfl rfl rfl (TB22) rfl (TB54) (by simp [-getElem?_pos, z0, z1, z2]) (by simp [-getElem?_pos, z0, z1, z2]) ?_
          (with_reducible refine ExecS.auto tabOk ?_; simp [-getElem?_pos, z0, z1, z2, z0])
          simp only [ExecS]
          repeat (first | (with_reducible first | refine AWi.seqK fun _ => ?_ | refine AWi.blockK fun _ => ?_ | refine KI.go ?_) | ((first | refine AWi.region tabOk ?_ | refine AWi.condK fun _ _ => ?_); simp [-getElem?_pos, z0, z1, z2, t27, w2]) | ((first | refine AWi.ret ?_ | refine AWi.skip ?_ | refine AWi.exit ?_); try simp only [thenP]) | (with_reducible refine BB.go ?_; simp only [blockP, thenP, reduceIte]))
          refine LI.go 1 ⟨by omega, by simp [t25], by simp [t26], by simp [iD], fun j hj => low3 j hj, by omega, .inl ⟨rfl, by simp⟩⟩ (by omega)
        · refine AWi.region tabOk ?_
          simp [-getElem?_pos, z0, z1, z2, q3, q4, partK, fb, fb2, hz1, hz2, hl1, hl2]
          repeat (first | (with_reducible first | refine AWi.seqK fun _ => ?_ | refine AWi.blockK fun _ => ?_ | refine KI.go ?_) | ((first | refine AWi.region tabOk ?_ | refine AWi.condK fun _ _ => ?_); simp [-getElem?_pos, z0, z1, z2, t27, w2]) | ((first | refine AWi.ret ?_ | refine AWi.skip ?_ | refine AWi.exit ?_); try simp only [thenP]) | (with_reducible refine BB.go ?_; simp only [blockP, thenP, reduceIte]))
          refine LI.go 1 ⟨by omega, by simp [t25], by simp [t26], by simp [iD], fun j hj => by simp [show ¬ j = n3 + 1 + 1 + 1 + 1 + 1 + 1 by omega, show ¬ j = id by omega, low3 j hj], by omega, .inr ⟨q0, n3 + 1 + 1 + 1 + 1 + 1 + 1, by omega, by omega, by simp [partK], by simp [partK]⟩⟩ (by omega)
      · have w2 : IntKind.i64.wrap 2 = 2 := wrap64_in (by omega)
        repeat (first | (with_reducible first | refine AWi.seqK fun _ => ?_ | refine AWi.blockK fun _ => ?_ | refine KI.go ?_) | (refine AWi.condK fun _ _ => ?_; simp [-getElem?_pos, z0, z1, z2, z0]) | ((first | refine AWi.ret ?_ | refine AWi.skip ?_ | refine AWi.exit ?_); try simp only [thenP]) | (with_reducible refine BB.go ?_; simp only [blockP, thenP, reduceIte]))
        refine AWi.region tabOk ?_
        simp [-getElem?_pos, z0, z1, z2, t26, t27]
        repeat (first | (with_reducible first | refine AWi.seqK fun _ => ?_ | refine AWi.blockK fun _ => ?_ | refine KI.go ?_) | (refine AWi.condK fun _ _ => ?_; simp [-getElem?_pos, z0, z1, z2, z0]) | ((first | refine AWi.ret ?_ | refine AWi.skip ?_ | refine AWi.exit ?_); try simp only [thenP]) | (with_reducible refine BB.go ?_; simp only [blockP, thenP, reduceIte]))
        refine AWi.region tabOk ?_
        simp [-getElem?_pos, z0, z1, z2, t25, t27, ma3]
        repeat (first | (with_reducible first | refine AWi.seqK fun _ => ?_ | refine AWi.blockK fun _ => ?_ | refine KI.go ?_) | (refine AWi.condK fun _ _ => ?_; simp [-getElem?_pos, z0, z1, z2, z0]) | ((first | refine AWi.ret ?_ | refine AWi.skip ?_ | refine AWi.exit ?_); try simp only [thenP]) | (with_reducible refine BB.go ?_; simp only [blockP, thenP, reduceIte]))
        rcases hq with ⟨q1, q2⟩ | ⟨q0, id, q1, q2, q3, q4⟩
        · obtain ⟨rfl, rfl⟩ := List.append_eq_nil_iff.1 q1
          refine AWi.regionS ?_
          iterate 2 (with_reducible refine ExecS.auto tabOk ?_; simp [-getElem?_pos, z0, z1, z2, q2])
          refine ExecS.append0 tabOk rfl rfl rfl rfl rfl (TB22) rfl (TB54) (by simp [-getElem?_pos, z0, z1, z2]) (by simp [-getElem?_pos, z0, z1, z2]) ?_
          (with_reducible refine ExecS.auto tabOk ?_; simp [-getElem?_pos, z0, z1, z2, z0])
          simp only [ExecS]
          repeat (first | (with_reducible first | refine AWi.seqK fun _ => ?_ | refine AWi.blockK fun _ => ?_ | refine KI.go ?_) | ((first | refine AWi.region tabOk ?_ | refine AWi.condK fun _ _ => ?_); simp [-getElem?_pos, z0, z1, z2, t27, w2]) | ((first | refine AWi.ret ?_ | refine AWi.skip ?_ | refine AWi.exit ?_); try simp only [thenP]) | (with_reducible refine BB.go ?_; simp only [blockP, thenP, reduceIte]))
          refine LI.go 2 ⟨by omega, by simp [t25], by simp [t26], by simp [iD], fun j hj => low3 j hj, by omega, .inl ⟨rfl, by simp⟩⟩ (by omega)
        · refine AWi.region tabOk ?_
          simp [-getElem?_pos, z0, z1, z2, q3, q4, partK, fb, fb2, hz1, hz2, hl1, hl2]
          repeat (first | (with_reducible first | refine AWi.seqK fun _ => ?_ | refine AWi.blockK fun _ => ?_ | refine KI.go ?_) | ((first | refine AWi.region tabOk ?_ | refine AWi.condK fun _ _ => ?_); simp [-getElem?_pos, z0, z1, z2, t27, w2]) | ((first | refine AWi.ret ?_ | refine AWi.skip ?_ | refine AWi.exit ?_); try simp only [thenP]) | (with_reducible refine BB.go ?_; simp only [blockP, thenP, reduceIte]))
          refine LI.go 2 ⟨by omega, by simp [t25], by simp [t26], by simp [iD], fun j hj => by simp [show ¬ j = n3 + 1 + 1 + 1 + 1 + 1 + 1 by omega, show ¬ j = id by omega, low3 j hj], by omega, .inr ⟨q0, n3 + 1 + 1 + 1 + 1 + 1 + 1, by omega, by omega, by simp [partK], by simp [partK, hsRows]⟩⟩ (by omega)
      · omega
    · obtain rfl : k = 2 := by omega
      rcases hq with ⟨q1, q2⟩ | ⟨q0, id, q1, q2, q3, q4⟩
      · repeat (first | (with_reducible first | refine AWi.seqK fun _ => ?_ | refine AWi.blockK fun _ => ?_ | refine KI.go ?_) | ((first | refine AWi.region tabOk ?_ | refine AWi.condK fun _ _ => ?_); simp [-getElem?_pos, z0, z1, z2, t25, t26, t27, q2]) | ((first | refine AWi.ret ?_ | refine AWi.skip ?_ | refine AWi.exit ?_); try simp only [thenP]) | (with_reducible refine BB.go ?_; simp only [blockP, thenP, reduceIte]))
        exact RI.ret rfl ⟨by omega, low3, .inl ⟨q1, rfl⟩⟩
      · repeat (first | (with_reducible first | refine AWi.seqK fun _ => ?_ | refine AWi.blockK fun _ => ?_ | refine KI.go ?_) | ((first | refine AWi.region tabOk ?_ | refine AWi.condK fun _ _ => ?_); simp [-getElem?_pos, z0, z1, z2, t25, t26, t27, q3]) | ((first | refine AWi.ret ?_ | refine AWi.skip ?_ | refine AWi.exit ?_); try simp only [thenP]) | (with_reducible refine BB.go ?_; simp only [blockP, thenP, reduceIte]))
        exact RI.ret rfl ⟨by omega, low3, .inr ⟨q0, id, q1, by omega, rfl, q4⟩⟩
end Go.Proofs.Ytcmkkgdjhjpldaa.Eng

noncomputable section
namespace Go.Proofs.Ytcmkkgdjhjpldaa.Eng
open Go.RowKit
theorem concat_r (l1 l2 : List HS) (h1 : l1.length ≤ 100) (h2 : l2.length ≤ 100) (ida : Nat) (m : Mem) {z : Bool} (hm : m ida = some (.row 22 1 [[boxD l1], [boxD l2]] z)) : RCall Try.prog 67 [.own ida 2 1] (boxD (l1 ++ l2)) m := by
  by_cases h : l1 ++ l2 = []
  · rw [h]
    refine RCall.of4 (n0 := ida + 1) fun n hn => (concat_w l1 l2 h1 h2 ida n m (by omega) hm).mono ?_
    rintro y n' m' ⟨q1, q2, ⟨q3, rfl⟩ | ⟨q0, id, q3, q4, rfl, q5⟩⟩
    · exact ⟨rfl, q2⟩
    · rw [h] at q0
      exact absurd q0 (by simp)
  · refine RCall.ofOwn (n0 := ida + 1) fun n hn => (concat_w l1 l2 h1 h2 ida n m (by omega) hm).mono ?_
    rintro y n' m' ⟨q1, q2, ⟨q3, rfl⟩ | ⟨q0, id, q3, q4, rfl, q5⟩⟩
    · exact absurd q3 h
    · exact ⟨⟨id, 3, _, q3, by rw [hsRows_len], q5⟩, q2⟩
def woS (l : List HS) (i : Nat) : List HS := l.take i ++ l.drop (i + 1)
def spareL (l : List HS) (e g : HE) (k i : Nat) : List Int := ((List.range i).filter fun j => decide (needN (woS l j) g e = some k)).map fun j : Nat => (j : Int)
def spareO (l : List HS) (e g : HE) : List Int := if chkErr l [e, g] = 0 then (match needN l g e with
  | some k => spareL l e g k l.length
  | none => []) else []
theorem woS_ok {l : List HS} (h : l.all okS = true) (i : Nat) : (woS l i).all okS = true := by
  rw [List.all_eq_true] at h ⊢
  intro s hs
  rcases List.mem_append.1 hs with hs | hs
  · exact h s (List.mem_of_mem_take hs)
  · exact h s (List.mem_of_mem_drop hs)
theorem woS_len (l : List HS) (i : Nat) : (woS l i).length ≤ l.length := by
  rw [woS, List.length_append, List.length_take, List.length_drop]
  omega
theorem hsRows_take (l : List HS) (i : Nat) : (hsRows l).take i = hsRows (l.take i) := by simp [hsRows]
theorem hsRows_drop (l : List HS) (i : Nat) : (hsRows l).drop i = hsRows (l.drop i) := by simp [hsRows]
set_option maxRecDepth 100000 in
set_option maxHeartbeats 8000000 in
theorem spare_ok (l : List HS) (e g : HE) (n : Nat) (m : Mem) (h0 : chkErr l [e, g] = 0) {k : Nat} (hneed : needN l g e = some k) :
    CWp Try.prog 36 [.d (boxD l), .d (edgD e), .d (edgD g)] n m fun y _ m' => toD4 y = some (.tup [intL (spareL l e g k l.length), iD 0]) ∧ ∀ j, j < n → m' j = m j := by
  obtain ⟨hb, hes⟩ := chkOk h0
  have ge := goodE (e := e) (by simp at hes; exact hes.1)
  have gg := goodE (e := g) (by simp at hes; exact hes.2)
  obtain ⟨hk1, hk2⟩ := rows_take hneed
  have hn6 := hb.n2
  refine cwpK tabOk Try.func36 rfl rfl (show 3 ≤ _ by decide) rfl fun _ => ?_; simp only [Try.ntmps36]
  repeat (first | (with_reducible first | refine AWi.seqK fun _ => ?_ | refine AWi.blockK fun _ => ?_ | refine KI.go ?_) | ((first | refine AWi.region tabOk ?_ | refine AWi.condK fun _ _ => ?_); simp [-getElem?_pos, z0, z1, z2, z0]) | ((first | refine AWi.ret ?_ | refine AWi.skip ?_ | refine AWi.exit ?_); try simp only [thenP]) | (with_reducible refine BB.go ?_; simp only [blockP, thenP, reduceIte]))
  refine ExecI.callC (checkReach_w l e g _ _) rfl (by simp [calleeS, evList]) ?_
  rintro y n1 m1 ⟨hn1, hm1, hy⟩
  have hlow : ∀ j, j < n → m1 j = m j := fun j hj => (hm1 j (by omega)).trans (by (try dsimp only); repeat (first | rw [setMem_lt (by omega)] | rw [putN_lt (by omega)]))
  have he : m1 n = some (.box 24 [.d (iD e.depth), .d (iD e.burr)] false) := (hm1 n (by omega)).trans (by simp)
  have hg : m1 (n + 1) = some (.box 24 [.d (iD g.depth), .d (iD g.burr)] false) := (hm1 (n + 1) (by omega)).trans (by simp)
  rw [if_pos h0, hneed] at hy
  obtain ⟨c, rfl, x, q1, q2, q3, q4⟩ := hy
  rw [RowsV, hk1] at q4
  have hlx : lenSV x = some k := by
    rcases q4 with ⟨h, rfl⟩ | ⟨id, -, -, rfl, -⟩
    · have := congrArg List.length h
      rw [hk1] at this
      rw [this]; rfl
    · rfl
  have hll : (hsRows l).length = l.length := hsRows_len l
  simp [-getElem?_pos, z0, z1, z2]
  repeat (first | (with_reducible first | refine AWi.seqK fun _ => ?_ | refine AWi.blockK fun _ => ?_ | refine KI.go ?_) | ((first | refine AWi.region tabOk ?_ | refine AWi.condK fun _ _ => ?_); simp [-getElem?_pos, z0, z1, z2, q3, hll]) | ((first | refine AWi.ret ?_ | refine AWi.skip ?_ | refine AWi.exit ?_); try simp only [thenP]) | (with_reducible refine BB.go ?_; simp only [blockP, thenP, reduceIte]))
  refine AWi.loopK (fun (i : Nat) n2 s => n1 ≤ n2 ∧ s.slots 4 = .ptr n 0 0 ∧ s.slots 5 = .ptr (n + 1) 0 0 ∧ s.slots 8 = .ptr c 0 0 ∧ s.slots 10 = listV (spareL l e g k i) ∧ s.slots 30 = .d (iD l.length) ∧ s.slots 31 = .d (iD i) ∧ (∀ j, j < n1 → s.mem j = m1 j) ∧ i ≤ l.length) (fun i => l.length - i) 0 ?_ ?_
  · exact ⟨by omega, by simp, by simp, by simp, by simp [spareL, listV], by simp [iD], by simp [iD], fun j hj => rfl, by omega⟩
  rintro i n2 s ⟨hle, s4, s5, s8, s10, s30, s31, low, hi⟩ kk
  have hlen : (spareL l e g k i).length ≤ 6 := by
    rw [spareL, List.length_map]
    exact Nat.le_trans (List.length_filter_le _ _) (by simp; omega)
  by_cases hlt : i < l.length
  · have hii : (i : Int) < (l.length : Int) := by omega
    have w1 : IntKind.i64.wrap ((i : Int) + 1) = (i : Int) + 1 := wrap64_in (by omega)
    have hi0 : (0 : Int) ≤ (i : Int) + 1 := by omega
    have hil : (i : Int) + 1 ≤ (l.length : Int) := by omega
    have hil2 : (i : Int) ≤ (l.length : Int) := by omega
    have mc : s.mem c = some (.box 81 [.d (boxD l), x] false) := (low c (by omega)).trans q3
    have c1 : c < n2 + 1 + 1 := by omega
    have hz : (∀ r : List Dat, r ∈ hsRows l → r.length = 3) = True := eq_true fun r hr => by obtain ⟨t, _, rfl⟩ := List.mem_map.1 hr; rfl
    have ht1 := hsRows_take l i
    have ht2 := hsRows_drop l (i + 1)
    repeat (first | (with_reducible first | refine AWi.seqK fun _ => ?_ | refine AWi.blockK fun _ => ?_ | refine KI.go ?_) | ((first | refine AWi.region tabOk ?_ | refine AWi.condK fun _ _ => ?_); simp [-getElem?_pos, z0, z1, z2, s31, s30, hii]) | ((first | refine AWi.ret ?_ | refine AWi.skip ?_ | refine AWi.exit ?_); try simp only [thenP]) | (with_reducible refine BB.go ?_; simp only [blockP, thenP, reduceIte]))
    have htt : List.take l.length (hsRows l) = hsRows l := List.take_of_length_le (by omega)
    refine AWi.mono (Q := fun ex n3 s3 => ex = .normal ∧ n3 = n2 + 1 + 1 + 1 + 1 + 1 ∧ s3.slots 4 = .ptr n 0 0 ∧ s3.slots 5 = .ptr (n + 1) 0 0 ∧ s3.slots 8 = .ptr c 0 0 ∧ s3.slots 10 = listV (spareL l e g k i) ∧ s3.slots 11 = .d (iD i) ∧ s3.slots 12 = .ptr (n2 + 1 + 1 + 1 + 1) 0 0 ∧ s3.slots 30 = .d (iD l.length) ∧ s3.slots 31 = .d (iD i) ∧ s3.mem (n2 + 1 + 1 + 1 + 1) = some (.box 65 [.d (boxD (woS l i))] false) ∧ ∀ j, j < n1 → s3.mem j = m1 j) ?_ ?_
    · refine AWi.drawsV mixedH (by kernel_rfl) ?_
      repeat (with_reducible refine ExecV.auto tabOk ?_; simp [-getElem?_pos, z0, z1, z2, kindV, isPure, s8, mc, c1, hz, hll, hii, hil, hil2, hi0, w1, ht1, ht2, htt]; try (refine And.intro (OkV_old (by simp; try omega) (by omega) (by simp [AllAcc])) ?_))
      refine ExecV.ro (x := .d (boxD (woS l i))) (svs := [.own (n2 + 1 + 1 + 1) 2 1]) [n2 + 1 + 1 + 1] (concat_r (l.take i) (l.drop (i + 1)) (by rw [List.length_take]; omega) (by rw [List.length_drop]; omega) (n2 + 1 + 1 + 1) _ (z := false) (by simp)) rfl rfl (by simp [calleeS, evList]) ?_ ?_
      · (refine OkV_last (by simp; try omega) ?_; repeat' (first | exact trivial | refine And.intro (show ordB _ _ _ = true from by kernel_rfl) ?_))
      repeat (with_reducible refine ExecV.auto tabOk ?_; simp [-getElem?_pos, z0, z1, z2, kindV, isPure, z0]; try (refine And.intro (OkV_old (by simp; try omega) (by omega) (by simp [AllAcc])) ?_))
      refine And.intro ?_ ?_
      · (refine OkV_last (by simp; try omega) ?_; repeat' (first | exact trivial | refine And.intro (show ordB _ _ _ = true from by kernel_rfl) ?_))
      unfold ExecV
      refine ⟨rfl, by simp [s4], by simp [s5], by simp [s8], by simp [s10], by simp, by simp, by simp [s30], by simp [s31], by simp, fun j hj => by simp [show ¬ j = n2 + 1 + 1 + 1 + 1 by omega, show ¬ j = n2 + 1 + 1 + 1 by omega, low j hj]⟩
    rintro ex n3 s3 ⟨rfl, hn3, t4, t5, t8, t10, t11, t12, t30, t31, mb, low3⟩
    have he3 := (low3 n (by omega)).trans he
    have hg3 := (low3 (n + 1) (by omega)).trans hg
    have hbx : n2 + 1 + 1 + 1 + 1 < n3 := by omega
    have c2 : n < n3 := by omega
    have c3 : n + 1 < n3 := by omega
    have c4 : n1 ≤ n3 := by omega
    generalize n2 + 1 + 1 + 1 + 1 = bx at *
    simp only [thenP]
    repeat (first | (with_reducible first | refine AWi.seqK fun _ => ?_ | refine AWi.blockK fun _ => ?_ | refine KI.go ?_) | (refine AWi.condK fun _ _ => ?_; simp [-getElem?_pos, z0, z1, z2, z0]) | ((first | refine AWi.ret ?_ | refine AWi.skip ?_ | refine AWi.exit ?_); try simp only [thenP]) | (with_reducible refine BB.go ?_; simp only [blockP, thenP, reduceIte]))
    refine AWi.drawsM mixedH 4 (by kernel_rfl) (by kernel_rfl) (by kernel_rfl) ?_
    simp only [List.take_succ_cons, List.take_zero]
    repeat (with_reducible refine ExecV.auto tabOk ?_; simp [-getElem?_pos, z0, z1, z2, kindV, isPure, t4, t5, t12, mb, he3, hg3, c2, c3, hbx]; try (refine And.intro (OkV_old (by simp; try omega) (by omega) (by simp [AllAcc])) ?_))
    refine ExecV.callP [] (reaches_n g _ _) (by omega) (fun i hi => by cases hi) rfl (by simp [calleeS, evList]) (OkV_old (by simp) (by omega) (by simp [AllAcc])) ?_
    refine ⟨_, stepI_call (by simp [calleeS, evList]) (course_w (woS l i) (woS_ok hb.all i) (Nat.le_trans (woS_len l i) hn6) g gg e ge n3 _ _ (by omega) ⟨false, (if_pos ⟨Nat.le_refl _, by omega⟩).trans (if_pos rfl)⟩), ?_⟩
    rintro n4 s4' ⟨y, m', ⟨hn4, hm4, hy⟩, rfl⟩
    simp only [restO, List.drop_succ_cons, List.drop_zero, List.map_cons, List.map_nil, shiftO]
    have low4 : ∀ j, j < n1 → m' j = m1 j := fun j hj => (hm4 j (by omega)).trans ((putN_lt (by omega)).trans (low3 j hj))
    have mc4 : m' c = some (.box 81 [.d (boxD l), x] false) := (low4 c (by omega)).trans q3
    have hnext : spareL l e g k (i + 1) = if needN (woS l i) g e = some k then spareL l e g k i ++ [(i : Int)] else spareL l e g k i := by
      rw [spareL, List.range_succ, List.filter_append, List.map_append]
      by_cases h : needN (woS l i) g e = some k <;> simp [h, spareL]
    obtain ⟨k2, hneed2⟩ | hneed2 : (∃ k2, needN (woS l i) g e = some k2) ∨ needN (woS l i) g e = none := by
      cases needN (woS l i) g e
      · exact .inr rfl
      · exact .inl ⟨_, rfl⟩
    · rw [hneed2] at hy
      obtain ⟨c5, rfl, x5, p1, p2, p3, p4⟩ := hy
      have hk5 := (rows_take hneed2).1
      rw [RowsV, hk5] at p4
      have hlx5 : lenSV x5 = some k2 := by
        rcases p4 with ⟨h, rfl⟩ | ⟨id, -, -, rfl, -⟩
        · have := congrArg List.length h
          rw [hk5] at this
          rw [this]; rfl
        · rfl
      repeat (with_reducible refine ExecV.auto tabOk ?_; simp [-getElem?_pos, z0, z1, z2, kindV, isPure, z0]; try (refine And.intro (OkV_old (by simp; try omega) (by omega) (by simp [AllAcc])) ?_))
      unfold ExecV
      simp only [thenP]
      repeat (first | (with_reducible first | refine AWi.seqK fun _ => ?_ | refine AWi.blockK fun _ => ?_ | refine KI.go ?_) | (refine AWi.condK fun _ _ => ?_; simp [-getElem?_pos, z0, z1, z2, z0]) | ((first | refine AWi.ret ?_ | refine AWi.skip ?_ | refine AWi.exit ?_); try simp only [thenP]) | (with_reducible refine BB.go ?_; simp only [blockP, thenP, reduceIte]))
      have d1 : c < n4 := by omega
      have d2 : c5 < n4 := by omega
      have hkk : ((k2 : Int) = (k : Int)) = (k2 = k) := by simp [Int.natCast_inj]
      refine AWi.mono (Q := fun ex n5 s5 => ex = .normal ∧ n4 ≤ n5 ∧ s5.slots 4 = .ptr n 0 0 ∧ s5.slots 5 = .ptr (n + 1) 0 0 ∧ s5.slots 8 = .ptr c 0 0 ∧ s5.slots 10 = listV (spareL l e g k i) ∧ s5.slots 11 = .d (iD i) ∧ s5.slots 30 = .d (iD l.length) ∧ s5.slots 31 = .d (iD i) ∧ s5.slots 73 = .d (bD (decide (k2 = k))) ∧ ∀ j, j < n1 → s5.mem j = m1 j) ?_ ?_
      · refine AWi.drawsV mixedH (by kernel_rfl) ?_
        have e4 : ∀ id, id < n1 → id < n4 := fun id h => by omega
        rcases q4 with ⟨-, rfl⟩ | ⟨ix, ix1, ix2, rfl, -⟩ <;> rcases p4 with ⟨-, rfl⟩ | ⟨iy, iy1, iy2, rfl, -⟩ <;> simp only [lenSV, Option.some.injEq] at hlx hlx5 <;> (try subst hlx) <;> (try subst hlx5)
        all_goals
          repeat (with_reducible refine ExecV.auto tabOk ?_; simp [-getElem?_pos, z0, z1, z2, kindV, isPure, t8, mc4, p3, d1, d2]; try (refine And.intro (OkV_old (by simp; try omega) (by omega) (by simp [AllAcc])) ?_))
          unfold ExecV
          try simp only [thenP]
        all_goals
          refine ⟨by omega, by simp [t4], by simp [t5], by simp [t8], by simp [t10], by simp [t11], by simp [t30], by simp [t31], ?_, low4⟩
          simp [Int.natCast_inj, eq_comm]
      rintro ex n5 s5 ⟨rfl, hn5, u4, u5, u8, u10, u11, u30, u31, u73, low5⟩
      simp only [thenP]
      by_cases hkq : k2 = k
      · subst hkq
        rw [if_pos hneed2] at hnext
        rw [decide_eq_true rfl] at u73
        repeat (first | (with_reducible first | refine AWi.seqK fun _ => ?_ | refine AWi.blockK fun _ => ?_ | refine KI.go ?_) | ((first | refine AWi.region tabOk ?_ | refine AWi.condK fun _ _ => ?_); simp [-getElem?_pos, z0, z1, z2, u73, u10, u11]) | ((first | refine AWi.ret ?_ | refine AWi.skip ?_ | refine AWi.exit ?_); try simp only [thenP]) | (with_reducible refine BB.go ?_; simp only [blockP, thenP, reduceIte]))
        refine ExecI.callC ((RCall.ofA4 (grown_c (spareL l e g k2 i) (i : Int) (by omega)) (svs := [listV (spareL l e g k2 i), .d (iD (i : Int))]) (by rw [mapO, listV_toD]; rfl) _).cwp (fun _ _ h => h) (x := .d (intL (spareL l e g k2 i ++ [(i : Int)]))) rfl _) rfl (by simp [calleeS, evList, iD]) ?_
        rintro y n9 m9 ⟨rfl, rfl, rfl⟩
        simp [-getElem?_pos, z0, z1, z2]
        repeat (first | (with_reducible first | refine AWi.seqK fun _ => ?_ | refine AWi.blockK fun _ => ?_ | refine KI.go ?_) | ((first | refine AWi.region tabOk ?_ | refine AWi.condK fun _ _ => ?_); simp [-getElem?_pos, z0, z1, z2, u31, w1]) | ((first | refine AWi.ret ?_ | refine AWi.skip ?_ | refine AWi.exit ?_); try simp only [thenP]) | (with_reducible refine BB.go ?_; simp only [blockP, thenP, reduceIte]))
        refine LI.go (i + 1) ⟨by omega, by simp [u4], by simp [u5], by simp [u8], ?_, by simp [u30], by simp [iD], low5, by omega⟩ (by omega)
        rw [hnext]
        cases spareL l e g k2 i <;> simp [listV]
      · rw [if_neg (by rw [hneed2]; simpa using hkq)] at hnext
        rw [decide_eq_false hkq] at u73
        repeat (first | (with_reducible first | refine AWi.seqK fun _ => ?_ | refine AWi.blockK fun _ => ?_ | refine KI.go ?_) | ((first | refine AWi.region tabOk ?_ | refine AWi.condK fun _ _ => ?_); simp [-getElem?_pos, z0, z1, z2, u73, u31, w1]) | ((first | refine AWi.ret ?_ | refine AWi.skip ?_ | refine AWi.exit ?_); try simp only [thenP]) | (with_reducible refine BB.go ?_; simp only [blockP, thenP, reduceIte]))
        exact LI.go (i + 1) ⟨by omega, by simp [u4], by simp [u5], by simp [u8], by simp [hnext, u10], by simp [u30], by simp [iD], low5, by omega⟩ (by omega)
    · rw [hneed2] at hy
      subst hy
      rw [if_neg (by rw [hneed2]; simp)] at hnext
      repeat (with_reducible refine ExecV.auto tabOk ?_; simp [-getElem?_pos, z0, z1, z2, kindV, isPure, z0]; try (refine And.intro (OkV_old (by simp; try omega) (by omega) (by simp [AllAcc])) ?_))
      unfold ExecV
      simp only [thenP]
      repeat (first | (with_reducible first | refine AWi.seqK fun _ => ?_ | refine AWi.blockK fun _ => ?_ | refine KI.go ?_) | (refine AWi.condK fun _ _ => ?_; simp [-getElem?_pos, z0, z1, z2, z0]) | ((first | refine AWi.ret ?_ | refine AWi.skip ?_ | refine AWi.exit ?_); try simp only [thenP]) | (with_reducible refine BB.go ?_; simp only [blockP, thenP, reduceIte]))
      refine AWi.drawsV mixedH (by kernel_rfl) ?_
      repeat (with_reducible refine ExecV.auto tabOk ?_; simp [-getElem?_pos, z0, z1, z2, kindV, isPure, t8, mc4]; try (refine And.intro (OkV_old (by simp; try omega) (by omega) (by simp [AllAcc])) ?_))
      unfold ExecV
      try simp only [thenP]
      repeat (first | (with_reducible first | refine AWi.seqK fun _ => ?_ | refine AWi.blockK fun _ => ?_ | refine KI.go ?_) | ((first | refine AWi.region tabOk ?_ | refine AWi.condK fun _ _ => ?_); simp [-getElem?_pos, z0, z1, z2, t31, w1]) | ((first | refine AWi.ret ?_ | refine AWi.skip ?_ | refine AWi.exit ?_); try simp only [thenP]) | (with_reducible refine BB.go ?_; simp only [blockP, thenP, reduceIte]))
      exact LI.go (i + 1) ⟨by omega, by simp [t4], by simp [t5], by simp [t8], by simp [hnext, t10], by simp [t30], by simp [iD], low4, by omega⟩ (by omega)
  · obtain rfl : i = l.length := by omega
    repeat (first | (with_reducible first | refine AWi.seqK fun _ => ?_ | refine AWi.blockK fun _ => ?_ | refine KI.go ?_) | ((first | refine AWi.region tabOk ?_ | refine AWi.condK fun _ _ => ?_); simp [-getElem?_pos, z0, z1, z2, s10, s30, s31]) | ((first | refine AWi.ret ?_ | refine AWi.skip ?_ | refine AWi.exit ?_); try simp only [thenP]) | (with_reducible refine BB.go ?_; simp only [blockP, thenP, reduceIte]))
    refine ExecI.callC ((RCall.ofA4 (taken_c (spareL l e g k l.length) (by omega)) (svs := [listV (spareL l e g k l.length)]) (by rw [mapO, listV_toD]; rfl) _).cwp (fun _ _ h => h) (x := .d (intL (spareL l e g k l.length))) rfl _) rfl (by simp [calleeS, evList]) ?_
    rintro y n9 m9 ⟨rfl, rfl, rfl⟩
    simp [-getElem?_pos, z0, z1, z2]
    repeat (first | (with_reducible first | refine AWi.seqK fun _ => ?_ | refine AWi.blockK fun _ => ?_ | refine KI.go ?_) | ((first | refine AWi.region tabOk ?_ | refine AWi.condK fun _ _ => ?_); simp [-getElem?_pos, z0, z1, z2, z0]) | ((first | refine AWi.ret ?_ | refine AWi.skip ?_ | refine AWi.exit ?_); try simp only [thenP]) | (with_reducible refine BB.go ?_; simp only [blockP, thenP, reduceIte]))
    exact RI.ret rfl ⟨rfl, fun j hj => (low j (by omega)).trans (hlow j hj)⟩
set_option maxRecDepth 100000 in
set_option maxHeartbeats 8000000 in
theorem spare_no (l : List HS) (e g : HE) (n : Nat) (m : Mem) (h : reachE l g e ≠ 0) :
    CWp Try.prog 36 [.d (boxD l), .d (edgD e), .d (edgD g)] n m fun y _ m' => toD4 y = some (.tup [.list [], iD (reachE l g e)]) ∧ ∀ j, j < n → m' j = m j := by
  refine cwpK tabOk Try.func36 rfl rfl (show 3 ≤ _ by decide) rfl fun _ => ?_; simp only [Try.ntmps36]
  repeat (first | (with_reducible first | refine AWi.seqK fun _ => ?_ | refine AWi.blockK fun _ => ?_ | refine KI.go ?_) | ((first | refine AWi.region tabOk ?_ | refine AWi.condK fun _ _ => ?_); simp [-getElem?_pos, z0, z1, z2, z0]) | ((first | refine AWi.ret ?_ | refine AWi.skip ?_ | refine AWi.exit ?_); try simp only [thenP]) | (with_reducible refine BB.go ?_; simp only [blockP, thenP, reduceIte]))
  refine ExecI.callC (checkReach_w l e g _ _) rfl (by simp [calleeS, evList]) ?_
  rintro y n1 m1 ⟨hn1, hm1, hy⟩
  have hlow : ∀ j, j < n → m1 j = m j := fun j hj => (hm1 j (by omega)).trans (by (try dsimp only); repeat (first | rw [setMem_lt (by omega)] | rw [putN_lt (by omega)]))
  by_cases h0 : chkErr l [e, g] = 0
  · rw [if_pos h0] at hy
    have hneed : needN l g e = none := by
      cases hn : needN l g e with
      | none => rfl
      | some k => exact absurd (by rw [reachE, if_pos h0, hn]) h
    rw [hneed] at hy
    subst hy
    have hE : reachE l g e = 13 := by rw [reachE, if_pos h0, hneed]
    simp [-getElem?_pos, z0, z1, z2]
    repeat (first | (with_reducible first | refine AWi.seqK fun _ => ?_ | refine AWi.blockK fun _ => ?_ | refine KI.go ?_) | ((first | refine AWi.region tabOk ?_ | refine AWi.condK fun _ _ => ?_); simp [-getElem?_pos, z0, z1, z2, z0]) | ((first | refine AWi.ret ?_ | refine AWi.skip ?_ | refine AWi.exit ?_); try simp only [thenP]) | (with_reducible refine BB.go ?_; simp only [blockP, thenP, reduceIte]))
    exact RI.ret rfl ⟨by rw [hE]; rfl, hlow⟩
  · rw [if_neg h0] at hy
    subst hy
    have hE : reachE l g e = chkErr l [e, g] := if_neg h0
    simp [-getElem?_pos, z0, z1, z2]
    repeat (first | (with_reducible first | refine AWi.seqK fun _ => ?_ | refine AWi.blockK fun _ => ?_ | refine KI.go ?_) | ((first | refine AWi.region tabOk ?_ | refine AWi.condK fun _ _ => ?_); simp [-getElem?_pos, z0, z1, z2, h0]) | ((first | refine AWi.ret ?_ | refine AWi.skip ?_ | refine AWi.exit ?_); try simp only [thenP]) | (with_reducible refine BB.go ?_; simp only [blockP, thenP, reduceIte]))
    exact RI.ret rfl ⟨by rw [hE]; rfl, hlow⟩
theorem spare_c (l : List HS) (e g : HE) : ACall Try.prog 36 [boxD l, edgD e, edgD g] (.tup [intL (spareO l e g), iD (reachE l g e)]) := by
  by_cases h : reachE l g e = 0
  · obtain ⟨h0, k, hneed⟩ := reach_ok h
    have hO : spareO l e g = spareL l e g k l.length := by rw [spareO, if_pos h0, hneed]
    rw [hO, h]
    exact ACall.ofR (RCall.of4 (n0 := 0) fun n _ => (spare_ok l e g n _ h0 hneed).mono fun _ _ _ h => ⟨h.1, h.2⟩)
  · have hO : spareO l e g = [] := by
      unfold spareO
      split
      · rename_i h0
        cases hn : needN l g e with
        | none => rfl
        | some k => exact absurd (by rw [reachE, if_pos h0, hn]) h
      · rfl
    rw [hO]
    exact ACall.ofR (RCall.of4 (n0 := 0) fun n _ => (spare_no l e g n _ h).mono fun _ _ _ h => ⟨h.1, h.2⟩)
end Go.Proofs.Ytcmkkgdjhjpldaa.Eng

noncomputable section
namespace Go.Proofs.Ytcmkkgdjhjpldaa.Eng
open Go.RowKit
def rowF (L : List Int) (i : Nat) : Int := L.getD i 0
def cR (f : Nat → Int) : Nat → Int := rowF (tab f)
theorem cR_at (f : Nat → Int) {i : Nat} (h : i < 7) : cR f i = f i := by
  rw [cR, rowF, List.getD_eq_getElem?_getD, tab_get f h]
  rfl
theorem canS_burr {s : HS} {e : HE} (h : canS s e = true) : (strE s e).burr.toNat < 7 := by
  simp only [canS, decide_eq_true_eq] at h
  simp only [strE]
  omega
theorem strX_cR (s : HS) (e : HE) (f : Nat → Int) : strX s e (cR f) = strX s e f := by
  unfold strX
  cases hc : canS s e
  · rfl
  · rw [cR_at f (canS_burr hc)]
theorem strkTo_cR (l : List HS) (e : HE) (f : Nat → Int) : ∀ n, strkTo l e (cR f) n = strkTo l e f n
  | 0 => rfl
  | n + 1 => by
    rw [strkTo, strkTo, strkTo_cR l e f n]
    cases l[n]? with
    | none => rfl
    | some s => simp only [strX_cR]
theorem strks_cR (l : List HS) (e : HE) (f : Nat → Int) : strks l e (cR f) = strks l e f := strkTo_cR l e f _
theorem strks_burr {l : List HS} {e : HE} {f : Nat → Int} {x : Nat × HE} (h : x ∈ strks l e f) : x.2.burr.toNat < 7 := by
  obtain ⟨k, x⟩ := x
  obtain ⟨i, hi⟩ := List.getElem?_of_mem h
  obtain ⟨s, -, hX, rfl⟩ := strks_of hi
  simp only [strX, Bool.and_eq_true] at hX
  exact canS_burr hX.1
theorem depX_cR (l : List HS) (b : Nat) (f : Nat → Int) : depX l b (cR f) = depX l b f := by
  unfold depX
  rw [strks_cR]
  exact List.map_congr_left fun x hx => by unfold depN; rw [cR_at f (strks_burr hx)]
theorem leadR_cR (l : List HS) (f : Nat → Int) : leadR l (cR f) = leadR l f := funext fun b => by unfold leadR; rw [depX_cR]
def nxtL (l : List HS) (L : List Int) : List Int := tab (stepR l (rowF L))
theorem nxtL_tab (l : List HS) (f : Nat → Int) : nxtL l (tab f) = tab (stepR l f) := tab_ext fun i hi => by
  show max (cR f i) (leadR l (cR f) i) = max (f i) (leadR l f i)
  rw [cR_at f hi, leadR_cR]
def rowsL (l : List HS) : Nat → List Int → List (List Int)
  | 0, _ => []
  | k + 1, L => L :: if nxtL l L = L then [] else rowsL l k (nxtL l L)
theorem rowsL_tab (l : List HS) : ∀ k f, (rowsFrom l k f).map tab = rowsL l k (tab f)
  | 0, _ => rfl
  | k + 1, f => by
    rw [rowsFrom, rowsL, List.map_cons, nxtL_tab]
    by_cases h : tab (stepR l f) = tab f
    · rw [if_pos h, if_pos h]; rfl
    · rw [if_neg h, if_neg h, rowsL_tab l k]
def gL (l : List HS) (g : HE) : List (List Int) := rowsL l 800 (tab (firstR g))
theorem rowsG_tab (l : List HS) (g : HE) : (rowsG l g).map tab = gL l g := rowsL_tab l 800 _
theorem need_L {l : List HS} {g e : HE} (ge : GoodE e) : needN l g e = (gL l g).findIdx? fun L => decide (e.depth < rowF L e.burr.toNat) := by
  have hb : e.burr.toNat < 7 := by have := ge.b0; have := ge.b1; omega
  rw [← rowsG_tab, List.findIdx?_map, needN]
  refine congrArg (fun p => List.findIdx? p (rowsG l g)) (funext fun f => ?_)
  show decide (e.depth < f e.burr.toNat) = decide (e.depth < cR f e.burr.toNat)
  rw [cR_at f hb]
theorem onwX_cR (l : List HS) (rs : List (Nat → Int)) (e : HE) (k : Nat) : onwX l (rs.map cR) e k = onwX l rs e k := by
  cases k with
  | zero => rfl
  | succ k =>
    rw [onwX, onwX, List.getD_eq_getElem?_getD, List.getD_eq_getElem?_getD, List.getElem?_map]
    cases rs[k]? with
    | none => rfl
    | some f => exact strks_cR l e f
theorem bestG_cR (l : List HS) (rs : List (Nat → Int)) : ∀ k e, bestG l (rs.map cR) k e = bestG l rs k e
  | 0, _ => rfl
  | k + 1, e => by
    rw [bestG, bestG, onwX_cR]
    cases onwX l rs e (k + 1) with
    | nil => rfl
    | cons x _ => simp only [bestG_cR l rs k]
theorem procA_cR (l : List HS) (rs : List (Nat → Int)) (k : Nat) : ∀ A B, procA l (rs.map cR) k A B = procA l rs k A B
  | [], _ => rfl
  | a :: A, B => by rw [procA, procA, onwX_cR, procA_cR l rs k A]
theorem marksA_cR (l : List HS) (rs : List (Nat → Int)) (A : List HE) : marksA l (rs.map cR) A = marksA l rs A := by
  unfold marksA
  simp only [onwX_cR]
theorem endsG_cR (l : List HS) (rs : List (Nat → Int)) : ∀ k A, endsG l (rs.map cR) k A = endsG l rs k A
  | 0, _ => rfl
  | k + 1, A => by rw [endsG, endsG, marksA_cR, procA_cR, endsG_cR l rs k]
theorem take_cR (l : List HS) (g : HE) (k : Nat) : ((rowsG l g).take k).map cR = ((gL l g).take k).map rowF := by
  rw [← rowsG_tab, ← List.map_take, List.map_map]
  rfl
theorem best_L (l : List HS) (g e : HE) (k : Nat) : bestG l ((rowsG l g).take k) k e = bestG l (((gL l g).take k).map rowF) k e := by
  rw [← bestG_cR, take_cR]
theorem ends_L (l : List HS) (g : HE) (k : Nat) (A : List HE) : endsG l ((rowsG l g).take k) k A = endsG l (((gL l g).take k).map rowF) k A := by
  rw [← endsG_cR, take_cR]
theorem rowL_tab (f : Nat → Int) : rowL f = (tab f).map (· - 1) := by
  rw [rowL, tab, tab, List.map_map]
  rfl
theorem rows_L (l : List HS) (g : HE) (k : Nat) : ((rowsG l g).take k).map rowL = ((gL l g).take k).map fun L => L.map (· - 1) := by
  rw [← rowsG_tab, ← List.map_take, List.map_map]
  exact List.map_congr_left fun f _ => rowL_tab f
theorem far_L (l : List HS) (g : HE) (k : Nat) : (tab fun i => farR l g k i - 1) = ((gL l g).getD (min k ((gL l g).length - 1)) []).map (· - 1) := by
  have hp := rowsG_pos l g
  show rowL (farR l g k) = _
  rw [rowL_tab, farR, ← rowsG_tab, List.length_map, List.getD_eq_getElem?_getD, List.getD_eq_getElem?_getD, List.getElem?_map, List.getElem?_eq_getElem (show min k ((rowsG l g).length - 1) < (rowsG l g).length by omega)]
  rfl
def BX : List HS := [⟨20, 15, 2⟩, ⟨5, 4, 1⟩, ⟨0, 1, -3⟩]
def BX2 : List HS := [⟨20, 15, 2⟩, ⟨5, 4, 1⟩]
def RW : List (List Int) := [[5, 0, 0, 0, 0, 0, 0], [6, 6, 6, 6, 0, 0, 0], [10, 10, 10, 7, 7, 7, 7], [14, 14, 11, 11, 11, 11, 8], [18, 15, 15, 15, 15, 12, 12], [19, 19, 19, 19, 16, 16, 16], [23, 23, 23, 20, 20, 20, 20], [38, 27, 24, 24, 24, 24, 21], [39, 39, 39, 39, 36, 25, 25], [54, 54, 51, 40, 40, 40, 40], [66, 55, 55, 55, 55, 52, 41], [70, 70, 70, 67, 56, 56, 56], [85, 82, 71, 71, 71, 71, 68], [86, 86, 86, 86, 83, 72, 72], [101, 101, 98, 87, 87, 87, 87], [101, 101, 101, 101, 101, 99, 88], [101, 101, 101, 101, 101, 101, 101]]
def RW2 : List (List Int) := [[5, 0, 0, 0, 0, 0, 0]]
def RW0 : List (List Int) := [[5, 0, 0, 0, 0, 0, 0], [6, 6, 6, 6, 0, 0, 0], [10, 10, 10, 7, 7, 7, 7], [14, 14, 11, 11, 11, 11, 8], [18, 15, 15, 15, 15, 12, 12], [19, 19, 19, 19, 16, 16, 16], [23, 23, 23, 20, 20, 20, 20], [27, 27, 24, 24, 24, 24, 21], [31, 28, 28, 28, 28, 25, 25], [32, 32, 32, 32, 29, 29, 29], [36, 36, 36, 33, 33, 33, 33], [40, 40, 37, 37, 37, 37, 34], [44, 41, 41, 41, 41, 38, 38], [45, 45, 45, 45, 42, 42, 42], [49, 49, 49, 46, 46, 46, 46], [53, 53, 50, 50, 50, 50, 47], [57, 54, 54, 54, 54, 51, 51], [58, 58, 58, 58, 55, 55, 55], [62, 62, 62, 59, 59, 59, 59], [66, 66, 63, 63, 63, 63, 60], [70, 67, 67, 67, 67, 64, 64], [71, 71, 71, 71, 68, 68, 68], [75, 75, 75, 72, 72, 72, 72], [79, 79, 76, 76, 76, 76, 73], [83, 80, 80, 80, 80, 77, 77], [84, 84, 84, 84, 81, 81, 81], [88, 88, 88, 85, 85, 85, 85], [92, 92, 89, 89, 89, 89, 86], [96, 93, 93, 93, 93, 90, 90], [97, 97, 97, 97, 94, 94, 94], [101, 101, 101, 98, 98, 98, 98], [101, 101, 101, 101, 101, 101, 99], [101, 101, 101, 101, 101, 101, 101]]
def RW1 : List (List Int) := [[5, 0, 0, 0, 0, 0, 0], [6, 6, 6, 6, 0, 0, 0], [7, 7, 7, 7, 7, 7, 7], [8, 8, 8, 8, 8, 8, 8], [9, 9, 9, 9, 9, 9, 9], [10, 10, 10, 10, 10, 10, 10], [11, 11, 11, 11, 11, 11, 11], [12, 12, 12, 12, 12, 12, 12], [13, 13, 13, 13, 13, 13, 13], [14, 14, 14, 14, 14, 14, 14], [15, 15, 15, 15, 15, 15, 15], [16, 16, 16, 16, 16, 16, 16], [17, 17, 17, 17, 17, 17, 17], [18, 18, 18, 18, 18, 18, 18], [19, 19, 19, 19, 19, 19, 19], [20, 20, 20, 20, 20, 20, 20], [21, 21, 21, 21, 21, 21, 21], [36, 36, 36, 36, 36, 22, 22], [51, 51, 51, 37, 37, 37, 37], [66, 52, 52, 52, 52, 52, 38], [67, 67, 67, 67, 53, 53, 53], [82, 82, 68, 68, 68, 68, 68], [83, 83, 83, 83, 83, 69, 69], [98, 98, 98, 84, 84, 84, 84], [101, 99, 99, 99, 99, 99, 85], [101, 101, 101, 101, 100, 100, 100], [101, 101, 101, 101, 101, 101, 101]]
set_option maxRecDepth 100000
theorem gL_BX : gL BX ⟨4, 0⟩ = RW := by kernel_rfl
theorem gL_BX2 : gL BX2 ⟨4, 0⟩ = RW2 := by kernel_rfl
theorem gL_BX0 : gL (woS BX 0) ⟨4, 0⟩ = RW0 := by kernel_rfl
theorem gL_BX1 : gL (woS BX 1) ⟨4, 0⟩ = RW1 := by kernel_rfl
end Go.Proofs.Ytcmkkgdjhjpldaa.Eng

noncomputable section
namespace Go.Proofs.Ytcmkkgdjhjpldaa.Eng
open Go.RowKit
theorem grN_lt (d : Int) (hd : 0 ≤ d) : ∀ (xs : List Int) (st : Int × Bool), (st.2 = false → st.1 = 0) → (d < (xs.foldl grStep st).1 ↔ (st.2 = true ∧ d < st.1) ∨ ∃ x ∈ xs, d < x)
  | [], st, h => by
    simp only [List.foldl_nil, List.not_mem_nil, false_and, exists_false, or_false]
    constructor
    · intro hs
      cases hb : st.2
      · have := h hb; omega
      · exact ⟨rfl, hs⟩
    · exact fun h => h.2
  | x :: xs, st, h => by
    rw [List.foldl_cons]
    by_cases hc : st.2 = false ∨ st.1 < x
    · rw [show grStep st x = (x, true) from if_pos hc]
      rw [grN_lt d hd xs (x, true) (by simp)]
      simp only [true_and, List.mem_cons, exists_eq_or_imp]
      constructor
      · exact fun h => .inr h
      · rintro (⟨h1, h2⟩ | h3)
        · rcases hc with hc | hc
          · rw [hc] at h1; cases h1
          · exact .inl (by omega)
        · exact h3
    · rw [show grStep st x = st from if_neg hc]
      rw [not_or, Bool.not_eq_false] at hc
      rw [grN_lt d hd xs st h]
      simp only [List.mem_cons, exists_eq_or_imp]
      constructor
      · rintro (h | h)
        · exact .inl h
        · exact .inr (.inr h)
      · rintro (h | h | h)
        · exact .inl h
        · exact .inl ⟨hc.1, by omega⟩
        · exact .inr h
theorem strks_mem {l : List HS} {e : HE} {q : Nat → Int} {k : Nat} {x : HE} : (k, x) ∈ strks l e q ↔ ∃ s, l[k]? = some s ∧ strX s e q = true ∧ x = strE s e := by
  constructor
  · intro h
    obtain ⟨i, hi⟩ := List.getElem?_of_mem h
    exact strks_of hi
  · rintro ⟨s, h1, h2, rfl⟩
    exact List.mem_of_getElem? (strks_get h1 h2)
def Into (l : List HS) (e : HE) (q : Nat → Int) : Prop := ∃ (k : Nat) (s : HS), l[k]? = some s ∧ strX s e q = true
theorem lead_lt {l : List HS} (hl : l.all okS = true) {q : Nat → Int} (hq : rowOk q) {b : Nat} {d : Int} (hd : 0 ≤ d) (hd1 : d ≤ 100) : d < leadR l q b ↔ Into l ⟨d, b⟩ q := by
  rw [leadR, grN, grN_lt d hd _ _ (by simp), depX]
  simp only [Bool.false_eq_true, false_and, false_or, List.mem_map]
  constructor
  · rintro ⟨_, ⟨⟨k, x⟩, hm, rfl⟩, hlt⟩
    obtain ⟨s, hs, hX, rfl⟩ := strks_mem.1 hm
    refine ⟨k, s, hs, ?_⟩
    have gs := goodS hl hs
    have := gs.g0; have := gs.c0
    simp only [depN, List.getD_eq_getElem?_getD, hs, Option.getD_some, strE] at hlt
    simp only [strX, canS, Bool.and_eq_true, decide_eq_true_eq] at hX ⊢
    simp only [strE] at hX ⊢
    refine ⟨hX.1, ?_⟩
    omega
  · rintro ⟨k, s, hs, hX⟩
    have gs := goodS hl hs
    have := gs.g0; have := gs.c0
    refine ⟨_, ⟨(k, strE s ⟨0, b⟩), strks_mem.2 ⟨s, hs, ?_, rfl⟩, rfl⟩, ?_⟩
    · simp only [strX, canS, Bool.and_eq_true, decide_eq_true_eq] at hX ⊢
      simp only [strE] at hX ⊢
      refine ⟨hX.1, ?_⟩
      omega
    · simp only [strX, canS, Bool.and_eq_true, decide_eq_true_eq] at hX
      simp only [strE] at hX
      simp only [depN, List.getD_eq_getElem?_getD, hs, Option.getD_some, strE]
      omega
theorem edge_nat {e : HE} (ge : GoodE e) : e = ⟨e.depth, (e.burr.toNat : Nat)⟩ := by
  obtain ⟨d, b⟩ := e
  have := ge.b0
  simp only at this
  simp only [HE.mk.injEq, true_and]
  omega
theorem has_step {l : List HS} (hl : l.all okS = true) {q : Nat → Int} (hq : rowOk q) {e : HE} (ge : GoodE e) : hasE e (stepR l q) = true ↔ hasE e q = true ∨ Into l e q := by
  have h := lead_lt (l := l) hl hq (b := e.burr.toNat) ge.d0 ge.d1
  rw [← edge_nat ge] at h
  rw [← h]
  simp only [hasE, decide_eq_true_eq]
  show e.depth < max (q e.burr.toNat) (leadR l q e.burr.toNat) ↔ _
  constructor
  · intro h; omega
  · intro h; omega
theorem has_first {g e : HE} (gg : GoodE g) (ge : GoodE e) : hasE e (firstR g) = true ↔ keenB e g = true := by
  have := ge.b0; have := ge.d0
  simp only [hasE, keenB, Bool.and_eq_true, decide_eq_true_eq]
  simp only [firstR]
  constructor
  · intro h; split at h <;> omega
  · intro h; split <;> omega
abbrev RK (l : List HS) (g : HE) (k : Nat) : Nat → Int := itR l (firstR g) k
theorem RK_ok {l : List HS} (hl : l.all okS = true) {g : HE} (gg : GoodE g) (k : Nat) : rowOk (RK l g k) := itR_ok hl (firstR_ok gg) k
theorem has_run {l : List HS} (hl : l.all okS = true) {g : HE} (gg : GoodE g) : ∀ (k : Nat) (e : HE), GoodE e → (hasE e (RK l g k) = true ↔ ∃ t : List Int, t.length ≤ k ∧ ∃ x, runE l t e = some x ∧ keenB x g = true)
  | 0, e, ge => by
    rw [RK, itR, has_first gg ge]
    constructor
    · exact fun h => ⟨[], Nat.le_refl _, e, rfl, h⟩
    · rintro ⟨t, ht, x, hx, hk⟩
      obtain rfl : t = [] := List.length_eq_zero_iff.1 (by omega)
      cases hx
      exact hk
  | k + 1, e, ge => by
    rw [RK, itR, has_step hl (RK_ok hl gg k) ge, has_run hl gg k e ge]
    constructor
    · rintro (⟨t, ht, h⟩ | ⟨i, s, hs, hX⟩)
      · exact ⟨t, by omega, h⟩
      · rw [strX, Bool.and_eq_true] at hX
        obtain ⟨t, ht, h⟩ := (has_run hl gg k (strE s e) (ge.str (goodS hl hs) hX.1)).1 hX.2
        refine ⟨(i : Int) :: t, by simp; omega, ?_⟩
        simpa only [runE, Int.toNat_natCast, hs, hX.1, if_true] using h
    · rintro ⟨t, ht, x, hx, hk⟩
      cases t with
      | nil => exact .inl ⟨[], Nat.zero_le _, x, hx, hk⟩
      | cons i t =>
        rw [runE] at hx
        cases hs : l[i.toNat]? with
        | none => rw [hs] at hx; cases hx
        | some s =>
          rw [hs] at hx
          simp only at hx
          cases hc : canS s e with
          | false => rw [hc] at hx; cases hx
          | true =>
            rw [hc, if_pos rfl] at hx
            refine .inr ⟨i.toNat, s, hs, ?_⟩
            rw [strX, hc, Bool.true_and]
            exact (has_run hl gg k (strE s e) (ge.str (goodS hl hs) hc)).2 ⟨t, by simp at ht; omega, x, hx, hk⟩
theorem RK_mono (l : List HS) (g : HE) {j k : Nat} (h : j ≤ k) (i : Nat) : RK l g j i ≤ RK l g k i := by
  induction k with
  | zero => obtain rfl : j = 0 := by omega
            exact Int.le_refl _
  | succ k ih =>
    by_cases hj : j ≤ k
    · have := ih hj
      simp only [RK, itR, stepR] at this ⊢
      omega
    · obtain rfl : j = k + 1 := by omega
      exact Int.le_refl _
theorem has_mono {l : List HS} {g e : HE} {j k : Nat} (h : j ≤ k) (he : hasE e (RK l g j) = true) : hasE e (RK l g k) = true := by
  have := RK_mono l g h e.burr.toNat
  simp only [hasE, decide_eq_true_eq] at he ⊢
  omega
theorem tab_step {l : List HS} {f f' : Nat → Int} (h : tab f = tab f') : tab (stepR l f) = tab (stepR l f') := by rw [← nxtL_tab, ← nxtL_tab, h]
theorem has_tab {e : HE} (ge : GoodE e) {f f' : Nat → Int} (h : tab f = tab f') : hasE e f = hasE e f' := by
  have := tab_eq.1 h e.burr.toNat (by have := ge.b0; have := ge.b1; omega)
  simp only [hasE, this]
structure RowsAre (l : List HS) (g : HE) (m : Nat) : Prop where
  lt : m < 708
  len : (rowsG l g).length = m + 1
  get : ∀ i, i ≤ m → (rowsG l g)[i]? = some (RK l g i)
  fix : ∀ k, m ≤ k → tab (RK l g k) = tab (RK l g m)
theorem rows_are {l : List HS} (hl : l.all okS = true) {g : HE} (gg : GoodE g) : ∃ m, RowsAre l g m := by
  have key : ∀ n, Goes l (firstR g) n ∨ ∃ m, Goes l (firstR g) m ∧ tab (RK l g (m + 1)) = tab (RK l g m) := by
    intro n
    induction n with
    | zero => exact .inl fun j hj => by omega
    | succ n ih =>
      rcases ih with ih | ih
      · by_cases h : tab (RK l g (n + 1)) = tab (RK l g n)
        · exact .inr ⟨n, ih, h⟩
        · refine .inl fun j hj => ?_
          by_cases hjn : j < n
          · exact ih j hjn
          · obtain rfl : j = n := by omega
            exact h
      · exact .inr ih
  rcases key 708 with h | ⟨m, h1, h2⟩
  · exact absurd (h.lt hl (firstR_ok gg)) (by omega)
  · have hm := h1.lt hl (firstR_ok gg)
    refine ⟨m, hm, rowsFrom_len h1 (by omega) h2, fun i hi => rowsFrom_get (fun j hj => h1 j (by omega)) (by omega), fun k hk => ?_⟩
    induction k with
    | zero => obtain rfl : m = 0 := by omega
              rfl
    | succ k ih =>
      by_cases hk' : m ≤ k
      · exact (tab_step (ih hk')).trans h2
      · obtain rfl : m = k + 1 := by omega
        rfl
theorem need_some {l : List HS} (hl : l.all okS = true) {g e : HE} (gg : GoodE g) (ge : GoodE e) {k : Nat} : needN l g e = some k ↔ hasE e (RK l g k) = true ∧ ∀ j, j < k → hasE e (RK l g j) = false := by
  obtain ⟨m, h⟩ := rows_are hl gg
  have hget : ∀ i (hi : i < (rowsG l g).length), (rowsG l g)[i] = RK l g i := fun i hi => by
    have := h.get i (by have := h.len; omega)
    rw [List.getElem?_eq_getElem hi] at this
    exact Option.some.inj this
  rw [needN, List.findIdx?_eq_some_iff_getElem]
  constructor
  · rintro ⟨hk, h1, h2⟩
    rw [hget k hk] at h1
    refine ⟨h1, fun j hj => ?_⟩
    have := h2 j hj
    rw [hget j (by omega)] at this
    simpa using this
  · rintro ⟨h1, h2⟩
    have hk : k ≤ m := by
      refine Nat.not_lt.1 fun hlt => ?_
      have := h2 m hlt
      rw [← has_tab ge (h.fix k (by omega)), h1] at this
      cases this
    have hk' : k < (rowsG l g).length := by have := h.len; omega
    refine ⟨hk', by rw [hget k hk']; exact h1, fun j hj => ?_⟩
    rw [hget j (by omega), h2 j hj]
    simp
theorem need_none {l : List HS} (hl : l.all okS = true) {g e : HE} (gg : GoodE g) (ge : GoodE e) : needN l g e = none ↔ ∀ k, hasE e (RK l g k) = false := by
  constructor
  · intro h k
    cases hk : hasE e (RK l g k) with
    | false => rfl
    | true =>
      exfalso
      have key : ∀ n, n ≤ k + 1 → (∀ j, j < n → hasE e (RK l g j) = false) ∨ ∃ j, needN l g e = some j := by
        intro n
        induction n with
        | zero => exact fun _ => .inl fun j hj => by omega
        | succ n ih =>
          intro hn
          rcases ih (by omega) with h1 | h1
          · cases hb : hasE e (RK l g n) with
            | true => exact .inr ⟨n, (need_some hl gg ge).2 ⟨hb, h1⟩⟩
            | false =>
              refine .inl fun j hj => ?_
              by_cases hjn : j < n
              · exact h1 j hjn
              · obtain rfl : j = n := by omega
                exact hb
          · exact .inr h1
      rcases key (k + 1) (Nat.le_refl _) with h1 | ⟨j, h1⟩
      · rw [h1 k (by omega)] at hk; cases hk
      · rw [h1] at h; cases h
  · intro h
    cases hn : needN l g e with
    | none => rfl
    | some k =>
      have := ((need_some hl gg ge).1 hn).1
      rw [h k] at this
      cases this
end Go.Proofs.Ytcmkkgdjhjpldaa.Eng

noncomputable section
namespace Go.Proofs.Ytcmkkgdjhjpldaa.Eng
open Go.RowKit
set_option maxRecDepth 100000
set_option maxHeartbeats 4000000
theorem stone_c (a b c : Int) : ACall Try.prog 73 [iD a, iD b, iD c] (stnD ⟨a, b, c⟩) := by
  refine acallK tabOk Try.func73 rfl rfl (show 3 ≤ _ by decide) rfl fun _ => ?_; simp only [Try.ntmps73]
  repeat (first | (with_reducible first | refine zq1 fun _ => ?_ | refine zq2 fun _ => ?_ | refine zq3 ?_) | ((first | refine zq4 ?_ | refine zq5 fun _ _ => ?_ | refine zq6 ?_); simp [-getElem?_pos, z0, z1, z2, z0]) | ((first | refine AWp.ret ?_ | refine AWp.skip ?_ | refine AWp.exit ?_); try simp only [thenP]) | (with_reducible refine zq7 ?_; simp only [blockP, thenP, reduceIte]) | with_reducible refine zq8 ?_)
  (first | refine RR.ret ?_ | refine RR.normal ?_); simp [z0]
theorem edge_c (a b : Int) : ACall Try.prog 43 [iD a, iD b] (edgD ⟨a, b⟩) := by
  refine acallK tabOk Try.func43 rfl rfl (show 2 ≤ _ by decide) rfl fun _ => ?_; simp only [Try.ntmps43]
  repeat (first | (with_reducible first | refine zq1 fun _ => ?_ | refine zq2 fun _ => ?_ | refine zq3 ?_) | ((first | refine zq4 ?_ | refine zq5 fun _ _ => ?_ | refine zq6 ?_); simp [-getElem?_pos, z0, z1, z2, z0]) | ((first | refine AWp.ret ?_ | refine AWp.skip ?_ | refine AWp.exit ?_); try simp only [thenP]) | (with_reducible refine zq7 ?_; simp only [blockP, thenP, reduceIte]) | with_reducible refine zq8 ?_)
  (first | refine RR.ret ?_ | refine RR.normal ?_); simp [z0]
theorem box_c : ACall Try.prog 48 [] (boxD BX) := by
  have c1 := stone_c 20 15 2
  have c2 := stone_c 5 4 1
  have c3 := stone_c 0 1 (-3)
  refine acallK tabOk Try.func48 rfl rfl (show 0 ≤ _ by decide) rfl fun _ => ?_; simp only [Try.ntmps48]
  repeat (first | (with_reducible first | refine zq1 fun _ => ?_ | refine zq2 fun _ => ?_ | refine zq3 ?_) | ((first | refine zq4 ?_ | refine zq5 fun _ _ => ?_ | refine zq6 ?_); simp [-getElem?_pos, z0, z1, z2, z0]) | ((first | refine AWp.ret ?_ | refine AWp.skip ?_ | refine AWp.exit ?_); try simp only [thenP]) | (with_reducible refine zq7 ?_; simp only [blockP, thenP, reduceIte]) | with_reducible refine zq8 ?_)
  (first | refine Exec0.call [] c1 ?_ rfl ?_ ?_ | refine Exec.call [] c1 ?_ rfl ?_ ?_); (focus simp [-getElem?_pos, z0]); (focus simp [-getElem?_pos, z0, z1, z2, z0]); simp [-getElem?_pos, z0, z1, z2, z0]
  (first | refine Exec0.call [] c2 ?_ rfl ?_ ?_ | refine Exec.call [] c2 ?_ rfl ?_ ?_); (focus simp [-getElem?_pos, z0]); (focus simp [-getElem?_pos, z0, z1, z2, z0]); simp [-getElem?_pos, z0, z1, z2, z0]
  (first | refine Exec0.call [] c3 ?_ rfl ?_ ?_ | refine Exec.call [] c3 ?_ rfl ?_ ?_); (focus simp [-getElem?_pos, z0]); (focus simp [-getElem?_pos, z0, z1, z2, z0]); simp [-getElem?_pos, z0, z1, z2, z0]
  repeat (first | (with_reducible first | refine zq1 fun _ => ?_ | refine zq2 fun _ => ?_ | refine zq3 ?_) | ((first | refine zq4 ?_ | refine zq5 fun _ _ => ?_ | refine zq6 ?_); simp [-getElem?_pos, z0, z1, z2, z0]) | ((first | refine AWp.ret ?_ | refine AWp.skip ?_ | refine AWp.exit ?_); try simp only [thenP]) | (with_reducible refine zq7 ?_; simp only [blockP, thenP, reduceIte]) | with_reducible refine zq8 ?_)
  (first | refine RR.ret ?_ | refine RR.normal ?_); simp [z0]
  rfl
theorem ints_c (a b : List Int) (ha : a.length ≤ 1000000) (hb : b.length ≤ 1000000) : ACall Try.prog 23 [intL a, intL b] (bD (decide (a = b))) := by
  obtain ⟨r, hr⟩ : ∃ r, r = decide (a = b) := ⟨_, rfl⟩
  rw [← hr]
  by_cases hl : a.length = b.length
  · have hli : (a.length : Int) = b.length := by omega
    refine acallK tabOk Try.func23 rfl rfl (show 2 ≤ _ by decide) rfl fun _ => ?_; simp only [Try.ntmps23]
    repeat (first | (with_reducible first | refine zq1 fun _ => ?_ | refine zq2 fun _ => ?_ | refine zq3 ?_) | ((first | refine zq4 ?_ | refine zq5 fun _ _ => ?_ | refine zq6 ?_); simp [-getElem?_pos, z0, z1, z2, hl, hli]) | ((first | refine AWp.ret ?_ | refine AWp.skip ?_ | refine AWp.exit ?_); try simp only [thenP]) | (with_reducible refine zq7 ?_; simp only [blockP, thenP, reduceIte]) | with_reducible refine zq8 ?_)
    refine AWp.loopK (ι := { k : Nat // k ≤ b.length ∧ a.take k = b.take k }) (n := 0) (fun k => [(0, .d (intL a)), (1, .d (intL b)), (5, .d (iD k.1))]) (fun _ => []) (fun k => b.length - k.1) ⟨0, Nat.zero_le _, rfl⟩ [] ?_ ?_
    · refine ⟨by rfl, by simp [], by simp [or_imp, forall_and, ] <;> (try (intro _hne; simp [_hne])), by decide⟩
    rintro ⟨k, hk, hall⟩ kk
    have w1 : IntKind.i64.wrap ((k : Int) + 1) = (k : Int) + 1 := wrap64_in (by omega)
    by_cases hlt : k < b.length
    · obtain ⟨x, hx⟩ : ∃ x, a[k]? = some x := ⟨_, List.getElem?_eq_getElem (by omega)⟩
      obtain ⟨y, hy⟩ : ∃ y, b[k]? = some y := ⟨_, List.getElem?_eq_getElem hlt⟩
      by_cases g : x = y
      · subst g
        have hall2 : a.take (k + 1) = b.take (k + 1) := by rw [List.take_add_one, List.take_add_one, hall, hx, hy]
        repeat (first | (with_reducible first | refine zq1 fun _ => ?_ | refine zq2 fun _ => ?_ | refine zq3 ?_) | ((first | refine zq4 ?_ | refine zq5 fun _ _ => ?_ | refine zq6 ?_); simp [-getElem?_pos, z0, z1, z2, hlt, hx, hy, hl, hli, w1]) | ((first | refine AWp.ret ?_ | refine AWp.skip ?_ | refine AWp.exit ?_); try simp only [thenP]) | (with_reducible refine zq7 ?_; simp only [blockP, thenP, reduceIte]) | with_reducible refine zq8 ?_)
        refine LL.go ⟨k + 1, hlt, hall2⟩ [] ⟨by rfl, by simp [], by simp [or_imp, forall_and, ] <;> (try (intro _hne; simp [_hne])), by decide⟩ ?_
        simp; omega
      · have hr' : r = false := by rw [hr]; exact decide_eq_false fun h => by subst h; rw [hx] at hy; exact g (Option.some.inj hy)
        repeat (first | (with_reducible first | refine zq1 fun _ => ?_ | refine zq2 fun _ => ?_ | refine zq3 ?_) | ((first | refine zq4 ?_ | refine zq5 fun _ _ => ?_ | refine zq6 ?_); simp [-getElem?_pos, z0, z1, z2, hlt, hx, hy, g, hl, hli]) | ((first | refine AWp.ret ?_ | refine AWp.skip ?_ | refine AWp.exit ?_); try simp only [thenP]) | (with_reducible refine zq7 ?_; simp only [blockP, thenP, reduceIte]) | with_reducible refine zq8 ?_)
        (first | refine RR.ret ?_ | refine RR.normal ?_); simp [hr']
    · obtain rfl : k = b.length := by omega
      have hr' : r = true := hr.trans (decide_eq_true (by rwa [List.take_of_length_le (Nat.le_refl _), List.take_of_length_le (by omega)] at hall))
      repeat (first | (with_reducible first | refine zq1 fun _ => ?_ | refine zq2 fun _ => ?_ | refine zq3 ?_) | ((first | refine zq4 ?_ | refine zq5 fun _ _ => ?_ | refine zq6 ?_); simp [-getElem?_pos, z0, z1, z2, hlt, hl, hli]) | ((first | refine AWp.ret ?_ | refine AWp.skip ?_ | refine AWp.exit ?_); try simp only [thenP]) | (with_reducible refine zq7 ?_; simp only [blockP, thenP, reduceIte]) | with_reducible refine zq8 ?_)
      (first | refine RR.ret ?_ | refine RR.normal ?_); simp [hr']
  · have hr' : r = false := hr.trans (decide_eq_false fun h => hl (congrArg _ h))
    have hli : ¬ (a.length : Int) = b.length := by omega
    refine acallK tabOk Try.func23 rfl rfl (show 2 ≤ _ by decide) rfl fun _ => ?_; simp only [Try.ntmps23]
    repeat (first | (with_reducible first | refine zq1 fun _ => ?_ | refine zq2 fun _ => ?_ | refine zq3 ?_) | ((first | refine zq4 ?_ | refine zq5 fun _ _ => ?_ | refine zq6 ?_); simp [-getElem?_pos, z0, z1, z2, hl, hli]) | ((first | refine AWp.ret ?_ | refine AWp.skip ?_ | refine AWp.exit ?_); try simp only [thenP]) | (with_reducible refine zq7 ?_; simp only [blockP, thenP, reduceIte]) | with_reducible refine zq8 ?_)
    (first | refine RR.ret ?_ | refine RR.normal ?_); simp [hr']
end Go.Proofs.Ytcmkkgdjhjpldaa.Eng

namespace Go.Proofs.Ytcmkkgdjhjpldaa
open Go.ChangeShapes Go.WideShapes Go.ChangeAt Go.RowKit
theorem post_later {H : Type} {enc : TypeId × Value → H} {P : Program} {f : Func} {s : ChangeSpec} {apart fresh handsOn again : Bool} {W W' : World} {args : Array Value} {v : Value} {ds gs : List (DataW H)} {before pa pv : List MemPlace}
    (hW : DataW.Whole enc P f.params.toList s.vars apart W args.toList ds gs before) (hsplit : before = pa ++ pv)
    (hr : ∀ (b : Nat) (sp : Nat → Bool) (hd : Bool), DataW.TrodAll enc P W' b sp hd f.resultTypes.toList (v.resultList f.resultTypes.size) (s.fn H (ds ++ gs)).results [])
    (ha : ∀ sp : Nat → Bool, (∀ p ∈ before, sp p.block = true) → DataW.TrodAll enc P W' 0 sp true f.params.toList args.toList (s.fn H (ds ++ gs)).args pa)
    (hv : ∀ sp : Nat → Bool, (∀ p ∈ before, sp p.block = true) → DataW.TrodVars enc P W' sp s.vars (s.fn H (ds ++ gs)).vars pv)
    (hk : ∀ (j : Nat) (t : TypeId) (r : Value), f.resultTypes[j]? = some t → (v.resultList f.resultTypes.size)[j]? = some r → Value.okWide P W' .any 0 t r)
    (hb : Below W.heap.size W W') : s.post enc P f apart fresh handsOn again W args v W' := by
  have inside : ∀ p, p ∈ before → p.block < W.heap.size := fun p hp => hW.lt p hp
  have keep : ∀ p ∈ before, (decide ((p : MemPlace).block < W.heap.size)) = true := fun p hp => decide_eq_true (inside p hp)
  refine ⟨ds, gs, before, [], pa, pv, hW, hr _ _ _, ha (fun b => decide (b < W.heap.size)) keep, hv (fun b => decide (b < W.heap.size)) keep, ?_, ?_⟩
  · refine World.keptBut_mono (fun p hp => ⟨hp, ?_⟩) (hb.frame (· ∈ before))
    right
    rw [hsplit, List.mem_append] at hp
    exact hp
  · intro _
    obtain ⟨_, _, _, _, _, hz, hn⟩ := hW
    have e : [] ++ pa ++ pv = before := by rw [hsplit, List.nil_append]
    refine ⟨hk, _, _, [] ++ pa ++ pv, ⟨[] ++ pa, pv, trodAll_append (ha _ fun _ _ => rfl) (hr _ _ _), hv _ fun _ _ => rfl, rfl, fun b off hp => ?_, fun h => ?_⟩, fun p hp _ => ?_⟩
    · rw [e] at hp
      rw [hb.frozen (inside _ hp)]
      exact hz b off hp
    · have := hn h
      rw [← e] at this
      simpa using this
    · rw [e] at hp
      simpa using hp
end Go.Proofs.Ytcmkkgdjhjpldaa

namespace Go.Proofs.Ytcmkkgdjhjpldaa.Eng
open Go.ChangeShapes Go.WideShapes Go.ChangeAt Go.RowKit Go.Deep
inductive Sh where
  | int (k : IntKind)
  | bool
  | nil
  | cons (s r : Sh)
  | sl (s : Sh)
  | arr (n : Nat) (s : Sh)
def Sh.size : Sh → Nat
  | .int _ => 1
  | .bool => 1
  | .nil => 0
  | .cons s r => s.size + r.size
  | .sl _ => 1
  | .arr n s => n * s.size
def Sh.Row : Sh → List Dat → Prop
  | .int k, r => ∃ n, r = [.val (.int k n)] ∧ (Lit.int k n).wf = true
  | .bool, r => ∃ b, r = [.val (.bool b)]
  | .nil, r => r = []
  | .cons s t, r => ∃ a b, r = a ++ b ∧ s.Row a ∧ t.Row b
  | .sl s, r => ∃ rows : List (List Dat), r = [.list rows] ∧ ∀ x ∈ rows, s.Row x
  | .arr n s, r => ∃ rows : List (List Dat), rows.length = n ∧ r = rows.flatten ∧ ∀ x ∈ rows, s.Row x
theorem Sh.Row.len : ∀ {s : Sh} {r : List Dat}, s.Row r → r.length = s.size
  | .int k, _, ⟨n, h, _⟩ => by rw [h]; rfl
  | .bool, _, ⟨b, h⟩ => by rw [h]; rfl
  | .nil, _, h => by rw [show _ = [] from h]; rfl
  | .cons s t, _, ⟨a, b, h, ha, hb⟩ => by rw [h, List.length_append, Sh.Row.len ha, Sh.Row.len hb]; rfl
  | .sl s, _, ⟨rows, h, _⟩ => by rw [h]; rfl
  | .arr n s, _, ⟨rows, h1, h2, h3⟩ => by
    rw [h2, List.length_flatten]
    have : ∀ l : List (List Dat), (∀ x ∈ l, s.Row x) → (l.map List.length).sum = l.length * s.size := by
      intro l
      induction l with
      | nil => intro _; simp
      | cons x l ih =>
        intro h
        rw [List.map_cons, List.sum_cons, ih fun y hy => h y (List.mem_cons_of_mem _ hy), Sh.Row.len (h x List.mem_cons_self), List.length_cons, Nat.add_mul, Nat.one_mul, Nat.add_comm]
    rw [this rows h3, h1]
    rfl
theorem Sh.Row.one : ∀ {s : Sh} {r : List Dat}, s.Row r → ∀ c ∈ r, c.one = true
  | .int k, _, ⟨n, h, _⟩, c, hc => by subst h; simp at hc; subst hc; rfl
  | .bool, _, ⟨b, h⟩, c, hc => by subst h; simp at hc; subst hc; rfl
  | .nil, _, h, c, hc => by rw [show _ = [] from h] at hc; simp at hc
  | .cons s t, _, ⟨a, b, h, ha, hb⟩, c, hc => by
    subst h
    rcases List.mem_append.1 hc with hc | hc
    · exact Sh.Row.one ha c hc
    · exact Sh.Row.one hb c hc
  | .sl s, _, ⟨rows, h, _⟩, c, hc => by subst h; simp at hc; subst hc; rfl
  | .arr n s, _, ⟨rows, h1, h2, h3⟩, c, hc => by
    subst h2
    obtain ⟨x, hx, hcx⟩ := List.mem_flatten.1 hc
    exact Sh.Row.one (h3 x hx) c hcx
def Sh.flds (P : Program) (ok : Sh → TypeId → Bool) : Sh → List Field → Nat → Bool
  | .nil, [], _ => true
  | .cons s r, f :: fs, o => f.offset == o && P.cellsOf f.type == s.size && ok s f.type && r.flds P ok fs (o + s.size)
  | _, _, _ => false
def Sh.okF (P : Program) : Nat → Sh → TypeId → Bool
  | 0, _, _ => false
  | n + 1, s, t => match P.underlying t with
    | some (.int k) => match s with
      | .int k' => decide (k' = k)
      | _ => false
    | some .bool => match s with
      | .bool => true
      | _ => false
    | some (.struct fs) => P.cellsOf t == s.size && s.flds P (Sh.okF P n) fs.toList 0
    | some (.slice e) => match s with
      | .sl s' => Nat.ble 1 s'.size && P.cellsOf e == s'.size && Sh.okF P n s' e
      | _ => false
    | some (.array m e) => match s with
      | .arr m' s' => m == m' && P.cellsOf e == s'.size && P.cellsOf t == m * s'.size && Sh.okF P n s' e
      | _ => false
    | _ => false
section
variable {H : Type} {enc : TypeId × Value → H} {P : Program} {w : World}
def Read (w : World) (s : Sh) (cs : List Value) : Prop := cs.length = s.size ∧ ∃ r, s.Row r ∧ ∀ (j : Nat) c u, r[j]? = some c → cs[j]? = some u → RepD (· < w.heap.size) w c u
def Opens (enc : TypeId × Value → H) (P : Program) (w : World) (s : Sh) (t : TypeId) : Prop := ∀ fuel cs x, DataW.trod enc P w 0 (fun _ => true) true fuel t cs = some x → Read w s cs
theorem read_list {α : Type} {R : Nat → α → Prop} : ∀ (n : Nat), (∀ i, i < n → ∃ x, R i x) → ∃ l : List α, l.length = n ∧ ∀ i x, l[i]? = some x → R i x
  | 0, _ => ⟨[], rfl, fun i x h => by simp at h⟩
  | n + 1, h => by
    obtain ⟨l, hl, hx⟩ := read_list n fun i hi => h i (by omega)
    obtain ⟨y, hy⟩ := h n (by omega)
    refine ⟨l ++ [y], by simp [hl], fun i x hi => ?_⟩
    rcases Nat.lt_or_ge i n with h1 | h1
    · rw [List.getElem?_append_left (by omega)] at hi
      exact hx i x hi
    · rw [List.getElem?_append_right (by omega)] at hi
      have : i = n := by
        have := (List.getElem?_eq_some_iff.1 hi).1
        simp at this
        omega
      subst this
      simp [hl] at hi
      subst hi
      exact hy
theorem opens_slice {s : Sh} {t e : TypeId} (ht : P.underlying t = some (.slice e)) (h0 : 0 < s.size) (hc : P.cellsOf e = s.size) (he : Opens enc P w s e) : Opens enc P w (.sl s) t := by
  intro fuel cs x h
  rcases open_slice ht h with ⟨h1, _⟩ | ⟨a, len, cap, m, n, D, Pl, hcs, hb, hl, hmx, hm, hx, hel⟩
  · subst h1
    refine ⟨rfl, [.list []], ⟨[], rfl, by simp⟩, fun j c u hj hu => ?_⟩
    match j with
    | 0 =>
      simp at hj hu
      subst hj; subst hu
      exact .list [] none 0 (fun _ _ => default) (by simp) (by decide) (by simp) (by simp) (by simp)
    | j + 1 => simp at hj
  · have hmc : m = cap := by simpa using hm
    obtain ⟨b, off, spot⟩ := a
    have cell : ∀ i, i < m → ∃ cs', cs'.length = s.size ∧ (∀ j u, cs'[j]? = some u → w.cell? (Addr.add ⟨b, off, spot⟩ (i * s.size + j)) = some u) ∧ Read w s cs' := by
      intro i hi
      obtain ⟨cs', h1, h2⟩ := hel i hi
      rw [hc] at h1
      obtain ⟨_, hlen, hat⟩ := World.cells?_some h1
      refine ⟨cs', hlen, fun j u hj => ?_, he _ _ _ h2⟩
      have hjl : j < s.size := by rw [← hlen]; exact (List.getElem?_eq_some_iff.1 hj).1
      rw [← Go.Deep.add_add, hat j hjl, hj]
    subst hcs
    refine ⟨rfl, ?_⟩
    rcases Nat.eq_zero_or_pos len with hm0 | hm0
    · subst hm0
      refine ⟨[.list []], ⟨[], rfl, by simp⟩, fun j c u hj hu => ?_⟩
      match j with
      | 0 =>
        simp at hj hu
        subst hj; subst hu
        exact .list [] _ cap (fun _ _ => default) (by simp) hmx (by simp) (by simp) (by simp)
      | j + 1 => simp at hj
    · have hsp : spot = none := by
        obtain ⟨cs', h1, h2, _⟩ := cell 0 (by omega)
        have h3 : cs'[0]? = some (cs'[0]'(by omega)) := List.getElem?_eq_getElem (by omega)
        have := World.cell?_spot (h2 0 _ h3)
        simpa [Addr.add] using this
      subst hsp
      have hb2 : b < w.heap.size := by
        obtain ⟨cs', h1, h2, _⟩ := cell 0 (by omega)
        have h3 : cs'[0]? = some (cs'[0]'(by omega)) := List.getElem?_eq_getElem (by omega)
        have h4 := World.block_lt_of_cell? w _ (h2 0 _ h3)
        simpa [Addr.add] using h4
      obtain ⟨rows, hrl, hrx⟩ := read_list (R := fun i (r : List Dat) => s.Row r ∧ ∀ (j : Nat) c, r[j]? = some c → ∃ u, w.cell? ⟨b, off + i * s.size + j, none⟩ = some u ∧ RepD (· < w.heap.size) w c u) len fun i hi => by
        obtain ⟨cs', h1, h2, h3, r, h4, h5⟩ := cell i (by omega)
        refine ⟨r, h4, fun j c hj => ?_⟩
        have hjl : j < s.size := by rw [← h4.len]; exact (List.getElem?_eq_some_iff.1 hj).1
        have hu : cs'[j]? = some (cs'[j]'(by omega)) := List.getElem?_eq_getElem (by omega)
        refine ⟨_, ?_, h5 j c _ hj hu⟩
        have := h2 j _ hu
        by_cases e0 : i * s.size + j = 0
        · rw [e0] at this
          rw [show off + i * s.size + j = off by omega]
          simpa [Addr.add] using this
        · simp only [Addr.add, if_neg e0] at this
          rwa [Nat.add_assoc]
      have hmem : ∀ r ∈ rows, s.Row r := fun r hr => by
        obtain ⟨i, hi⟩ := List.getElem?_of_mem hr
        exact (hrx i r hi).1
      refine ⟨[.list rows], ⟨rows, rfl, hmem⟩, fun j c u hj hu => ?_⟩
      match j with
      | 0 =>
        simp at hj hu
        subst hj; subst hu
        rw [← hrl]
        refine .list rows _ cap (fun i j => (w.cell? ⟨b, off + i * s.size + j, none⟩).getD default) (by omega) hmx (fun r hr => (hmem r hr).one) (fun _ => ⟨b, off, s.size, rfl, hb2, fun r hr => (hmem r hr).len, fun i j hi hj => ?_⟩) fun i j r c hr hc => ?_
        · have hri := hrx i _ (List.getElem?_eq_getElem hi)
          obtain ⟨u, hu, _⟩ := hri.2 j _ (List.getElem?_eq_getElem (by rw [hri.1.len]; exact hj))
          rw [hu]; rfl
        · obtain ⟨u, hu, hru⟩ := (hrx i r hr).2 j c hc
          rw [hu]; exact hru
      | j + 1 => simp at hj
theorem Read.app {s r : Sh} {a b : List Value} (ha : Read w s a) (hb : Read w r b) : Read w (.cons s r) (a ++ b) := by
  obtain ⟨h1, x, h2, h3⟩ := ha
  obtain ⟨k1, y, k2, k3⟩ := hb
  refine ⟨by rw [List.length_append, h1, k1]; rfl, x ++ y, ⟨x, y, rfl, h2, k2⟩, fun j c u hc hu => ?_⟩
  have hx := h2.len
  by_cases hj : j < x.length
  · rw [List.getElem?_append_left hj] at hc
    rw [List.getElem?_append_left (by omega)] at hu
    exact h3 j c u hc hu
  · rw [List.getElem?_append_right (by omega)] at hc
    rw [List.getElem?_append_right (by omega)] at hu
    rw [hx, ← h1] at hc
    exact k3 _ c u hc hu
theorem read_flds {ok : Sh → TypeId → Bool} {m : Nat} (hok : ∀ s t, ok s t = true → Opens enc P w s t) {cs : List Value} : ∀ (s : Sh) (fs : List Field) (o : Nat), s.flds P ok fs o = true → o + s.size = cs.length →
    (∀ f ∈ fs, ∃ y, DataW.trod enc P w 0 (fun _ => true) true m f.type ((cs.drop f.offset).take (P.cellsOf f.type)) = some y) → Read w s (cs.drop o)
  | .nil, [], o, _, hl, _ => by
    rw [List.drop_eq_nil_of_le (by simp only [Sh.size] at hl; omega)]
    exact ⟨rfl, [], rfl, by simp⟩
  | .cons s r, f :: fs, o, h, hl, hf => by
    simp only [Sh.flds, Bool.and_eq_true, beq_iff_eq] at h
    obtain ⟨⟨⟨h1, h2⟩, h3⟩, h4⟩ := h
    obtain ⟨y, hy⟩ := hf f List.mem_cons_self
    rw [h1, h2] at hy
    have k1 := hok s f.type h3 _ _ _ hy
    have k2 := read_flds hok r fs (o + s.size) h4 (by simp only [Sh.size] at hl; omega) fun g hg => hf g (List.mem_cons_of_mem _ hg)
    have := k1.app k2
    rwa [← List.drop_drop, List.take_append_drop] at this
  | .nil, _ :: _, _, h, _, _ => by simp [Sh.flds] at h
  | .cons _ _, [], _, h, _, _ => by simp [Sh.flds] at h
  | .int _, _, _, h, _, _ => by simp [Sh.flds] at h
  | .bool, _, _, h, _, _ => by simp [Sh.flds] at h
  | .sl _, _, _, h, _, _ => by simp [Sh.flds] at h
  | .arr _ _, _, _, h, _, _ => by simp [Sh.flds] at h
theorem read_arr {s : Sh} : ∀ (n : Nat) (cs : List Value), cs.length = n * s.size → (∀ i, i < n → Read w s ((cs.drop (i * s.size)).take s.size)) → Read w (.arr n s) cs
  | 0, cs, hl, _ => by
    have : cs = [] := List.eq_nil_of_length_eq_zero (by rw [hl, Nat.zero_mul])
    subst this
    exact ⟨by simp [Sh.size], [], ⟨[], rfl, rfl, by simp⟩, by simp⟩
  | n + 1, cs, hl, h => by
    have h0 := h 0 (by omega)
    rw [Nat.zero_mul, List.drop_zero] at h0
    have h1 := read_arr (s := s) n (cs.drop s.size) (by rw [List.length_drop, hl, Nat.add_mul]; omega) fun i hi => by
      have := h (i + 1) (by omega)
      rw [List.drop_drop]
      rwa [Nat.add_mul, Nat.one_mul, Nat.add_comm] at this
    obtain ⟨a1, a, a2, a3⟩ := h0
    obtain ⟨b1, b, ⟨rows, b2, b3, b4⟩, b5⟩ := h1
    refine ⟨hl, a ++ b, ⟨a :: rows, by simp [b2], by simp [b3], fun x hx => ?_⟩, fun j c u hc hu => ?_⟩
    · rcases List.mem_cons.1 hx with rfl | hx
      · exact a2
      · exact b4 x hx
    · have hx := a2.len
      rw [← List.take_append_drop s.size cs] at hu
      by_cases hj : j < a.length
      · rw [List.getElem?_append_left hj] at hc
        rw [List.getElem?_append_left (by omega)] at hu
        exact a3 j c u hc hu
      · rw [List.getElem?_append_right (by omega)] at hc
        rw [List.getElem?_append_right (by omega)] at hu
        rw [hx, ← a1] at hc
        exact b5 _ c u hc hu
theorem okF_opens : ∀ (n : Nat) (s : Sh) (t : TypeId), s.okF P n t = true → Opens enc P w s t
  | 0, s, t, h => by simp [Sh.okF] at h
  | n + 1, s, t, h => by
    unfold Sh.okF at h
    split at h
    · rename_i k hu
      split at h
      · rename_i k'
        obtain rfl := of_decide_eq_true h
        intro fuel cs x hx
        obtain ⟨m, rfl, _, hw⟩ := DataW.trod_int hu hx
        refine ⟨rfl, _, ⟨m, rfl, hw⟩, fun j c u hc hu => ?_⟩
        match j with
        | 0 => simp at hc hu; subst hc; subst hu; exact .val _ rfl
        | j + 1 => simp at hc
      · cases h
    · rename_i hu
      split at h
      · intro fuel cs x hx
        obtain ⟨m, rfl, _⟩ := DataW.trod_bool hu hx
        refine ⟨rfl, _, ⟨m, rfl⟩, fun j c u hc hu => ?_⟩
        match j with
        | 0 => simp at hc hu; subst hc; subst hu; exact .val _ rfl
        | j + 1 => simp at hc
      · cases h
    · rename_i fs hu
      simp only [Bool.and_eq_true, beq_iff_eq] at h
      intro fuel cs x hx
      obtain ⟨xs, m, _, _, hl, hxl, hf⟩ := DataW.trod_struct hu hx
      have := read_flds (okF_opens n) s fs.toList 0 h.2 (by rw [hl, h.1]; omega) (m := m) (cs := cs) fun f hf' => by
        obtain ⟨i, hi⟩ := List.getElem?_of_mem hf'
        have hi2 : fs[i]? = some f := by simpa using hi
        have hlt : i < fs.size := (Array.getElem?_eq_some_iff.1 hi2).1
        exact ⟨_, (hf i f hi2).trans (List.getElem?_eq_getElem (by omega))⟩
      rwa [List.drop_zero] at this
    · rename_i e hu
      split at h
      · rename_i s'
        simp only [Bool.and_eq_true, beq_iff_eq] at h
        exact opens_slice hu (Nat.le_of_ble_eq_true h.1.1) h.1.2 (okF_opens n s' e h.2)
      · cases h
    · rename_i m e hu
      split at h
      · rename_i m' s'
        simp only [Bool.and_eq_true, beq_iff_eq] at h
        obtain ⟨⟨⟨rfl, h2⟩, h3⟩, h4⟩ := h
        intro fuel cs x hx
        obtain ⟨xs, k, _, _, hl, hxl, hf⟩ := DataW.trod_array hu hx
        refine read_arr m cs (by rw [hl, h3]) fun i hi => ?_
        have := hf i hi
        rw [List.getElem?_eq_getElem (by omega), h2] at this
        exact okF_opens n s' e h4 _ _ _ this
      · cases h
    · cases h
def Sh.D : Sh → Dat → Prop
  | .int k, d => ∃ n, d = .val (.int k n) ∧ (Lit.int k n).wf = true
  | .bool, d => ∃ b, d = .val (.bool b)
  | .sl s, d => ∃ rows : List (List Dat), d = .list rows ∧ ∀ x ∈ rows, s.Row x
  | s, d => ∃ r, d = .agg r ∧ s.Row r
set_option maxRecDepth 100000 in
theorem open_sh (s : Sh) {n : Nat} {base : Nat} {t : TypeId} {v : Value} {d : DataW H} {p : List MemPlace} (hs : s.okF P n t = true) (hv : Value.okWide P w .any base t v) (h : DataW.Trod enc P w 0 (fun _ => true) true t v d p) :
    ∃ D, s.D D ∧ RepD (· < w.heap.size) w D v := by
  obtain ⟨fuel, hf⟩ := h
  have key := okF_opens (enc := enc) (w := w) n s t hs _ _ _ hf
  cases n with
  | zero => simp [Sh.okF] at hs
  | succ n =>
    unfold Sh.okF at hs
    have agg : ∀ cs, v = .agg cs → (s.D = fun d => ∃ r, d = .agg r ∧ s.Row r) → ∃ D, s.D D ∧ RepD (· < w.heap.size) w D v := fun ⟨cs⟩ e hD => by
      subst e
      obtain ⟨k1, r, k2, k3⟩ := key
      refine ⟨.agg r, by rw [hD]; exact ⟨r, rfl, k2⟩, .agg r _ ?_ k2.one fun i c u hc hu => k3 i c u hc (show cs[i]? = some u by simpa using hu)⟩
      rw [k2.len, ← k1]
      rfl
    split at hs
    · rename_i k hu
      split at hs
      · obtain ⟨m, rfl⟩ := okWide_int hu hv
        obtain ⟨k1, r, ⟨m', rfl, hw⟩, k3⟩ := key
        have := k3 0 _ _ rfl rfl
        exact ⟨_, ⟨m', rfl, hw⟩, this⟩
      · cases hs
    · rename_i hu
      split at hs
      · obtain ⟨m, rfl⟩ := okWide_bool hu hv
        obtain ⟨k1, r, ⟨m', rfl⟩, k3⟩ := key
        exact ⟨_, ⟨m', rfl⟩, k3 0 _ _ rfl rfl⟩
      · cases hs
    · rename_i fs hu
      obtain ⟨cs, e, _⟩ := okWide_struct hu hv
      simp only [Bool.and_eq_true] at hs
      refine agg cs e ?_
      cases s with
      | nil => rfl
      | cons => rfl
      | _ => simp [Sh.flds] at hs
    · rename_i e hu
      split at hs
      · obtain ⟨a, l, c, rfl⟩ := okWide_slice hu hv
        obtain ⟨k1, r, ⟨rows, rfl, hw⟩, k3⟩ := key
        exact ⟨_, ⟨rows, rfl, hw⟩, k3 0 _ _ rfl rfl⟩
      · cases hs
    · rename_i m e hu
      simp only [Value.okWide, hu] at hv
      obtain ⟨cs, e1, _⟩ := hv
      split at hs
      · exact agg cs e1 rfl
      · cases hs
    · cases hs
end
theorem args_later' {H : Type} {enc : TypeId × Value → H} {P : Program} {W W' : World} {T : TypeId → Prop} (K : Kids P T) (hz : ∀ t e, T t → P.underlying t = some (.slice e) → 0 < P.cellsOf e) {ts : List TypeId} {vs : List Value} {ds : List (DataW H)} {ps : List MemPlace}
    (hT : ∀ t ∈ ts, T t) (h : DataW.TrodAll enc P W 0 (fun _ => true) true ts vs ds ps) (hb : Below W.heap.size W W') {sp : Nat → Bool} (hs : ∀ p ∈ ps, sp p.block = true) : DataW.TrodAll enc P W' 0 sp true ts vs ds ps := by
  have carry : ∀ {ts : List TypeId} {vs : List Value} {ds : List (DataW H)} {ps : List MemPlace}, DataW.TrodAll enc P W 0 (fun _ => true) true ts vs ds ps → DataW.TrodAll enc P W' 0 (fun _ => true) true ts vs ds ps := by
    intro ts
    induction ts with
    | nil =>
      intro vs ds ps h
      obtain ⟨rfl, rfl, rfl⟩ := trodAll_nil h
      rfl
    | cons t ts ih =>
      intro vs ds ps h
      obtain ⟨v, vs1, d, ds1, a, b, rfl, rfl, rfl, ⟨n, h1⟩, h2⟩ := trodAll_cons h
      refine ⟨a, b, ⟨n, DataW.trod_carry n _ _ _ h1 fun p hp => ?_⟩, ih h2, rfl⟩
      have hlt := DataW.trod_lt n _ _ _ h1 p hp
      cases p with
      | cell bl off => exact hb.cell (p := ⟨bl, off, none⟩) hlt
      | map bl => exact hb.block bl hlt
  exact (carry h).respare K hz hT hs
theorem rows_of {α : Type} {f : α → List Dat} : ∀ {rows : List (List Dat)}, (∀ x ∈ rows, ∃ a, x = f a) → ∃ l : List α, rows = l.map f
  | [], _ => ⟨[], rfl⟩
  | x :: rows, h => by
    obtain ⟨a, rfl⟩ := h x List.mem_cons_self
    obtain ⟨l, rfl⟩ := rows_of fun y hy => h y (List.mem_cons_of_mem _ hy)
    exact ⟨a :: l, rfl⟩
theorem law_true {P : Program} {f : FuncId} {ds : List Dat} (h : ACall P f ds (.val (.bool true))) {W : World} {vs : Array Value} (hs : vs.size = ds.length) (hr : ∀ (i : Nat) d v, ds[i]? = some d → vs[i]? = some v → RepD (· < W.heap.size) W d v) :
    Calls P f vs W fun e w' => e = .returned (.bool true) ∧ Below W.heap.size W w' := by
  refine (h.calls (· < W.heap.size) W vs (fun _ h => h) hs hr).mono ?_
  rintro e w' ⟨v, rfl, hb, hv⟩
  cases hv
  exact ⟨rfl, hb⟩
theorem reps_nil {W : World} : ∀ (i : Nat) d v, ([] : List Dat)[i]? = some d → (#[] : Array Value)[i]? = some v → RepD (· < W.heap.size) W d v := fun i d v h => by simp at h
theorem reps_cons {W : World} {D : Dat} {ds : List Dat} {v : Value} {vs : List Value} (h : RepD (· < W.heap.size) W D v) (hr : ∀ (i : Nat) d v, ds[i]? = some d → (vs.toArray)[i]? = some v → RepD (· < W.heap.size) W d v) :
    ∀ (i : Nat) d u, (D :: ds)[i]? = some d → ((v :: vs).toArray)[i]? = some u → RepD (· < W.heap.size) W d u := fun i d u hd hu => by
  match i with
  | 0 => simp at hd hu; subst hd; subst hu; exact h
  | i + 1 => simp at hd hu; exact hr i d u hd (by simpa using hu)
end Go.Proofs.Ytcmkkgdjhjpldaa.Eng

namespace Go.Proofs.Ytcmkkgdjhjpldaa.Eng
open Go.RowKit
theorem great_c (l : List HS) : ACall Try.prog 15 [boxD l] (bD (decide (10 < l.length))) := by
  by_cases g : 10 < l.length
  · rw [decide_eq_true g]
    have g' : (10 : Int) < l.length := by omega
    refine acallK tabOk Try.func15 rfl rfl (show 1 ≤ _ by decide) rfl fun _ => ?_; simp only [Try.ntmps15]
    repeat (first | (with_reducible first | refine zq1 fun _ => ?_ | refine zq2 fun _ => ?_ | refine zq3 ?_) | ((first | refine zq4 ?_ | refine zq5 fun _ _ => ?_ | refine zq6 ?_); simp [-getElem?_pos, z0, z1, z2, g, g']) | ((first | refine AWp.ret ?_ | refine AWp.skip ?_ | refine AWp.exit ?_); try simp only [thenP]) | (with_reducible refine zq7 ?_; simp only [blockP, thenP, reduceIte]) | with_reducible refine zq8 ?_)
    (first | refine RR.ret ?_ | refine RR.normal ?_); simp []
  · rw [decide_eq_false g]
    have g' : ¬ (10 : Int) < l.length := by omega
    refine acallK tabOk Try.func15 rfl rfl (show 1 ≤ _ by decide) rfl fun _ => ?_; simp only [Try.ntmps15]
    repeat (first | (with_reducible first | refine zq1 fun _ => ?_ | refine zq2 fun _ => ?_ | refine zq3 ?_) | ((first | refine zq4 ?_ | refine zq5 fun _ _ => ?_ | refine zq6 ?_); simp [-getElem?_pos, z0, z1, z2, g, g']) | ((first | refine AWp.ret ?_ | refine AWp.skip ?_ | refine AWp.exit ?_); try simp only [thenP]) | (with_reducible refine zq7 ?_; simp only [blockP, thenP, reduceIte]) | with_reducible refine zq8 ?_)
    (first | refine RR.ret ?_ | refine RR.normal ?_); simp []
def shStone : Sh := .cons (.int .i64) (.cons (.int .i64) (.cons (.int .i64) .nil))
def shEdge : Sh := .cons (.int .i64) (.cons (.int .i64) .nil)
theorem stone_in {r : List Dat} (h : shStone.Row r) : ∃ s : HS, r = hsRow s := by
  obtain ⟨_, _, rfl, ⟨a, rfl, _⟩, _, _, rfl, ⟨b, rfl, _⟩, _, _, rfl, ⟨c, rfl, _⟩, rfl⟩ := h
  exact ⟨⟨a, b, c⟩, rfl⟩
theorem box_in {d : Dat} (h : (Sh.sl shStone).D d) : ∃ l : List HS, d = boxD l := by
  obtain ⟨rows, rfl, hr⟩ := h
  obtain ⟨l, rfl⟩ := rows_of fun x hx => stone_in (hr x hx)
  exact ⟨l, rfl⟩
theorem edge_in {d : Dat} (h : shEdge.D d) : ∃ e : HE, d = edgD e := by
  obtain ⟨_, rfl, _, _, rfl, ⟨a, rfl, _⟩, _, _, rfl, ⟨b, rfl, _⟩, rfl⟩ := h
  exact ⟨⟨a, b⟩, rfl⟩
end Go.Proofs.Ytcmkkgdjhjpldaa.Eng

noncomputable section
namespace Go.Proofs.Ytcmkkgdjhjpldaa.Eng
open Go.RowKit
theorem chk_goal {l : List HS} {e g : HE} (h : chkErr l [e, g] = 0) : chkErr l [g] = 0 ∧ chkErr l [e] = 0 := by
  obtain ⟨-, hes⟩ := chkOk h
  have hb : boxErr l = 0 := Classical.byContradiction fun hn => by rw [chkErr, if_neg hn] at h; exact hn h
  simp at hes
  constructor
  · rw [chkErr, if_pos hb]; simp [hes.2]
  · rw [chkErr, if_pos hb]; simp [hes.1]
theorem refKeen_c (e g : HE) : ACall Try.prog 41 [edgD e, edgD g] (bD (keenB e g)) := by
  obtain ⟨r, hr⟩ : ∃ r, r = keenB e g := ⟨_, rfl⟩
  rw [← hr]
  obtain ⟨ed, eb⟩ := e
  obtain ⟨gd, gb⟩ := g
  by_cases h1 : ed ≤ gd
  · by_cases h2 : eb ≤ gb
    · have hr' : r = true := by rw [hr]; simp [keenB, h1, h2]
      refine acallK tabOk Try.func41 rfl rfl (show 2 ≤ _ by decide) rfl fun _ => ?_; simp only [Try.ntmps41]
      repeat (first | (with_reducible first | refine zq1 fun _ => ?_ | refine zq2 fun _ => ?_ | refine zq3 ?_) | ((first | refine zq4 ?_ | refine zq5 fun _ _ => ?_ | refine zq6 ?_); simp [-getElem?_pos, z0, z1, z2, h1, h2]) | ((first | refine AWp.ret ?_ | refine AWp.skip ?_ | refine AWp.exit ?_); try simp only [thenP]) | (with_reducible refine zq7 ?_; simp only [blockP, thenP, reduceIte]) | with_reducible refine zq8 ?_)
      (first | refine RR.ret ?_ | refine RR.normal ?_); simp [hr', h1, h2]
    · have hr' : r = false := by rw [hr]; simp [keenB, h2]
      refine acallK tabOk Try.func41 rfl rfl (show 2 ≤ _ by decide) rfl fun _ => ?_; simp only [Try.ntmps41]
      repeat (first | (with_reducible first | refine zq1 fun _ => ?_ | refine zq2 fun _ => ?_ | refine zq3 ?_) | ((first | refine zq4 ?_ | refine zq5 fun _ _ => ?_ | refine zq6 ?_); simp [-getElem?_pos, z0, z1, z2, h1, h2]) | ((first | refine AWp.ret ?_ | refine AWp.skip ?_ | refine AWp.exit ?_); try simp only [thenP]) | (with_reducible refine zq7 ?_; simp only [blockP, thenP, reduceIte]) | with_reducible refine zq8 ?_)
      (first | refine RR.ret ?_ | refine RR.normal ?_); simp [hr', h1, h2]
  · have hr' : r = false := by rw [hr]; simp [keenB, h1]
    refine acallK tabOk Try.func41 rfl rfl (show 2 ≤ _ by decide) rfl fun _ => ?_; simp only [Try.ntmps41]
    repeat (first | (with_reducible first | refine zq1 fun _ => ?_ | refine zq2 fun _ => ?_ | refine zq3 ?_) | ((first | refine zq4 ?_ | refine zq5 fun _ _ => ?_ | refine zq6 ?_); simp [-getElem?_pos, z0, z1, z2, h1]) | ((first | refine AWp.ret ?_ | refine AWp.skip ?_ | refine AWp.exit ?_); try simp only [thenP]) | (with_reducible refine zq7 ?_; simp only [blockP, thenP, reduceIte]) | with_reducible refine zq8 ?_)
    (first | refine RR.ret ?_ | refine RR.normal ?_); simp [hr', h1]
end Go.Proofs.Ytcmkkgdjhjpldaa.Eng

noncomputable section
namespace Go.Proofs.Ytcmkkgdjhjpldaa.Eng
open Go.RowKit
set_option maxRecDepth 100000
set_option maxHeartbeats 4000000
def FT : List Int := [4, -1, -1, -1, -1, -1, -1]
def ST : List Int := [0, 0, 1, 1, 2, 1, 1, 2, 2]
theorem chk_g : chkErr BX [⟨4, 0⟩] = 0 := by kernel_rfl
theorem chk_eg : chkErr BX [⟨40, 0⟩, ⟨4, 0⟩] = 0 := by kernel_rfl
theorem chk_eg2 : chkErr BX2 [⟨40, 0⟩, ⟨4, 0⟩] = 0 := by kernel_rfl
theorem chk_g2 : chkErr BX2 [⟨4, 0⟩] = 0 := by kernel_rfl
theorem gE : GoodE ⟨40, 0⟩ := ⟨by decide, by decide, by decide, by decide⟩
theorem nd : needN BX ⟨4, 0⟩ ⟨40, 0⟩ = some 9 := by rw [need_L gE, gL_BX]; kernel_rfl
theorem nd2 : needN BX2 ⟨4, 0⟩ ⟨40, 0⟩ = none := by rw [need_L gE, gL_BX2]; kernel_rfl
theorem nd_0 : needN (woS BX 0) ⟨4, 0⟩ ⟨40, 0⟩ = some 12 := by rw [need_L gE, gL_BX0]; kernel_rfl
theorem nd_1 : needN (woS BX 1) ⟨4, 0⟩ ⟨40, 0⟩ = some 18 := by rw [need_L gE, gL_BX1]; kernel_rfl
theorem nd_2 : needN (woS BX 2) ⟨4, 0⟩ ⟨40, 0⟩ = none := nd2
theorem vReach : reachE BX ⟨4, 0⟩ ⟨40, 0⟩ = 0 := by rw [reachE, if_pos chk_eg, nd]
theorem vReach2 : reachE BX2 ⟨4, 0⟩ ⟨40, 0⟩ = 13 := by rw [reachE, if_pos chk_eg2, nd2]
theorem vAft1 : aftR BX ⟨40, 0⟩ [0, 0, 1] = ⟨16, 5⟩ := by kernel_rfl
theorem vAft1E : aftE BX ⟨40, 0⟩ [0, 0, 1] = 0 := by kernel_rfl
theorem vAft2E : aftE BX ⟨40, 0⟩ [0, 0, 0, 0] = 16 := by kernel_rfl
theorem vAft2 : aftR BX ⟨40, 0⟩ [0, 0, 0, 0] = ⟨0, 0⟩ := by kernel_rfl
theorem vBest : bestO BX ⟨40, 0⟩ ⟨4, 0⟩ = ST := by rw [bestO, if_pos chk_eg, nd]; simp only []; rw [best_L, gL_BX]; kernel_rfl
theorem vBest2 : bestO BX2 ⟨40, 0⟩ ⟨4, 0⟩ = [] := by rw [bestO, if_pos chk_eg2, nd2]
theorem vFarE : farE BX ⟨4, 0⟩ 2 = 0 := by rw [farE, if_pos chk_g]; rfl
theorem vFarE2 : farE BX2 ⟨4, 0⟩ 800 = 0 := by rw [farE, if_pos chk_g2]; rfl
theorem vFar : farO BX ⟨4, 0⟩ 2 = [9, 9, 9, 6, 6, 6, 6] := by rw [farO, if_pos vFarE, far_L, gL_BX]; kernel_rfl
theorem vLast : farO BX2 ⟨4, 0⟩ 800 = FT := by rw [farO, if_pos vFarE2, far_L, gL_BX2]; kernel_rfl
theorem vChk1 : chkRows BX ⟨40, 0⟩ ⟨4, 0⟩ [FT, [5, 5, 5, 5, -1, -1, -1]] = 0 := by kernel_rfl
theorem vChk2 : chkRows BX ⟨40, 0⟩ ⟨4, 0⟩ [FT, FT] = 14 := by kernel_rfl
def RQ : List (List Int) := (RW.take 9).map fun L => L.map (· - 1)
theorem vRows : rowsO BX ⟨40, 0⟩ ⟨4, 0⟩ = RQ := by rw [rowsO, if_pos chk_eg, nd]; simp only []; rw [rows_L, gL_BX]; rfl
theorem vRef : refChk BX ⟨40, 0⟩ ⟨4, 0⟩ RQ = 0 := by kernel_rfl
theorem vSpare : spareO BX ⟨40, 0⟩ ⟨4, 0⟩ = [] := by
  rw [spareO, if_pos chk_eg, nd]
  show (([0, 1, 2].filter fun j => decide (needN (woS BX j) ⟨4, 0⟩ ⟨40, 0⟩ = some 9)).map fun j : Nat => (j : Int)) = []
  simp [nd_0, nd_1, nd_2]
theorem vEnds : endsO BX ⟨40, 0⟩ ⟨4, 0⟩ = [2] := by rw [endsO, if_pos chk_eg, nd]; simp only []; rw [ends_L, gL_BX]; kernel_rfl
theorem vNever : chkNever BX2 ⟨40, 0⟩ ⟨4, 0⟩ FT = 0 := by kernel_rfl
end Go.Proofs.Ytcmkkgdjhjpldaa.Eng

noncomputable section
namespace Go.Proofs.Ytcmkkgdjhjpldaa.Eng
open Go.RowKit
set_option maxRecDepth 100000
set_option maxHeartbeats 16000000
theorem bxL : boxD BX = .list [[iD 20, iD 15, iD 2], [iD 5, iD 4, iD 1], [iD 0, iD 1, iD (-3)]] := rfl
theorem bxL2 : boxD BX2 = .list [[iD 20, iD 15, iD 2], [iD 5, iD 4, iD 1]] := rfl
theorem ftL : intL FT = .list [[iD 4], [iD (-1)], [iD (-1)], [iD (-1)], [iD (-1)], [iD (-1)], [iD (-1)]] := rfl
theorem bestLit : intL ST = .list [[iD 0], [iD 0], [iD 1], [iD 1], [iD 2], [iD 1], [iD 1], [iD 2], [iD 2]] := rfl
theorem works_call : ACall Try.prog 16 [] (.val (.bool true)) := by
  have ce := edge_c 40 0
  have cg := edge_c 4 0
  have ca := edge_c 16 5
  have c1 := after_c BX ⟨40, 0⟩ [0, 0, 1] (by decide)
  have c2 := after_c BX ⟨40, 0⟩ [0, 0, 0, 0] (by decide)
  rw [vAft1, vAft1E] at c1
  rw [vAft2, vAft2E] at c2
  have c3 := best_c BX ⟨40, 0⟩ ⟨4, 0⟩
  rw [vBest, vReach] at c3
  have c4 := far_c BX ⟨4, 0⟩ 2
  rw [vFar, vFarE] at c4
  have c5 := checkRows_c BX ⟨40, 0⟩ ⟨4, 0⟩ [FT, [5, 5, 5, 5, -1, -1, -1]] (by decide)
  have c6 := checkRows_c BX ⟨40, 0⟩ ⟨4, 0⟩ [FT, FT] (by decide)
  rw [vChk1] at c5
  rw [vChk2] at c6
  have c7 := rows_c BX ⟨40, 0⟩ ⟨4, 0⟩
  rw [vRows, vReach] at c7
  have c8 := spare_c BX ⟨40, 0⟩ ⟨4, 0⟩
  rw [vSpare, vReach] at c8
  have c9 := ends_c BX ⟨40, 0⟩ ⟨4, 0⟩
  rw [vEnds, vReach] at c9
  have c10 := last_c BX2 ⟨4, 0⟩
  rw [vLast, vFarE2] at c10
  have c11 := checkNever_c BX2 ⟨40, 0⟩ ⟨4, 0⟩ FT (by decide)
  rw [vNever] at c11
  have c12 := best_c BX2 ⟨40, 0⟩ ⟨4, 0⟩
  rw [vBest2, vReach2] at c12
  have r1 := refCheckRows_c BX ⟨40, 0⟩ ⟨4, 0⟩ RQ (by decide)
  rw [vRef] at r1
  have i1 := ints_c ST ST (by decide) (by decide)
  have i2 := ints_c [9, 9, 9, 6, 6, 6, 6] [9, 9, 9, 6, 6, 6, 6] (by decide) (by decide)
  have i3 := ints_c [2] [2] (by decide) (by decide)
  have i4 := ints_c FT FT (by decide) (by decide)
  have cb := box_c
  rw [bxL] at cb c1 c2 c3 c4 c5 c6 c7 c8 c9 r1
  rw [bxL2] at c10 c11 c12
  rw [bestLit] at c3 i1
  rw [ftL] at c10 c11 i4
  rw [show intL [0, 0, 1] = .list [[iD 0], [iD 0], [iD 1]] from rfl] at c1
  rw [show intL [0, 0, 0, 0] = .list [[iD 0], [iD 0], [iD 0], [iD 0]] from rfl] at c2
  rw [show (Dat.list (listsD [FT, [5, 5, 5, 5, -1, -1, -1]])) = .list [[.list [[iD 4], [iD (-1)], [iD (-1)], [iD (-1)], [iD (-1)], [iD (-1)], [iD (-1)]]], [.list [[iD 5], [iD 5], [iD 5], [iD 5], [iD (-1)], [iD (-1)], [iD (-1)]]]] from rfl] at c5
  rw [show (Dat.list (listsD [FT, FT])) = .list [[.list [[iD 4], [iD (-1)], [iD (-1)], [iD (-1)], [iD (-1)], [iD (-1)], [iD (-1)]]], [.list [[iD 4], [iD (-1)], [iD (-1)], [iD (-1)], [iD (-1)], [iD (-1)], [iD (-1)]]]] from rfl] at c6
  rw [show intL [] = .list [] from rfl] at c8
  rw [show intL [2] = .list [[iD 2]] from rfl] at c9 i3
  rw [show intL [9, 9, 9, 6, 6, 6, 6] = .list [[iD 9], [iD 9], [iD 9], [iD 6], [iD 6], [iD 6], [iD 6]] from rfl] at c4 i2
  rw [show intL [] = .list [] from rfl] at c12
  have hlen : (listsD RQ).length = 9 := rfl
  refine acallK tabOk Try.func16 rfl rfl (show 0 ≤ _ by decide) rfl fun _ => ?_; simp only [Try.ntmps16]
  repeat (first | (with_reducible first | refine zq1 fun _ => ?_ | refine zq2 fun _ => ?_ | refine zq3 ?_) | ((first | refine zq4 ?_ | refine zq5 fun _ _ => ?_ | refine zq6 ?_); simp [-getElem?_pos, z0, z1, z2, z0]) | ((first | refine AWp.ret ?_ | refine AWp.skip ?_ | refine AWp.exit ?_); try simp only [thenP]) | (with_reducible refine zq7 ?_; simp only [blockP, thenP, reduceIte]) | with_reducible refine zq8 ?_)
  (first | refine Exec0.call [] cb ?_ rfl ?_ ?_ | refine Exec.call [] cb ?_ rfl ?_ ?_); (focus simp [-getElem?_pos, z0]); (focus simp [-getElem?_pos, z0, z1, z2, z0]); simp [-getElem?_pos, z0, z1, z2, z0]
  (first | refine Exec0.call [] ce ?_ rfl ?_ ?_ | refine Exec.call [] ce ?_ rfl ?_ ?_); (focus simp [-getElem?_pos, z0]); (focus simp [-getElem?_pos, z0, z1, z2, z0]); simp [-getElem?_pos, z0, z1, z2, z0]
  (first | refine Exec0.call [] cg ?_ rfl ?_ ?_ | refine Exec.call [] cg ?_ rfl ?_ ?_); (focus simp [-getElem?_pos, z0]); (focus simp [-getElem?_pos, z0, z1, z2, z0]); simp [-getElem?_pos, z0, z1, z2, z0]
  repeat (first | (with_reducible first | refine zq1 fun _ => ?_ | refine zq2 fun _ => ?_ | refine zq3 ?_) | ((first | refine zq4 ?_ | refine zq5 fun _ _ => ?_ | refine zq6 ?_); simp [-getElem?_pos, z0, z1, z2, z0]) | ((first | refine AWp.ret ?_ | refine AWp.skip ?_ | refine AWp.exit ?_); try simp only [thenP]) | (with_reducible refine zq7 ?_; simp only [blockP, thenP, reduceIte]) | with_reducible refine zq8 ?_)
  (first | refine Exec0.call [11] c1 ?_ rfl ?_ ?_ | refine Exec.call [11] c1 ?_ rfl ?_ ?_); (focus simp [-getElem?_pos, z0]); (focus simp [-getElem?_pos, z0, z1, z2, z0]); simp [-getElem?_pos, z0, z1, z2, z0]
  repeat (first | (with_reducible first | refine zq1 fun _ => ?_ | refine zq2 fun _ => ?_ | refine zq3 ?_) | ((first | refine zq4 ?_ | refine zq5 fun _ _ => ?_ | refine zq6 ?_); simp [-getElem?_pos, z0, z1, z2, z0]) | ((first | refine AWp.ret ?_ | refine AWp.skip ?_ | refine AWp.exit ?_); try simp only [thenP]) | (with_reducible refine zq7 ?_; simp only [blockP, thenP, reduceIte]) | with_reducible refine zq8 ?_)
  (first | refine Exec0.call [21] c2 ?_ rfl ?_ ?_ | refine Exec.call [21] c2 ?_ rfl ?_ ?_); (focus simp [-getElem?_pos, z0]); (focus simp [-getElem?_pos, z0, z1, z2, z0]); simp [-getElem?_pos, z0, z1, z2, z0]
  repeat (first | (with_reducible first | refine zq1 fun _ => ?_ | refine zq2 fun _ => ?_ | refine zq3 ?_) | ((first | refine zq4 ?_ | refine zq5 fun _ _ => ?_ | refine zq6 ?_); simp [-getElem?_pos, z0, z1, z2, z0]) | ((first | refine AWp.ret ?_ | refine AWp.skip ?_ | refine AWp.exit ?_); try simp only [thenP]) | (with_reducible refine zq7 ?_; simp only [blockP, thenP, reduceIte]) | with_reducible refine zq8 ?_)
  (first | refine Exec0.call [] c3 ?_ rfl ?_ ?_ | refine Exec.call [] c3 ?_ rfl ?_ ?_); (focus simp [-getElem?_pos, z0]); (focus simp [-getElem?_pos, z0, z1, z2, z0]); simp [-getElem?_pos, z0, z1, z2, z0]
  repeat (first | (with_reducible first | refine zq1 fun _ => ?_ | refine zq2 fun _ => ?_ | refine zq3 ?_) | ((first | refine zq4 ?_ | refine zq5 fun _ _ => ?_ | refine zq6 ?_); simp [-getElem?_pos, z0, z1, z2, z0]) | ((first | refine AWp.ret ?_ | refine AWp.skip ?_ | refine AWp.exit ?_); try simp only [thenP]) | (with_reducible refine zq7 ?_; simp only [blockP, thenP, reduceIte]) | with_reducible refine zq8 ?_)
  (first | refine Exec0.call [] c4 ?_ rfl ?_ ?_ | refine Exec.call [] c4 ?_ rfl ?_ ?_); (focus simp [-getElem?_pos, z0]); (focus simp [-getElem?_pos, z0, z1, z2, z0]); simp [-getElem?_pos, z0, z1, z2, z0]
  repeat (first | (with_reducible first | refine zq1 fun _ => ?_ | refine zq2 fun _ => ?_ | refine zq3 ?_) | ((first | refine zq4 ?_ | refine zq5 fun _ _ => ?_ | refine zq6 ?_); simp [-getElem?_pos, z0, z1, z2, z0]) | ((first | refine AWp.ret ?_ | refine AWp.skip ?_ | refine AWp.exit ?_); try simp only [thenP]) | (with_reducible refine zq7 ?_; simp only [blockP, thenP, reduceIte]) | with_reducible refine zq8 ?_)
  (first | refine Exec0.call [53] c5 ?_ rfl ?_ ?_ | refine Exec.call [53] c5 ?_ rfl ?_ ?_); (focus simp [-getElem?_pos, z0]); (focus simp [-getElem?_pos, z0, z1, z2, z0]); simp [-getElem?_pos, z0, z1, z2, z0]
  repeat (first | (with_reducible first | refine zq1 fun _ => ?_ | refine zq2 fun _ => ?_ | refine zq3 ?_) | ((first | refine zq4 ?_ | refine zq5 fun _ _ => ?_ | refine zq6 ?_); simp [-getElem?_pos, z0, z1, z2, z0]) | ((first | refine AWp.ret ?_ | refine AWp.skip ?_ | refine AWp.exit ?_); try simp only [thenP]) | (with_reducible refine zq7 ?_; simp only [blockP, thenP, reduceIte]) | with_reducible refine zq8 ?_)
  (first | refine Exec0.call [61] c6 ?_ rfl ?_ ?_ | refine Exec.call [61] c6 ?_ rfl ?_ ?_); (focus simp [-getElem?_pos, z0]); (focus simp [-getElem?_pos, z0, z1, z2, z0]); simp [-getElem?_pos, z0, z1, z2, z0]
  repeat (first | (with_reducible first | refine zq1 fun _ => ?_ | refine zq2 fun _ => ?_ | refine zq3 ?_) | ((first | refine zq4 ?_ | refine zq5 fun _ _ => ?_ | refine zq6 ?_); simp [-getElem?_pos, z0, z1, z2, z0]) | ((first | refine AWp.ret ?_ | refine AWp.skip ?_ | refine AWp.exit ?_); try simp only [thenP]) | (with_reducible refine zq7 ?_; simp only [blockP, thenP, reduceIte]) | with_reducible refine zq8 ?_)
  (first | refine Exec0.call [] c7 ?_ rfl ?_ ?_ | refine Exec.call [] c7 ?_ rfl ?_ ?_); (focus simp [-getElem?_pos, z0]); (focus simp [-getElem?_pos, z0, z1, z2, z0]); simp [-getElem?_pos, z0, z1, z2, z0]
  repeat (first | (with_reducible first | refine zq1 fun _ => ?_ | refine zq2 fun _ => ?_ | refine zq3 ?_) | ((first | refine zq4 ?_ | refine zq5 fun _ _ => ?_ | refine zq6 ?_); simp [-getElem?_pos, z0, z1, z2, z0]) | ((first | refine AWp.ret ?_ | refine AWp.skip ?_ | refine AWp.exit ?_); try simp only [thenP]) | (with_reducible refine zq7 ?_; simp only [blockP, thenP, reduceIte]) | with_reducible refine zq8 ?_)
  (first | refine Exec0.call [] c8 ?_ rfl ?_ ?_ | refine Exec.call [] c8 ?_ rfl ?_ ?_); (focus simp [-getElem?_pos, z0]); (focus simp [-getElem?_pos, z0, z1, z2, z0]); simp [-getElem?_pos, z0, z1, z2, z0]
  repeat (first | (with_reducible first | refine zq1 fun _ => ?_ | refine zq2 fun _ => ?_ | refine zq3 ?_) | ((first | refine zq4 ?_ | refine zq5 fun _ _ => ?_ | refine zq6 ?_); simp [-getElem?_pos, z0, z1, z2, z0]) | ((first | refine AWp.ret ?_ | refine AWp.skip ?_ | refine AWp.exit ?_); try simp only [thenP]) | (with_reducible refine zq7 ?_; simp only [blockP, thenP, reduceIte]) | with_reducible refine zq8 ?_)
  (first | refine Exec0.call [] c9 ?_ rfl ?_ ?_ | refine Exec.call [] c9 ?_ rfl ?_ ?_); (focus simp [-getElem?_pos, z0]); (focus simp [-getElem?_pos, z0, z1, z2, z0]); simp [-getElem?_pos, z0, z1, z2, z0]
  repeat (first | (with_reducible first | refine zq1 fun _ => ?_ | refine zq2 fun _ => ?_ | refine zq3 ?_) | ((first | refine zq4 ?_ | refine zq5 fun _ _ => ?_ | refine zq6 ?_); simp [-getElem?_pos, z0, z1, z2, z0]) | ((first | refine AWp.ret ?_ | refine AWp.skip ?_ | refine AWp.exit ?_); try simp only [thenP]) | (with_reducible refine zq7 ?_; simp only [blockP, thenP, reduceIte]) | with_reducible refine zq8 ?_)
  (first | refine Exec0.call [] c10 ?_ rfl ?_ ?_ | refine Exec.call [] c10 ?_ rfl ?_ ?_); (focus simp [-getElem?_pos, z0]); (focus simp [-getElem?_pos, z0, z1, z2, z0]); simp [-getElem?_pos, z0, z1, z2, z0]
  repeat (first | (with_reducible first | refine zq1 fun _ => ?_ | refine zq2 fun _ => ?_ | refine zq3 ?_) | ((first | refine zq4 ?_ | refine zq5 fun _ _ => ?_ | refine zq6 ?_); simp [-getElem?_pos, z0, z1, z2, z0]) | ((first | refine AWp.ret ?_ | refine AWp.skip ?_ | refine AWp.exit ?_); try simp only [thenP]) | (with_reducible refine zq7 ?_; simp only [blockP, thenP, reduceIte]) | with_reducible refine zq8 ?_)
  (first | refine Exec0.call [46] c11 ?_ rfl ?_ ?_ | refine Exec.call [46] c11 ?_ rfl ?_ ?_); (focus simp [-getElem?_pos, z0]); (focus simp [-getElem?_pos, z0, z1, z2, z0]); simp [-getElem?_pos, z0, z1, z2, z0]
  repeat (first | (with_reducible first | refine zq1 fun _ => ?_ | refine zq2 fun _ => ?_ | refine zq3 ?_) | ((first | refine zq4 ?_ | refine zq5 fun _ _ => ?_ | refine zq6 ?_); simp [-getElem?_pos, z0, z1, z2, z0]) | ((first | refine AWp.ret ?_ | refine AWp.skip ?_ | refine AWp.exit ?_); try simp only [thenP]) | (with_reducible refine zq7 ?_; simp only [blockP, thenP, reduceIte]) | with_reducible refine zq8 ?_)
  (first | refine Exec0.call [] c12 ?_ rfl ?_ ?_ | refine Exec.call [] c12 ?_ rfl ?_ ?_); (focus simp [-getElem?_pos, z0]); (focus simp [-getElem?_pos, z0, z1, z2, z0]); simp [-getElem?_pos, z0, z1, z2, z0]
  (first | (with_reducible first | refine zq1 fun _ => ?_ | refine zq2 fun _ => ?_ | refine zq3 ?_) | ((first | refine zq4 ?_ | refine zq5 fun _ _ => ?_ | refine zq6 ?_); simp [-getElem?_pos, z0, z1, z2, z0]) | ((first | refine AWp.ret ?_ | refine AWp.skip ?_ | refine AWp.exit ?_); try simp only [thenP]) | (with_reducible refine zq7 ?_; simp only [blockP, thenP, reduceIte]) | with_reducible refine zq8 ?_)
  refine KK.go ?_
  refine AWp.fits (n := 4) (l := [(1, .d (.list [[iD 20, iD 15, iD 2], [iD 5, iD 4, iD 1], [iD 0, iD 1, iD (-3)]])), (2, .ptr 0 0 0), (3, .ptr 1 0 0), (4, .ptr 2 0 0), (5, .d (iD 0)), (7, .d (iD 16)), (8, .d (.list [[iD 0], [iD 0], [iD 1], [iD 1], [iD 2], [iD 1], [iD 1], [iD 2], [iD 2]])), (9, .d (iD 0)), (10, .d (.list [[iD 9], [iD 9], [iD 9], [iD 6], [iD 6], [iD 6], [iD 6]])), (11, .d (iD 0)), (12, .own 3 7 1), (13, .d (iD 0)), (14, .d (iD 14)), (15, .d (.list (listsD RQ))), (16, .d (iD 0)), (17, .d (.list [])), (18, .d (iD 0)), (19, .d (.list [[iD 2]])), (20, .d (iD 0)), (21, .d (.list [[iD 4], [iD (-1)], [iD (-1)], [iD (-1)], [iD (-1)], [iD (-1)], [iD (-1)]])), (22, .d (iD 0)), (23, .d (iD 0)), (25, .d (iD 13))]) (m := [(0, .box 24 [.d (iD 40), .d (iD 0)] false), (1, .box 24 [.d (iD 4), .d (iD 0)] false), (2, .box 24 [.d (iD 16), .d (iD 5)] false), (3, .row 3 1 [[iD 4], [iD (-1)], [iD (-1)], [iD (-1)], [iD (-1)], [iD (-1)], [iD (-1)]] true)]) (σ := [4, 5, 16, 46]) ⟨by rfl, by simp, by simp [or_imp, forall_and], by decide⟩ ?_
  repeat (first | (with_reducible first | refine zq1 fun _ => ?_ | refine zq2 fun _ => ?_ | refine zq3 ?_) | ((first | refine zq4 ?_ | refine zq5 fun _ _ => ?_ | refine zq6 ?_); simp [-getElem?_pos, z0, z1, z2, hlen]) | ((first | refine AWp.ret ?_ | refine AWp.skip ?_ | refine AWp.exit ?_); try simp only [thenP]) | (with_reducible refine zq7 ?_; simp only [blockP, thenP, reduceIte]) | with_reducible refine zq8 ?_)
  (first | refine Exec0.call [] ca ?_ rfl ?_ ?_ | refine Exec.call [] ca ?_ rfl ?_ ?_); (focus simp [-getElem?_pos, z0]); (focus simp [-getElem?_pos, z0, z1, z2, z0]); simp [-getElem?_pos, z0, z1, z2, z0]
  (first | refine Exec0.call [55] i1 ?_ rfl ?_ ?_ | refine Exec.call [55] i1 ?_ rfl ?_ ?_); (focus simp [-getElem?_pos, z0]); (focus simp [-getElem?_pos, z0, z1, z2, z0]); simp [-getElem?_pos, z0, z1, z2, z0]
  (first | refine Exec0.call [60] i2 ?_ rfl ?_ ?_ | refine Exec.call [60] i2 ?_ rfl ?_ ?_); (focus simp [-getElem?_pos, hlen]); (focus simp [-getElem?_pos, z0, z1, z2, hlen]); simp [-getElem?_pos, z0, z1, z2, hlen]
  (first | refine Exec0.call [] r1 ?_ rfl ?_ ?_ | refine Exec.call [] r1 ?_ rfl ?_ ?_); (focus simp [-getElem?_pos, z0]); (focus simp [-getElem?_pos, z0, z1, z2, z0]); simp [-getElem?_pos, z0, z1, z2, z0]
  (first | refine Exec0.call [83] i3 ?_ rfl ?_ ?_ | refine Exec.call [83] i3 ?_ rfl ?_ ?_); (focus simp [-getElem?_pos, z0]); (focus simp [-getElem?_pos, z0, z1, z2, z0]); simp [-getElem?_pos, z0, z1, z2, z0]
  (first | refine Exec0.call [3] i4 ?_ rfl ?_ ?_ | refine Exec.call [3] i4 ?_ rfl ?_ ?_); (focus simp [-getElem?_pos, z0]); (focus simp [-getElem?_pos, z0, z1, z2, z0]); simp [-getElem?_pos, z0, z1, z2, z0]
  repeat (first | (with_reducible first | refine zq1 fun _ => ?_ | refine zq2 fun _ => ?_ | refine zq3 ?_) | ((first | refine zq4 ?_ | refine zq5 fun _ _ => ?_ | refine zq6 ?_); simp [-getElem?_pos, z0, z1, z2, z0]) | ((first | refine AWp.ret ?_ | refine AWp.skip ?_ | refine AWp.exit ?_); try simp only [thenP]) | (with_reducible refine zq7 ?_; simp only [blockP, thenP, reduceIte]) | with_reducible refine zq8 ?_)
  (first | refine RR.ret ?_ | refine RR.normal ?_); simp [z0]
end Go.Proofs.Ytcmkkgdjhjpldaa.Eng

noncomputable section
namespace Go.Proofs.Ytcmkkgdjhjpldaa.Eng
open Go.RowKit
theorem Goes.pot1 {l : List HS} {r : Nat → Int} : ∀ {i : Nat}, Goes l r i → (i : Int) + Eng.pot r ≤ Eng.pot (itR l r i)
  | 0, _ => by simp [itR]
  | i + 1, h => by
    have h1 := Goes.pot1 (l := l) (r := r) (i := i) fun j hj => h j (by omega)
    have h2 := pot_step (h i (by omega))
    have e : itR l r (i + 1) = stepR l (itR l r i) := rfl
    rw [e]
    omega
theorem bestG_ext {l : List HS} {rs rs' : List (Nat → Int)} : ∀ (k : Nat) (e : HE), (∀ i, i < k → rs[i]? = rs'[i]?) → bestG l rs k e = bestG l rs' k e
  | 0, _, _ => rfl
  | k + 1, e, h => by
    have ho : onwX l rs e (k + 1) = onwX l rs' e (k + 1) := by
      rw [onwX, onwX, List.getD_eq_getElem?_getD, List.getD_eq_getElem?_getD, h k (by omega)]
    rw [bestG, bestG, ho]
    cases onwX l rs' e (k + 1) with
    | nil => rfl
    | cons x _ => simp only [bestG_ext k x.2 fun i hi => h i (by omega)]
theorem best_rest {l : List HS} {e g : HE} (h0 : chkErr l [e, g] = 0) {k : Nat} (hn : needN l g e = some (k + 1)) :
    ∃ (i : Nat) (s : HS), l[i]? = some s ∧ canS s e = true ∧ bestO l e g = (i : Int) :: bestO l (strE s e) g ∧ chkErr l [strE s e, g] = 0 ∧ needN l g (strE s e) = some k := by
  obtain ⟨hb, hes⟩ := chkOk h0
  have gg := goodE (e := g) (by simp at hes; exact hes.2)
  have ge := goodE (e := e) (by simp at hes; exact hes.1)
  have hl := hb.all
  obtain ⟨hk1, hk2⟩ := rows_take hn
  obtain ⟨m, hm⟩ := rows_are hl gg
  have hkm : k + 1 ≤ m + 1 := by rw [List.length_take, hm.len] at hk1; omega
  obtain ⟨h1, h2⟩ := (need_some hl gg ge).1 hn
  have hX : Into l e (RK l g k) := by
    rcases (has_step hl (RK_ok hl gg k) ge).1 h1 with h | h
    · rw [h2 k (by omega)] at h; cases h
    · exact h
  have hget : ((rowsG l g).take (k + 1))[k]? = some (RK l g k) := by rw [List.getElem?_take, if_pos (by omega), hm.get k (by omega)]
  have ho : onwX l ((rowsG l g).take (k + 1)) e (k + 1) = strks l e (RK l g k) := by
    rw [onwX, List.getD_eq_getElem?_getD, hget]
    rfl
  obtain ⟨k0, s0, hs0, hX0⟩ := hX
  have hm0 : (k0, strE s0 e) ∈ strks l e (RK l g k) := strks_mem.2 ⟨s0, hs0, hX0, rfl⟩
  cases hq : strks l e (RK l g k) with
  | nil => rw [hq] at hm0; cases hm0
  | cons y ys =>
    obtain ⟨i, x⟩ := y
    obtain ⟨s, hs, hXs, rfl⟩ := strks_mem.1 (show (i, x) ∈ strks l e (RK l g k) by rw [hq]; exact List.mem_cons_self)
    rw [strX, Bool.and_eq_true] at hXs
    have gx := ge.str (goodS hl hs) hXs.1
    have hc : chkErr l [strE s e, g] = 0 := by
      have hb0 : boxErr l = 0 := Classical.byContradiction fun hn => by rw [chkErr, if_neg hn] at h0; exact hn h0
      have hg : okE g = true := by simp at hes; exact hes.2
      have hx : okE (strE s e) = true := by
        rw [okE_eq]
        exact decide_eq_true ⟨⟨gx.d0, gx.d1⟩, gx.b0, gx.b1⟩
      rw [chkErr, if_pos hb0, if_pos (by simp [hx, hg])]
    have hnx : needN l g (strE s e) = some k := by
      refine (need_some hl gg gx).2 ⟨hXs.2, fun j hj => ?_⟩
      cases hbb : hasE (strE s e) (RK l g j) with
      | false => rfl
      | true =>
        have : hasE e (RK l g (j + 1)) = true := (has_step hl (RK_ok hl gg j) ge).2 (.inr ⟨i, s, hs, by rw [strX, hXs.1]; exact hbb⟩)
        rw [h2 (j + 1) (by omega)] at this
        cases this
    refine ⟨i, s, hs, hXs.1, ?_, hc, hnx⟩
    rw [bestO, if_pos h0, hn, bestO, if_pos hc, hnx]
    simp only
    rw [bestG, ho, hq]
    simp only
    congr 1
    refine bestG_ext k _ fun j hj => ?_
    rw [List.getElem?_take, List.getElem?_take, if_pos (by omega), if_pos hj]
end Go.Proofs.Ytcmkkgdjhjpldaa.Eng

noncomputable section
namespace Go.Proofs.Ytcmkkgdjhjpldaa.Eng
open Go.RowKit
set_option maxRecDepth 100000
set_option maxHeartbeats 16000000
theorem ixE_of {e : HE} (ge : GoodE e) : (7 * e.depth + e.burr).toNat < 707 ∧ ixE (7 * e.depth + e.burr).toNat = e ∧ ((7 * e.depth + e.burr).toNat : Int) = 7 * e.depth + e.burr := by
  obtain ⟨d, b⟩ := e
  obtain ⟨h1, h2, h3, h4⟩ := ge
  simp only at h1 h2 h3 h4
  refine ⟨by simp only; omega, ?_, by simp only; omega⟩
  simp only [ixE, HE.mk.injEq]
  omega
def valN (l : List HS) (g : HE) (n i : Nat) : Int := match needN l g (ixE i) with
  | some k => if k ≤ n then (k : Int) else -1
  | none => -1
def needV (l : List HS) (g : HE) (i : Nat) : Int := match needN l g (ixE i) with
  | some k => (k : Int)
  | none => -1
theorem val_neg {l : List HS} {g : HE} {n i : Nat} : valN l g n i < 0 ↔ ∀ k, needN l g (ixE i) = some k → n < k := by
  unfold valN
  cases needN l g (ixE i) with
  | none => simp
  | some k =>
    simp only [Option.some.injEq, forall_eq']
    split <;> omega
theorem val_eq {l : List HS} {g : HE} {n i m : Nat} : valN l g n i = (m : Int) ↔ needN l g (ixE i) = some m ∧ m ≤ n := by
  unfold valN
  cases needN l g (ixE i) with
  | none => simp
  | some k =>
    simp only [Option.some.injEq]
    split <;> omega
theorem val_succ {l : List HS} {g : HE} {n i : Nat} (h : needN l g (ixE i) ≠ some (n + 1)) : valN l g (n + 1) i = valN l g n i := by
  unfold valN
  cases hn : needN l g (ixE i) with
  | none => rfl
  | some k =>
    rw [hn] at h
    simp only
    have : k ≠ n + 1 := fun e => h (by rw [e])
    split <;> split <;> first | rfl | omega
theorem val_new {l : List HS} {g : HE} {n i : Nat} (h : needN l g (ixE i) = some (n + 1)) : valN l g (n + 1) i = ((n + 1 : Nat) : Int) := by
  rw [valN, h]
  simp
theorem need_step {l : List HS} (hl : l.all okS = true) {g e : HE} (gg : GoodE g) (ge : GoodE e) {n : Nat} (h : ∀ k, needN l g e = some k → n < k) : needN l g e = some (n + 1) ↔ ∃ (j : Nat) (s : HS), l[j]? = some s ∧ canS s e = true ∧ needN l g (strE s e) = some n := by
  have hno : ∀ k, k ≤ n → hasE e (RK l g k) = false := fun k hk => by
    cases hh : hasE e (RK l g k) with
    | false => rfl
    | true =>
      cases hn : needN l g e with
      | none => rw [(need_none hl gg ge).1 hn k] at hh; cases hh
      | some m =>
        have := h m hn
        rw [((need_some hl gg ge).1 hn).2 k (by omega)] at hh
        cases hh
  rw [need_some hl gg ge]
  constructor
  · rintro ⟨h1, -⟩
    rcases (has_step hl (RK_ok hl gg n) ge).1 h1 with h2 | ⟨j, s, hs, hX⟩
    · rw [hno n (Nat.le_refl _)] at h2; cases h2
    · rw [strX, Bool.and_eq_true] at hX
      refine ⟨j, s, hs, hX.1, (need_some hl gg (ge.str (goodS hl hs) hX.1)).2 ⟨hX.2, fun k hk => ?_⟩⟩
      cases hb : hasE (strE s e) (RK l g k) with
      | false => rfl
      | true =>
        have : hasE e (RK l g (k + 1)) = true := (has_step hl (RK_ok hl gg k) ge).2 (.inr ⟨j, s, hs, by rw [strX, hX.1]; exact hb⟩)
        rw [hno (k + 1) (by omega)] at this
        cases this
  · rintro ⟨j, s, hs, hc, hn⟩
    have := ((need_some hl gg (ge.str (goodS hl hs) hc)).1 hn).1
    exact ⟨(has_step hl (RK_ok hl gg n) ge).2 (.inr ⟨j, s, hs, by rw [strX, hc]; exact this⟩), fun k hk => hno k (by omega)⟩
theorem need_down {l : List HS} {g : HE} : ∀ (d k : Nat) (e : HE), chkErr l [e, g] = 0 → needN l g e = some (k + d) → ∃ i, i < 707 ∧ needN l g (ixE i) = some k
  | 0, k, e, h0, hn => by
    obtain ⟨hb, hes⟩ := chkOk h0
    have ge := goodE (e := e) (by simp at hes; exact hes.1)
    obtain ⟨h1, h2, -⟩ := ixE_of ge
    exact ⟨_, h1, by rw [h2]; exact hn⟩
  | d + 1, k, e, h0, hn => by
    obtain ⟨i, s, -, -, -, hc, hn'⟩ := best_rest h0 (k := k + d) (by rw [hn]; rfl)
    exact need_down d k _ hc hn'
theorem val_all {l : List HS} {g : HE} (h0 : chkErr l [g, g] = 0) {n : Nat} (h : ∀ i, i < 707 → needN l g (ixE i) ≠ some (n + 1)) {i : Nat} (hi : i < 707) : valN l g n i = needV l g i := by
  unfold valN needV
  cases hn : needN l g (ixE i) with
  | none => rfl
  | some k =>
    simp only
    refine if_pos (Nat.not_lt.1 fun hlt => ?_)
    have hb : boxErr l = 0 := Classical.byContradiction fun hn => by rw [chkErr, if_neg hn] at h0; exact hn h0
    have hg : okE g = true := by obtain ⟨-, hes⟩ := chkOk h0; simp at hes; exact hes
    have gi := ixE_good hi
    have hoi : okE (ixE i) = true := by rw [okE_eq]; exact decide_eq_true ⟨⟨gi.d0, gi.d1⟩, gi.b0, gi.b1⟩
    obtain ⟨j, hj, hjn⟩ := need_down (g := g) (k - (n + 1)) (n + 1) (ixE i) (by rw [chkErr, if_pos hb, if_pos (by simp [hoi, hg])]) (by rw [hn]; congr 1; omega)
    exact h j hj hjn
theorem val_zero {l : List HS} (hl : l.all okS = true) {g : HE} (gg : GoodE g) {i : Nat} (hi : i < 707) : valN l g 0 i = if keenB (ixE i) g then 0 else -1 := by
  have h : needN l g (ixE i) = some 0 ↔ keenB (ixE i) g = true := by
    rw [need_some hl gg (ixE_good hi)]
    constructor
    · rintro ⟨h, -⟩; exact (has_first gg (ixE_good hi)).1 h
    · exact fun h => ⟨(has_first gg (ixE_good hi)).2 h, fun j hj => by omega⟩
  by_cases hk : keenB (ixE i) g = true
  · rw [if_pos hk, valN, h.2 hk]; rfl
  · rw [if_neg hk]
    unfold valN
    cases hn : needN l g (ixE i) with
    | none => rfl
    | some k =>
      cases k with
      | zero => exact absurd (h.1 hn) hk
      | succ k => simp
def outL (l : List HS) (g : HE) (n j : Nat) : List Int := (List.range 707).map fun i => if i < j then valN l g (n + 1) i else valN l g n i
@[simp] theorem outL_len (l : List HS) (g : HE) (n j : Nat) : (outL l g n j).length = 707 := by simp [outL]
theorem outL_get {l : List HS} {g : HE} {n j i : Nat} (hi : i < 707) : (outL l g n j)[i]? = some (if i < j then valN l g (n + 1) i else valN l g n i) := by simp [outL, hi]
theorem outL_next (l : List HS) (g : HE) (n : Nat) : outL l g n 707 = outL l g (n + 1) 0 := by
  unfold outL
  refine List.map_congr_left fun i hi => ?_
  rw [List.mem_range] at hi
  rw [if_pos hi, if_neg (by omega)]
theorem outL_same {l : List HS} {g : HE} {n j : Nat} (h : needN l g (ixE j) ≠ some (n + 1)) : outL l g n (j + 1) = outL l g n j := by
  unfold outL
  refine List.map_congr_left fun i hi => ?_
  by_cases h1 : i < j
  · rw [if_pos (by omega), if_pos h1]
  · by_cases h2 : i = j
    · subst h2
      rw [if_pos (by omega), if_neg (by omega), val_succ h]
    · rw [if_neg (by omega), if_neg h1]
theorem outL_new {l : List HS} {g : HE} {n j : Nat} (hj : j < 707) (h : needN l g (ixE j) = some (n + 1)) : outL l g n (j + 1) = (outL l g n j).set j ((n + 1 : Nat) : Int) := by
  apply List.ext_getElem?
  intro i
  rw [List.getElem?_set]
  by_cases hi : i < 707
  · rw [outL_get hi, outL_get hi]
    by_cases e : j = i
    · subst e
      rw [if_pos (by omega), if_pos rfl, if_pos (by simpa using hj), val_new h]
    · rw [if_neg e]
      by_cases h1 : i < j
      · rw [if_pos (by omega), if_pos h1]
      · rw [if_neg (by omega), if_neg h1]
  · rw [List.getElem?_eq_none (by simp; omega), List.getElem?_eq_none (l := outL l g n j) (by simp; omega)]
    split
    · rw [if_neg (by simp; omega)]
    · rfl
end Go.Proofs.Ytcmkkgdjhjpldaa.Eng

noncomputable section
namespace Go.Proofs.Ytcmkkgdjhjpldaa.Eng
open Go.RowKit
set_option maxRecDepth 100000
set_option maxHeartbeats 16000000
def initL (l : List HS) (g : HE) (k : Nat) : List Int := (List.range 707).map fun i => if i < k then valN l g 0 i else 0
@[simp] theorem initL_len (l : List HS) (g : HE) (k : Nat) : (initL l g k).length = 707 := by simp [initL]
theorem initL_zero (l : List HS) (g : HE) : iRows (initL l g 0) = List.replicate 707 [Dat.val (.int .i64 0)] := by
  apply List.ext_getElem?
  intro i
  rw [List.getElem?_replicate]
  by_cases hi : i < 707
  · simp [iRows, initL, hi, iD]
  · rw [if_neg hi, List.getElem?_eq_none (by simp [iRows]; omega)]
theorem initL_end (l : List HS) (g : HE) : initL l g 707 = outL l g 0 0 := by
  unfold initL outL
  refine List.map_congr_left fun i hi => ?_
  rw [List.mem_range] at hi
  rw [if_pos hi, if_neg (by omega)]
theorem initL_next (l : List HS) (g : HE) {k : Nat} (hk : k < 707) {v : Int} (hv : valN l g 0 k = v) : (initL l g k).set k v = initL l g (k + 1) := by
  apply List.ext_getElem?
  intro i
  rw [List.getElem?_set]
  by_cases hi : i < 707
  · by_cases e : k = i
    · subst e
      simp [initL, hi, hv]
    · simp [initL, hi, e]
      by_cases h1 : i < k
      · rw [if_pos h1, if_pos (by omega)]
      · rw [if_neg h1, if_neg (by omega)]
  · rw [List.getElem?_eq_none (l := initL l g (k + 1)) (by simp; omega)]
    split
    · rw [if_neg (by simp; omega)]
    · rw [List.getElem?_eq_none (by simp; omega)]
def moreB (l : List HS) (g : HE) (n j : Nat) : Bool := (List.range j).any fun i => decide (needN l g (ixE i) = some (n + 1))
theorem moreB_succ (l : List HS) (g : HE) (n j : Nat) : moreB l g n (j + 1) = (moreB l g n j || decide (needN l g (ixE j) = some (n + 1))) := by simp [moreB, List.range_succ]
theorem moreB_true {l : List HS} {g : HE} {n j : Nat} (h : moreB l g n j = true) : ∃ i, i < j ∧ needN l g (ixE i) = some (n + 1) := by
  simp only [moreB, List.any_eq_true, List.mem_range, decide_eq_true_eq] at h
  exact h
theorem moreB_false {l : List HS} {g : HE} {n j : Nat} (h : moreB l g n j = false) {i : Nat} (hi : i < j) : needN l g (ixE i) ≠ some (n + 1) := by
  simp only [moreB, List.any_eq_false, List.mem_range, decide_eq_true_eq] at h
  exact h i hi
theorem refNeeds_g (l : List HS) (hl : l.all okS = true) (n2 : l.length ≤ 6) (g : HE) (gg : GoodE g) (hA : ∀ n, (∀ i, i < 707 → needN l g (ixE i) ≠ some (n + 1)) → ∀ i, i < 707 → valN l g n i = needV l g i) : ACall Try.prog 57 [boxD l, edgD g] (intL ((List.range 707).map (needV l g))) := by
  have gg' := gg
  obtain ⟨p1, p2, p3, p4⟩ := gg'
  refine acallK tabOk Try.func57 rfl rfl (show 2 ≤ _ by decide) rfl fun _ => ?_; simp only [Try.ntmps57]
  repeat (first | (with_reducible first | refine zq1 fun _ => ?_ | refine zq2 fun _ => ?_ | refine zq3 ?_) | ((first | refine zq4 ?_ | refine zq5 fun _ _ => ?_ | refine zq6 ?_); simp [-getElem?_pos, z0, z1, z2, -List.reduceReplicate]) | ((first | refine AWp.ret ?_ | refine AWp.skip ?_ | refine AWp.exit ?_); try simp only [thenP]) | (with_reducible refine zq7 ?_; simp only [blockP, thenP, reduceIte]) | with_reducible refine zq8 ?_)
  refine AWp.loopK (ι := { k : Nat // k ≤ 707 }) (n := 2) (fun k => [(0, .d (boxD l)), (3, .ptr 0 0 0), (5, .own 1 707 1), (6, .d (iD k.1))]) (fun k => [(0, .box 24 [.d (iD g.depth), .d (iD g.burr)] false), (1, .row 3 1 (iRows (initL l g k.1)) false)]) (fun k => 707 - k.1) ⟨0, Nat.zero_le _⟩ [0, 2] ?_ ?_
  · refine ⟨by rfl, by simp [-List.reduceReplicate], ?_, by decide⟩
    simp [or_imp, forall_and, -List.reduceReplicate, initL_zero]
  rintro ⟨k, hk⟩ kk
  have w1 : IntKind.i64.wrap ((k : Int) + 1) = (k : Int) + 1 := wrap64_in (by omega)
  by_cases hlt : k < 707
  · have hii : (k : Int) < 707 := by omega
    obtain ⟨d, hd⟩ : ∃ d, d = k / 7 := ⟨_, rfl⟩
    obtain ⟨b, hbb⟩ : ∃ b, b = k % 7 := ⟨_, rfl⟩
    have q1 : (k : Int).tdiv 7 = (d : Int) := by rw [Int.tdiv_eq_ediv_of_nonneg (by omega)]; omega
    have q2 : (k : Int).tmod 7 = (b : Int) := by rw [Int.tmod_eq_emod_of_nonneg (by omega)]; omega
    have q3 : IntKind.i64.wrap (d : Int) = (d : Int) := wrap64_in (by omega)
    have ck := refKeen_c ⟨d, b⟩ g
    have hv := val_zero hl gg hlt
    rw [ixE, ← hd, ← hbb] at hv
    have hkL : k < (initL l g k).length := by simp; exact hlt
    have hx0 : (initL l g k)[k]? = some 0 := by simp [initL, hlt]
    have hx1 : ((initL l g k).set k (-1))[k]? = some (-1) := by rw [List.getElem?_set_self hkL]
    rcases hkn : keenB ⟨d, b⟩ g <;> rw [hkn] at ck hv
    · have hnx := initL_next l g hlt (v := -1) hv
      repeat (first | (with_reducible first | refine zq1 fun _ => ?_ | refine zq2 fun _ => ?_ | refine zq3 ?_) | ((first | refine zq4 ?_ | refine zq5 fun _ _ => ?_ | refine zq6 ?_); simp [-getElem?_pos, z0, z1, z2, hii, hlt, q1, q2, q3, w1, hx0, hx1]) | ((first | refine AWp.ret ?_ | refine AWp.skip ?_ | refine AWp.exit ?_); try simp only [thenP]) | (with_reducible refine zq7 ?_; simp only [blockP, thenP, reduceIte]) | with_reducible refine zq8 ?_)
      (first | refine Exec0.call [] ck ?_ rfl ?_ ?_ | refine Exec.call [] ck ?_ rfl ?_ ?_); (focus simp [-getElem?_pos, q1, q2, q3]); (focus simp [-getElem?_pos, z0, z1, z2, q1, q2, q3]); simp [-getElem?_pos, z0, z1, z2, q1, q2, q3]
      repeat (first | (with_reducible first | refine zq1 fun _ => ?_ | refine zq2 fun _ => ?_ | refine zq3 ?_) | ((first | refine zq4 ?_ | refine zq5 fun _ _ => ?_ | refine zq6 ?_); simp [-getElem?_pos, z0, z1, z2, hii, hlt, q1, q2, q3, w1, hx0, hx1, hnx]) | ((first | refine AWp.ret ?_ | refine AWp.skip ?_ | refine AWp.exit ?_); try simp only [thenP]) | (with_reducible refine zq7 ?_; simp only [blockP, thenP, reduceIte]) | with_reducible refine zq8 ?_)
      refine LL.go ⟨k + 1, hlt⟩ [0, 1] ⟨by rfl, by simp [hnx], by simp [or_imp, forall_and, hnx] <;> (try (intro _hne; simp [_hne])), by decide⟩ ?_
      simp; omega
    · have hnx := initL_next l g hlt (v := 0) hv
      repeat (first | (with_reducible first | refine zq1 fun _ => ?_ | refine zq2 fun _ => ?_ | refine zq3 ?_) | ((first | refine zq4 ?_ | refine zq5 fun _ _ => ?_ | refine zq6 ?_); simp [-getElem?_pos, z0, z1, z2, hii, hlt, q1, q2, q3, w1, hx0, hx1]) | ((first | refine AWp.ret ?_ | refine AWp.skip ?_ | refine AWp.exit ?_); try simp only [thenP]) | (with_reducible refine zq7 ?_; simp only [blockP, thenP, reduceIte]) | with_reducible refine zq8 ?_)
      (first | refine Exec0.call [] ck ?_ rfl ?_ ?_ | refine Exec.call [] ck ?_ rfl ?_ ?_); (focus simp [-getElem?_pos, q1, q2, q3]); (focus simp [-getElem?_pos, z0, z1, z2, q1, q2, q3]); simp [-getElem?_pos, z0, z1, z2, q1, q2, q3]
      repeat (first | (with_reducible first | refine zq1 fun _ => ?_ | refine zq2 fun _ => ?_ | refine zq3 ?_) | ((first | refine zq4 ?_ | refine zq5 fun _ _ => ?_ | refine zq6 ?_); simp [-getElem?_pos, z0, z1, z2, hii, hlt, q1, q2, q3, w1, hx0, hx1, hnx]) | ((first | refine AWp.ret ?_ | refine AWp.skip ?_ | refine AWp.exit ?_); try simp only [thenP]) | (with_reducible refine zq7 ?_; simp only [blockP, thenP, reduceIte]) | with_reducible refine zq8 ?_)
      refine LL.go ⟨k + 1, hlt⟩ [0, 1] ⟨by rfl, by simp [hnx], by simp [or_imp, forall_and, hnx] <;> (try (intro _hne; simp [_hne])), by decide⟩ ?_
      simp; omega
  · obtain rfl : k = 707 := by omega
    rw [initL_end] at *
    repeat (first | (with_reducible first | refine zq1 fun _ => ?_ | refine zq2 fun _ => ?_ | refine zq3 ?_) | ((first | refine zq4 ?_ | refine zq5 fun _ _ => ?_ | refine zq6 ?_); simp [-getElem?_pos, z0, z1, z2, z0]) | ((first | refine AWp.ret ?_ | refine AWp.skip ?_ | refine AWp.exit ?_); try simp only [thenP]) | (with_reducible refine zq7 ?_; simp only [blockP, thenP, reduceIte]) | with_reducible refine zq8 ?_)
    refine AWp.loopK (ι := { q : Nat × Bool // (q.2 = true → q.1 = 0 ∨ ∃ i, i < 707 ∧ needN l g (ixE i) = some q.1) ∧ (q.2 = false → 1 ≤ q.1 ∧ ∀ i, i < 707 → needN l g (ixE i) ≠ some q.1) }) (n := 2) (fun q => [(0, .d (boxD l)), (5, .own 1 707 1), (7, .d (bD q.1.2)), (8, .d (iD ((q.1.1 : Int) + 1)))]) (fun q => [(1, .row 3 1 (iRows (outL l g q.1.1 0)) false)]) (fun q => if q.1.2 then 803 - q.1.1 else 0) ⟨(0, true), fun _ => .inl rfl, fun h => by cases h⟩ [0, 1] ?_ ?_
    · refine ⟨by rfl, by simp [bD], by simp [or_imp, forall_and, bD] <;> (try (intro _hne; simp [_hne])), by decide⟩
    rintro ⟨⟨n, more⟩, hm1, hm2⟩ kb
    simp only at hm1 hm2 ⊢
    cases more with
    | false =>
      obtain ⟨hn1, hn2⟩ := hm2 rfl
      have hout : outL l g n 0 = (List.range 707).map (needV l g) := by
        unfold outL
        refine List.map_congr_left fun i hi => ?_
        rw [List.mem_range] at hi
        obtain ⟨n', rfl⟩ : ∃ n', n = n' + 1 := ⟨n - 1, by omega⟩
        rw [if_neg (by omega), val_succ (hn2 i hi), hA n' hn2 i hi]
      rw [hout] at *
      repeat (first | (with_reducible first | refine zq1 fun _ => ?_ | refine zq2 fun _ => ?_ | refine zq3 ?_) | ((first | refine zq4 ?_ | refine zq5 fun _ _ => ?_ | refine zq6 ?_); simp [-getElem?_pos, z0, z1, z2, bD]) | ((first | refine AWp.ret ?_ | refine AWp.skip ?_ | refine AWp.exit ?_); try simp only [thenP]) | (with_reducible refine zq7 ?_; simp only [blockP, thenP, reduceIte]) | with_reducible refine zq8 ?_)
      (first | refine RR.ret ?_ | refine RR.normal ?_); simp [z0]
    | true =>
      have hn8 : n ≤ 800 := by
        rcases hm1 rfl with h | ⟨i, hi, h⟩
        · omega
        · exact (rows_take h).2
      repeat (first | (with_reducible first | refine zq1 fun _ => ?_ | refine zq2 fun _ => ?_ | refine zq3 ?_) | ((first | refine zq4 ?_ | refine zq5 fun _ _ => ?_ | refine zq6 ?_); simp [-getElem?_pos, z0, z1, z2, bD]) | ((first | refine AWp.ret ?_ | refine AWp.skip ?_ | refine AWp.exit ?_); try simp only [thenP]) | (with_reducible refine zq7 ?_; simp only [blockP, thenP, reduceIte]) | with_reducible refine zq8 ?_)
      refine AWp.loopK (ι := { j : Nat // j ≤ 707 }) (n := 2) (fun j => [(0, .d (boxD l)), (5, .own 1 707 1), (7, .d (bD (moreB l g n j.1))), (8, .d (iD ((n : Int) + 1))), (9, .d (iD j.1))]) (fun j => [(1, .row 3 1 (iRows (outL l g n j.1)) false)]) (fun j => 707 - j.1) ⟨0, Nat.zero_le _⟩ [0, 1] ?_ ?_
      · refine ⟨by rfl, by simp [bD, moreB], by simp [or_imp, forall_and, bD, moreB] <;> (try (intro _hne; simp [_hne])), by decide⟩
      rintro ⟨j, hj⟩ kc
      have w2 : IntKind.i64.wrap ((j : Int) + 1) = (j : Int) + 1 := wrap64_in (by omega)
      by_cases hltj : j < 707
      · have hji : (j : Int) < 707 := by omega
        have hj1 : j + 1 ≤ 707 := hltj
        obtain ⟨d, hd⟩ : ∃ d, d = j / 7 := ⟨_, rfl⟩
        obtain ⟨b, hbb⟩ : ∃ b, b = j % 7 := ⟨_, rfl⟩
        have q1 : (j : Int).tdiv 7 = (d : Int) := by rw [Int.tdiv_eq_ediv_of_nonneg (by omega)]; omega
        have q2 : (j : Int).tmod 7 = (b : Int) := by rw [Int.tmod_eq_emod_of_nonneg (by omega)]; omega
        have q3 : IntKind.i64.wrap (d : Int) = (d : Int) := wrap64_in (by omega)
        have hix : ixE j = ⟨d, b⟩ := by rw [ixE, ← hd, ← hbb]
        have hge := ixE_good hltj
        rw [hix] at hge
        have hms := moreB_succ l g n j
        by_cases hneg : valN l g n j < 0
        · have hnk := val_neg.1 hneg
          rw [hix] at hnk
          have hstep := need_step hl gg hge hnk
          rw [hix] at hms
          repeat (first | (with_reducible first | refine zq1 fun _ => ?_ | refine zq2 fun _ => ?_ | refine zq3 ?_) | ((first | refine zq4 ?_ | refine zq5 fun _ _ => ?_ | refine zq6 ?_); simp [-getElem?_pos, z0, z1, z2, hji]) | ((first | refine AWp.ret ?_ | refine AWp.skip ?_ | refine AWp.exit ?_); try simp only [thenP]) | (with_reducible refine zq7 ?_; simp only [blockP, thenP, reduceIte]) | with_reducible refine zq8 ?_)
          refine AWp.loopK (ι := { q : Nat × Bool // q.1 ≤ l.length ∧ (q.2 = true → needN l g ⟨d, b⟩ = some (n + 1)) ∧ (q.2 = false → ∀ (p : Nat) (st : HS), p < q.1 → l[p]? = some st → canS st ⟨d, b⟩ = true → needN l g (strE st ⟨d, b⟩) ≠ some n) }) (n := 2) (fun q => [(0, .d (boxD l)), (5, .own 1 707 1), (7, .d (bD (q.1.2 || moreB l g n j))), (8, .d (iD ((n : Int) + 1))), (9, .d (iD j)), (10, .d (iD q.1.1))]) (fun q => [(1, .row 3 1 (iRows (if q.1.2 then outL l g n (j + 1) else outL l g n j)) false)]) (fun q => l.length - q.1.1) ⟨(0, false), Nat.zero_le _, fun h => (by cases h), fun _ p st h => by omega⟩ [0, 1] ?_ ?_
          · refine ⟨by rfl, by simp [bD], by simp [or_imp, forall_and, bD] <;> (try (intro _hne; simp [_hne])), by decide⟩
          rintro ⟨⟨q, f⟩, hq, hf1, hf2⟩ kd
          simp only at hq hf1 hf2 ⊢
          have w4 : IntKind.i64.wrap ((q : Int) + 1) = (q : Int) + 1 := wrap64_in (by omega)
          cases f with
          | true =>
            have hnd := hf1 rfl
            have hvn : valN l g (n + 1) j = ((n : Int) + 1) := by
              rw [val_new (by rw [hix]; exact hnd)]
              omega
            have hx0 : (outL l g n (j + 1))[j]? = some ((n : Int) + 1) := by rw [outL_get hltj, if_pos (by omega), hvn]
            have hnn : ¬ (n : Int) + 1 < 0 := by omega
            have hm' : moreB l g n (j + 1) = true := by rw [hms, hnd]; simp
            by_cases hql : q < l.length
            · have hqi : (q : Int) < l.length := by omega
              repeat (first | (with_reducible first | refine zq1 fun _ => ?_ | refine zq2 fun _ => ?_ | refine zq3 ?_) | ((first | refine zq4 ?_ | refine zq5 fun _ _ => ?_ | refine zq6 ?_); simp [-getElem?_pos, z0, z1, z2, hql, hqi, hji, hltj, hx0, hnn, w2]) | ((first | refine AWp.ret ?_ | refine AWp.skip ?_ | refine AWp.exit ?_); try simp only [thenP]) | (with_reducible refine zq7 ?_; simp only [blockP, thenP, reduceIte]) | with_reducible refine zq8 ?_)
              refine LL.go ⟨j + 1, hj1⟩ [0, 1] ⟨by rfl, by simp [hm', bD], by simp [or_imp, forall_and, hm', bD] <;> (try (intro _hne; simp [_hne])), by decide⟩ ?_
              simp; omega
            · have hqi : ¬ (q : Int) < l.length := by omega
              repeat (first | (with_reducible first | refine zq1 fun _ => ?_ | refine zq2 fun _ => ?_ | refine zq3 ?_) | ((first | refine zq4 ?_ | refine zq5 fun _ _ => ?_ | refine zq6 ?_); simp [-getElem?_pos, z0, z1, z2, hql, hqi, hji, hltj, w2]) | ((first | refine AWp.ret ?_ | refine AWp.skip ?_ | refine AWp.exit ?_); try simp only [thenP]) | (with_reducible refine zq7 ?_; simp only [blockP, thenP, reduceIte]) | with_reducible refine zq8 ?_)
              refine LL.go ⟨j + 1, hj1⟩ [0, 1] ⟨by rfl, by simp [hm', bD], by simp [or_imp, forall_and, hm', bD] <;> (try (intro _hne; simp [_hne])), by decide⟩ ?_
              simp; omega
          | false =>
            have hf := hf2 rfl
            obtain ⟨v, hv⟩ : ∃ v, v = valN l g n j := ⟨_, rfl⟩
            have hx0 : (outL l g n j)[j]? = some v := by rw [outL_get hltj, if_neg (by omega), hv]
            have hv0 : v < 0 := by rw [hv]; exact hneg
            by_cases hql : q < l.length
            · have hqi : (q : Int) < l.length := by omega
              have hq1 : q + 1 ≤ l.length := hql
              obtain ⟨st, hst⟩ : ∃ st, l[q]? = some st := ⟨_, List.getElem?_eq_getElem hql⟩
              have gst := goodS hl hst
              have cs := refStroke_c st ⟨d, b⟩ gst hge
              rcases hc : canS st ⟨d, b⟩
              · rw [hc] at cs
                have hf' : ∀ (p : Nat) (s2 : HS), p < q + 1 → l[p]? = some s2 → canS s2 ⟨d, b⟩ = true → needN l g (strE s2 ⟨d, b⟩) ≠ some n := fun p s2 hp h1 h2 => by
                  by_cases hpq : p < q
                  · exact hf p s2 hpq h1 h2
                  · obtain rfl : p = q := by omega
                    rw [hst] at h1
                    cases h1
                    rw [hc] at h2
                    cases h2
                repeat (first | (with_reducible first | refine zq1 fun _ => ?_ | refine zq2 fun _ => ?_ | refine zq3 ?_) | ((first | refine zq4 ?_ | refine zq5 fun _ _ => ?_ | refine zq6 ?_); simp [-getElem?_pos, z0, z1, z2, hql, hqi, hji, hltj, hx0, hv0, hst, q1, q2, q3]) | ((first | refine AWp.ret ?_ | refine AWp.skip ?_ | refine AWp.exit ?_); try simp only [thenP]) | (with_reducible refine zq7 ?_; simp only [blockP, thenP, reduceIte]) | with_reducible refine zq8 ?_)
                (first | refine Exec0.call [] cs ?_ rfl ?_ ?_ | refine Exec.call [] cs ?_ rfl ?_ ?_); (focus simp [-getElem?_pos, q1, q2, q3]); (focus simp [-getElem?_pos, z0, z1, z2, q1, q2, q3]); simp [-getElem?_pos, z0, z1, z2, q1, q2, q3]
                repeat (first | (with_reducible first | refine zq1 fun _ => ?_ | refine zq2 fun _ => ?_ | refine zq3 ?_) | ((first | refine zq4 ?_ | refine zq5 fun _ _ => ?_ | refine zq6 ?_); simp [-getElem?_pos, z0, z1, z2, w4]) | ((first | refine AWp.ret ?_ | refine AWp.skip ?_ | refine AWp.exit ?_); try simp only [thenP]) | (with_reducible refine zq7 ?_; simp only [blockP, thenP, reduceIte]) | with_reducible refine zq8 ?_)
                refine LL.go ⟨(q + 1, false), hq1, fun h => (by cases h), fun _ => hf'⟩ [0, 1] ⟨by rfl, by simp [bD], by simp [or_imp, forall_and, bD] <;> (try (intro _hne; simp [_hne])), by decide⟩ ?_
                simp; omega
              · have hgs := GoodE.str gst hge hc
                have hR : strR st ⟨d, b⟩ = strE st ⟨d, b⟩ := by rw [strR, hc]; rfl
                rw [hc, hR] at cs
                have hnq := hstep
                obtain ⟨e2, he2⟩ : ∃ e2, e2 = strE st ⟨d, b⟩ := ⟨_, rfl⟩
                have hf' : needN l g e2 ≠ some n → ∀ (p : Nat) (s2 : HS), p < q + 1 → l[p]? = some s2 → canS s2 ⟨d, b⟩ = true → needN l g (strE s2 ⟨d, b⟩) ≠ some n := fun hno p s2 hp h1 h2 => by
                  by_cases hpq : p < q
                  · exact hf p s2 hpq h1 h2
                  · obtain rfl : p = q := by omega
                    rw [hst] at h1
                    cases h1
                    rw [← he2]
                    exact hno
                have hyes : needN l g e2 = some n → needN l g ⟨d, b⟩ = some (n + 1) := fun h => hstep.2 ⟨q, st, hst, hc, by rw [← he2]; exact h⟩
                rw [← he2] at cs hgs
                obtain ⟨e3, e4⟩ := e2
                obtain ⟨u1, u2, u3, u4⟩ := hgs
                simp only at u1 u2 u3 u4
                obtain ⟨D3, rfl⟩ := Int.eq_ofNat_of_zero_le u1
                obtain ⟨B3, rfl⟩ := Int.eq_ofNat_of_zero_le u3
                obtain ⟨m, hm⟩ : ∃ m, m = 7 * D3 + B3 := ⟨_, rfl⟩
                have hm7 : m < 707 := by omega
                have hm7i : (m : Int) < 707 := by omega
                have hixm : ixE m = ⟨(D3 : Int), (B3 : Int)⟩ := by
                  rw [ixE, show m / 7 = D3 by omega, show m % 7 = B3 by omega]
                obtain ⟨y, hy⟩ : ∃ y, (outL l g n j)[m]? = some y := ⟨_, List.getElem?_eq_getElem (by simp; omega)⟩
                have hyn : y = (n : Int) ↔ needN l g ⟨(D3 : Int), (B3 : Int)⟩ = some n := by
                  rw [outL_get hm7] at hy
                  rw [← hixm]
                  split at hy
                  · cases hy
                    rw [val_eq]
                    exact ⟨fun h => h.1, fun h => ⟨h, by omega⟩⟩
                  · cases hy
                    rw [val_eq]
                    exact ⟨fun h => h.1, fun h => ⟨h, Nat.le_refl _⟩⟩
                have wa : IntKind.i64.wrap (7 * (D3 : Int)) = 7 * (D3 : Int) := wrap64_in (by omega)
                have wb : IntKind.i64.wrap (7 * (D3 : Int) + (B3 : Int)) = (m : Int) := by rw [wrap64_in (by omega)]; omega
                have wn : IntKind.i64.wrap (n : Int) = (n : Int) := wrap64_in (by omega)
                by_cases hyy : y = (n : Int)
                · have hnd := hyes (hyn.1 hyy)
                  have hset := outL_new hltj (by rw [hix]; exact hnd)
                  rw [show ((n + 1 : Nat) : Int) = (n : Int) + 1 by omega] at hset
                  repeat (first | (with_reducible first | refine zq1 fun _ => ?_ | refine zq2 fun _ => ?_ | refine zq3 ?_) | ((first | refine zq4 ?_ | refine zq5 fun _ _ => ?_ | refine zq6 ?_); simp [-getElem?_pos, z0, z1, z2, hql, hqi, hji, hltj, hx0, hv0, hst, q1, q2, q3]) | ((first | refine AWp.ret ?_ | refine AWp.skip ?_ | refine AWp.exit ?_); try simp only [thenP]) | (with_reducible refine zq7 ?_; simp only [blockP, thenP, reduceIte]) | with_reducible refine zq8 ?_)
                  (first | refine Exec0.call [] cs ?_ rfl ?_ ?_ | refine Exec.call [] cs ?_ rfl ?_ ?_); (focus simp [-getElem?_pos, q1, q2, q3]); (focus simp [-getElem?_pos, z0, z1, z2, q1, q2, q3]); simp [-getElem?_pos, z0, z1, z2, q1, q2, q3]
                  repeat (first | (with_reducible first | refine zq1 fun _ => ?_ | refine zq2 fun _ => ?_ | refine zq3 ?_) | ((first | refine zq4 ?_ | refine zq5 fun _ _ => ?_ | refine zq6 ?_); simp [-getElem?_pos, z0, z1, z2, w4, wa, wb, wn, hm7, hm7i, hy, hyy, hx0, hji, hltj]) | ((first | refine AWp.ret ?_ | refine AWp.skip ?_ | refine AWp.exit ?_); try simp only [thenP]) | (with_reducible refine zq7 ?_; simp only [blockP, thenP, reduceIte]) | with_reducible refine zq8 ?_)
                  refine LL.go ⟨(q + 1, true), hq1, fun _ => hnd, fun h => by cases h⟩ [0, 1] ⟨by rfl, by simp [bD, hset], by simp [or_imp, forall_and, bD, hset] <;> (try (intro _hne; simp [_hne])), by decide⟩ ?_
                  simp; omega
                · repeat (first | (with_reducible first | refine zq1 fun _ => ?_ | refine zq2 fun _ => ?_ | refine zq3 ?_) | ((first | refine zq4 ?_ | refine zq5 fun _ _ => ?_ | refine zq6 ?_); simp [-getElem?_pos, z0, z1, z2, hql, hqi, hji, hltj, hx0, hv0, hst, q1, q2, q3]) | ((first | refine AWp.ret ?_ | refine AWp.skip ?_ | refine AWp.exit ?_); try simp only [thenP]) | (with_reducible refine zq7 ?_; simp only [blockP, thenP, reduceIte]) | with_reducible refine zq8 ?_)
                  (first | refine Exec0.call [] cs ?_ rfl ?_ ?_ | refine Exec.call [] cs ?_ rfl ?_ ?_); (focus simp [-getElem?_pos, q1, q2, q3]); (focus simp [-getElem?_pos, z0, z1, z2, q1, q2, q3]); simp [-getElem?_pos, z0, z1, z2, q1, q2, q3]
                  repeat (first | (with_reducible first | refine zq1 fun _ => ?_ | refine zq2 fun _ => ?_ | refine zq3 ?_) | ((first | refine zq4 ?_ | refine zq5 fun _ _ => ?_ | refine zq6 ?_); simp [-getElem?_pos, z0, z1, z2, w4, wa, wb, wn, hm7, hm7i, hy, hyy]) | ((first | refine AWp.ret ?_ | refine AWp.skip ?_ | refine AWp.exit ?_); try simp only [thenP]) | (with_reducible refine zq7 ?_; simp only [blockP, thenP, reduceIte]) | with_reducible refine zq8 ?_)
                  refine LL.go ⟨(q + 1, false), hq1, fun h => (by cases h), fun _ => hf' fun h => hyy (hyn.2 h)⟩ [0, 1] ⟨by rfl, by simp [bD], by simp [or_imp, forall_and, bD] <;> (try (intro _hne; simp [_hne])), by decide⟩ ?_
                  simp; omega
            · obtain rfl : q = l.length := by omega
              have hnd : needN l g ⟨d, b⟩ ≠ some (n + 1) := fun h => by
                obtain ⟨p, st, h1, h2, h3⟩ := hstep.1 h
                exact hf p st (List.getElem?_eq_some_iff.1 h1).1 h1 h2 h3
              have hsame := outL_same (l := l) (g := g) (n := n) (j := j) (by rw [hix]; exact hnd)
              have hm' : moreB l g n (j + 1) = moreB l g n j := by rw [hms, decide_eq_false hnd, Bool.or_false]
              repeat (first | (with_reducible first | refine zq1 fun _ => ?_ | refine zq2 fun _ => ?_ | refine zq3 ?_) | ((first | refine zq4 ?_ | refine zq5 fun _ _ => ?_ | refine zq6 ?_); simp [-getElem?_pos, z0, z1, z2, hji, hltj, w2]) | ((first | refine AWp.ret ?_ | refine AWp.skip ?_ | refine AWp.exit ?_); try simp only [thenP]) | (with_reducible refine zq7 ?_; simp only [blockP, thenP, reduceIte]) | with_reducible refine zq8 ?_)
              refine LL.go ⟨j + 1, hj1⟩ [0, 1] ⟨by rfl, by simp [hm', hsame, bD], by simp [or_imp, forall_and, hm', hsame, bD] <;> (try (intro _hne; simp [_hne])), by decide⟩ ?_
              simp; omega
        · obtain ⟨v, hv⟩ : ∃ v, v = valN l g n j := ⟨_, rfl⟩
          have hx0 : (outL l g n j)[j]? = some v := by rw [outL_get hltj, if_neg (by omega), hv]
          have hv0 : ¬ v < 0 := by rw [hv]; exact hneg
          have hnd : needN l g (ixE j) ≠ some (n + 1) := fun h => hneg (val_neg.2 fun k hk => by rw [h] at hk; cases hk; omega)
          have hsame := outL_same hnd
          have hm' : moreB l g n (j + 1) = moreB l g n j := by rw [hms, decide_eq_false hnd, Bool.or_false]
          by_cases hpe : 0 < l.length
          · have hpos : (0 : Int) < l.length := by omega
            have hposn := hpe
            repeat (first | (with_reducible first | refine zq1 fun _ => ?_ | refine zq2 fun _ => ?_ | refine zq3 ?_) | ((first | refine zq4 ?_ | refine zq5 fun _ _ => ?_ | refine zq6 ?_); simp [-getElem?_pos, z0, z1, z2, hji]) | ((first | refine AWp.ret ?_ | refine AWp.skip ?_ | refine AWp.exit ?_); try simp only [thenP]) | (with_reducible refine zq7 ?_; simp only [blockP, thenP, reduceIte]) | with_reducible refine zq8 ?_)
            refine AWp.loopK (ι := Unit) (n := 2) (fun q => [(0, .d (boxD l)), (5, .own 1 707 1), (7, .d (bD (moreB l g n j))), (8, .d (iD ((n : Int) + 1))), (9, .d (iD j)), (10, .d (iD 0))]) (fun q => [(1, .row 3 1 (iRows (outL l g n j)) false)]) (fun q => 0) () [0, 1] ?_ ?_
            · refine ⟨by rfl, by simp [bD], by simp [or_imp, forall_and, bD] <;> (try (intro _hne; simp [_hne])), by decide⟩
            rintro ⟨⟩ kd
            repeat (first | (with_reducible first | refine zq1 fun _ => ?_ | refine zq2 fun _ => ?_ | refine zq3 ?_) | ((first | refine zq4 ?_ | refine zq5 fun _ _ => ?_ | refine zq6 ?_); simp [-getElem?_pos, z0, z1, z2, hpos, hposn, hji, hltj, hx0, hv0, w2]) | ((first | refine AWp.ret ?_ | refine AWp.skip ?_ | refine AWp.exit ?_); try simp only [thenP]) | (with_reducible refine zq7 ?_; simp only [blockP, thenP, reduceIte]) | with_reducible refine zq8 ?_)
            refine LL.go ⟨j + 1, hj1⟩ [0, 1] ⟨by rfl, by simp [hm', hsame, bD], by simp [or_imp, forall_and, hm', hsame, bD] <;> (try (intro _hne; simp [_hne])), by decide⟩ ?_
            simp; omega
          · obtain rfl : l = [] := List.length_eq_zero_iff.1 (by omega)
            repeat (first | (with_reducible first | refine zq1 fun _ => ?_ | refine zq2 fun _ => ?_ | refine zq3 ?_) | ((first | refine zq4 ?_ | refine zq5 fun _ _ => ?_ | refine zq6 ?_); simp [-getElem?_pos, z0, z1, z2, hji]) | ((first | refine AWp.ret ?_ | refine AWp.skip ?_ | refine AWp.exit ?_); try simp only [thenP]) | (with_reducible refine zq7 ?_; simp only [blockP, thenP, reduceIte]) | with_reducible refine zq8 ?_)
            refine AWp.loopK (ι := Unit) (n := 2) (fun q => [(0, .d (boxD [])), (5, .own 1 707 1), (7, .d (bD (moreB [] g n j))), (8, .d (iD ((n : Int) + 1))), (9, .d (iD j)), (10, .d (iD 0))]) (fun q => [(1, .row 3 1 (iRows (outL [] g n j)) false)]) (fun q => 0) () [0, 1] ?_ ?_
            · refine ⟨by rfl, by simp [bD], by simp [or_imp, forall_and, bD] <;> (try (intro _hne; simp [_hne])), by decide⟩
            rintro ⟨⟩ kd
            repeat (first | (with_reducible first | refine zq1 fun _ => ?_ | refine zq2 fun _ => ?_ | refine zq3 ?_) | ((first | refine zq4 ?_ | refine zq5 fun _ _ => ?_ | refine zq6 ?_); simp [-getElem?_pos, z0, z1, z2, hji, hltj, hx0, hv0, w2, hsRows]) | ((first | refine AWp.ret ?_ | refine AWp.skip ?_ | refine AWp.exit ?_); try simp only [thenP]) | (with_reducible refine zq7 ?_; simp only [blockP, thenP, reduceIte]) | with_reducible refine zq8 ?_)
            refine LL.go ⟨j + 1, hj1⟩ [0, 1] ⟨by rfl, by simp [hm', hsame, bD], by simp [or_imp, forall_and, hm', hsame, bD] <;> (try (intro _hne; simp [_hne])), by decide⟩ ?_
            simp; omega
      · obtain rfl : j = 707 := by omega
        have w3 : IntKind.i64.wrap ((n : Int) + 1 + 1) = (n : Int) + 1 + 1 := wrap64_in (by omega)
        have hnx := outL_next l g n
        repeat (first | (with_reducible first | refine zq1 fun _ => ?_ | refine zq2 fun _ => ?_ | refine zq3 ?_) | ((first | refine zq4 ?_ | refine zq5 fun _ _ => ?_ | refine zq6 ?_); simp [-getElem?_pos, z0, z1, z2, w3]) | ((first | refine AWp.ret ?_ | refine AWp.skip ?_ | refine AWp.exit ?_); try simp only [thenP]) | (with_reducible refine zq7 ?_; simp only [blockP, thenP, reduceIte]) | with_reducible refine zq8 ?_)
        refine LL.go ⟨(n + 1, moreB l g n 707), fun h => .inr (moreB_true h), fun h => ⟨by omega, fun i hi => moreB_false h hi⟩⟩ [0, 1] ⟨by rfl, by simp [hnx], by simp [or_imp, forall_and, hnx] <;> (try (intro _hne; simp [_hne])), by decide⟩ ?_
        simp only []
        split <;> simp <;> omega
theorem refNeeds_c (l : List HS) (hb : BoxOk l) (g : HE) (gg : GoodE g) (h0 : chkErr l [g, g] = 0) : ACall Try.prog 57 [boxD l, edgD g] (intL ((List.range 707).map (needV l g))) :=
  refNeeds_g l hb.all hb.n2 g gg fun n h i hi => val_all h0 h hi
end Go.Proofs.Ytcmkkgdjhjpldaa.Eng

noncomputable section
namespace Go.Proofs.Ytcmkkgdjhjpldaa.Eng
open Go.RowKit
set_option maxRecDepth 100000
set_option maxHeartbeats 16000000
def needsL (l : List HS) (g : HE) : List Int := (List.range 707).map (needV l g)
@[simp] theorem needsL_len (l : List HS) (g : HE) : (needsL l g).length = 707 := by simp [needsL]
theorem need_has {l : List HS} (hl : l.all okS = true) {g e : HE} (gg : GoodE g) (ge : GoodE e) {k : Nat} : hasE e (RK l g k) = true ↔ ∃ j, needN l g e = some j ∧ j ≤ k := by
  constructor
  · intro h
    cases hn : needN l g e with
    | none => rw [(need_none hl gg ge).1 hn k] at h; cases h
    | some j =>
      refine ⟨j, rfl, Nat.not_lt.1 fun hlt => ?_⟩
      rw [((need_some hl gg ge).1 hn).2 k hlt] at h
      cases h
  · rintro ⟨j, hn, hj⟩
    exact has_mono hj ((need_some hl gg ge).1 hn).1
theorem chk_dup (l : List HS) (g : HE) : chkErr l [g, g] = chkErr l [g] := by
  unfold chkErr
  simp
end Go.Proofs.Ytcmkkgdjhjpldaa.Eng

noncomputable section
namespace Go.Proofs.Ytcmkkgdjhjpldaa.Eng
open Go.RowKit
inductive Lv (l : List HS) (g e : HE) : Nat → HE → Prop
  | top {k : Nat} : needN l g e = some k → Lv l g e k e
  | step {k : Nat} {y : HE} {i : Nat} {s : HS} : Lv l g e (k + 1) y → l[i]? = some s → canS s y = true → needN l g (strE s y) = some k → Lv l g e k (strE s y)
theorem Lv.need {l : List HS} {g e x : HE} {k : Nat} (h : Lv l g e k x) : needN l g x = some k := by
  cases h with
  | top h => exact h
  | step _ _ _ h => exact h
theorem Lv.good {l : List HS} (hl : l.all okS = true) {g e : HE} (ge : GoodE e) {x : HE} {k : Nat} (h : Lv l g e k x) : GoodE x := by
  induction h with
  | top _ => exact ge
  | step _ hs hc _ ih => exact ih.str (goodS hl hs) hc
theorem addQ_mem {A B : List HE} {x y : HE} (h : x ∉ A) : y ∈ addQ A B x ↔ y ∈ B ∨ y = x := by
  unfold addQ
  by_cases hx : x ∈ A ++ B
  · rw [if_pos hx]
    rw [List.mem_append] at hx
    constructor
    · exact .inl
    · rintro (h1 | rfl)
      · exact h1
      · exact hx.resolve_left h
  · rw [if_neg hx, List.mem_append, List.mem_singleton]
theorem fold_mem {A : List HE} {y : HE} : ∀ (ps : List (Nat × HE)) (B : List HE), (∀ p ∈ ps, p.2 ∉ A) → (y ∈ ps.foldl (fun B p => addQ A B p.2) B ↔ y ∈ B ∨ ∃ p ∈ ps, p.2 = y)
  | [], B, _ => by simp
  | p :: ps, B, h => by
    rw [List.foldl_cons, fold_mem ps _ fun q hq => h q (List.mem_cons_of_mem _ hq), addQ_mem (h p List.mem_cons_self)]
    simp only [List.mem_cons, exists_eq_or_imp]
    constructor
    · rintro ((h1 | rfl) | h1)
      · exact .inl h1
      · exact .inr (.inl rfl)
      · exact .inr (.inr h1)
    · rintro (h1 | rfl | h1)
      · exact .inl (.inl h1)
      · exact .inl (.inr rfl)
      · exact .inr h1
theorem onw_mem {l : List HS} (hl : l.all okS = true) {g : HE} (gg : GoodE g) {rs : List (Nat → Int)} {k : Nat} (hrs : rs[k]? = some (RK l g k)) {a : HE} (ga : GoodE a) (ha : needN l g a = some (k + 1)) {st : Nat} {x : HE} :
    (st, x) ∈ onwX l rs a (k + 1) ↔ ∃ s, l[st]? = some s ∧ canS s a = true ∧ x = strE s a ∧ needN l g x = some k := by
  rw [show onwX l rs a (k + 1) = strks l a (RK l g k) by rw [onwX, List.getD_eq_getElem?_getD, hrs]; rfl, strks_mem]
  constructor
  · rintro ⟨s, hs, hX, rfl⟩
    rw [strX, Bool.and_eq_true] at hX
    have gx := ga.str (goodS hl hs) hX.1
    obtain ⟨j, hj, hjk⟩ := (need_has hl gg gx).1 hX.2
    refine ⟨s, hs, hX.1, rfl, ?_⟩
    have : hasE a (RK l g (j + 1)) = true := (has_step hl (RK_ok hl gg j) ga).2 (.inr ⟨st, s, hs, by rw [strX, hX.1]; exact ((need_some hl gg gx).1 hj).1⟩)
    obtain ⟨m, hm, hmj⟩ := (need_has hl gg ga).1 this
    rw [ha] at hm
    cases hm
    rw [hj]
    congr 1
    omega
  · rintro ⟨s, hs, hc, rfl, hx⟩
    refine ⟨s, hs, ?_, rfl⟩
    rw [strX, hc]
    exact ((need_some hl gg (ga.str (goodS hl hs) hc)).1 hx).1
theorem procA_mem {l : List HS} (hl : l.all okS = true) {g : HE} (gg : GoodE g) {rs : List (Nat → Int)} {k : Nat} (hrs : rs[k]? = some (RK l g k)) {y : HE} : ∀ (A B : List HE), (∀ a ∈ A, GoodE a ∧ needN l g a = some (k + 1)) →
    (y ∈ procA l rs (k + 1) A B ↔ y ∈ B ∨ ∃ a ∈ A, ∃ (i : Nat) (s : HS), l[i]? = some s ∧ canS s a = true ∧ y = strE s a ∧ needN l g y = some k)
  | [], B, _ => by simp [procA]
  | a :: A, B, h => by
    obtain ⟨ga, ha⟩ := h a List.mem_cons_self
    have hA := fun x hx => h x (List.mem_cons_of_mem _ hx)
    rw [procA, procA_mem hl gg hrs A _ hA, fold_mem _ _ fun p hp hpA => by
      obtain ⟨s, -, -, -, hn⟩ := (onw_mem hl gg hrs ga ha (st := p.1) (x := p.2)).1 hp
      rw [(hA p.2 hpA).2] at hn
      cases hn]
    simp only [List.mem_cons, exists_eq_or_imp]
    constructor
    · rintro ((h1 | ⟨p, hp, rfl⟩) | h1)
      · exact .inl h1
      · obtain ⟨s, h2, h3, h4, h5⟩ := (onw_mem hl gg hrs ga ha (st := p.1) (x := p.2)).1 hp
        exact .inr (.inl ⟨p.1, s, h2, h3, h4, h5⟩)
      · exact .inr (.inr h1)
    · rintro (h1 | ⟨i, s, h2, h3, h4, h5⟩ | h1)
      · exact .inl (.inl h1)
      · exact .inl (.inr ⟨(i, y), (onw_mem hl gg hrs ga ha).2 ⟨s, h2, h3, h4, h5⟩, rfl⟩)
      · exact .inr h1
theorem ends_lv {l : List HS} (hl : l.all okS = true) {g e : HE} (gg : GoodE g) (ge : GoodE e) {rs : List (Nat → Int)} {K : Nat} (hK : needN l g e = some K) (st : Nat) : ∀ (k : Nat) (A : List HE), k + 1 ≤ K → (∀ j, j ≤ k → rs[j]? = some (RK l g j)) → (∀ x, x ∈ A ↔ Lv l g e (k + 1) x) →
    (st ∈ endsG l rs (k + 1) A ↔ ∃ x s, Lv l g e 1 x ∧ l[st]? = some s ∧ canS s x = true ∧ needN l g (strE s x) = some 0)
  | 0, A, hk, hrs, hA => by
    rw [endsG, if_pos rfl, endsG, List.append_nil, marksA, List.mem_flatMap]
    constructor
    · rintro ⟨a, ha, hm⟩
      have hv := (hA a).1 ha
      obtain ⟨⟨i, x⟩, hp, rfl⟩ := List.mem_map.1 hm
      obtain ⟨s, h1, h2, h3, h4⟩ := (onw_mem hl gg (hrs 0 (Nat.le_refl _)) (hv.good hl ge) hv.need).1 hp
      exact ⟨a, s, hv, h1, h2, by rw [← h3]; exact h4⟩
    · rintro ⟨a, s, hv, h1, h2, h3⟩
      exact ⟨a, (hA a).2 hv, List.mem_map.2 ⟨(st, strE s a), (onw_mem hl gg (hrs 0 (Nat.le_refl _)) (hv.good hl ge) hv.need).2 ⟨s, h1, h2, rfl, h3⟩, rfl⟩⟩
  | k + 1, A, hk, hrs, hA => by
    rw [endsG, if_neg (by omega), List.nil_append]
    refine ends_lv hl gg ge hK st k _ (by omega) (fun j hj => hrs j (by omega)) fun x => ?_
    rw [procA_mem hl gg (hrs (k + 1) (Nat.le_refl _)) A [] fun a ha => ⟨((hA a).1 ha).good hl ge, ((hA a).1 ha).need⟩]
    simp only [List.not_mem_nil, false_or]
    constructor
    · rintro ⟨a, ha, i, s, h1, h2, rfl, h4⟩
      exact .step ((hA a).1 ha) h1 h2 h4
    · intro h
      cases h with
      | top h => rw [hK] at h; cases h; omega
      | step hy h1 h2 h3 => exact ⟨_, (hA _).2 hy, _, _, h1, h2, rfl, h3⟩
theorem endsO_mem {l : List HS} {e g : HE} (h0 : chkErr l [e, g] = 0) {K : Nat} (hn : needN l g e = some (K + 1)) (st : Nat) : st ∈ endsG l ((rowsG l g).take (K + 1)) (K + 1) [e] ↔ ∃ x s, Lv l g e 1 x ∧ l[st]? = some s ∧ canS s x = true ∧ needN l g (strE s x) = some 0 := by
  obtain ⟨hb, hes⟩ := chkOk h0
  have gg := goodE (e := g) (by simp at hes; exact hes.2)
  have ge := goodE (e := e) (by simp at hes; exact hes.1)
  have hl := hb.all
  obtain ⟨hk1, hk2⟩ := rows_take hn
  obtain ⟨m, hm⟩ := rows_are hl gg
  have hkm : K + 1 ≤ m + 1 := by rw [List.length_take, hm.len] at hk1; omega
  refine ends_lv hl gg ge hn st K [e] (Nat.le_refl _) (fun j hj => by rw [List.getElem?_take, if_pos (by omega), hm.get j (by omega)]) fun x => ?_
  rw [List.mem_singleton]
  constructor
  · rintro rfl
    exact .top hn
  · intro h
    cases h with
    | top _ => rfl
    | step hy _ _ _ =>
      exfalso
      have key : ∀ {k : Nat} {y : HE}, Lv l g e k y → k ≤ K + 1 := by
        intro k y h
        induction h with
        | top h => rw [hn] at h; cases h; omega
        | step _ _ _ _ ih => omega
      have := key hy
      omega
end Go.Proofs.Ytcmkkgdjhjpldaa.Eng

noncomputable section
namespace Go.Proofs.Ytcmkkgdjhjpldaa.Eng
open Go.RowKit
theorem need_run {l : List HS} (hl : l.all okS = true) {g e : HE} (gg : GoodE g) (ge : GoodE e) {k : Nat} : needN l g e = some k ↔ (∃ t : List Int, t.length = k ∧ ∃ x, runE l t e = some x ∧ keenB x g = true) ∧ ∀ t : List Int, t.length < k → ∀ x, runE l t e = some x → keenB x g = true → False := by
  rw [need_some hl gg ge]
  constructor
  · rintro ⟨h1, h2⟩
    have hno : ∀ t : List Int, t.length < k → ∀ x, runE l t e = some x → keenB x g = true → False := fun t ht x hr hx => by
      have := (has_run hl gg t.length e ge).2 ⟨t, Nat.le_refl _, x, hr, hx⟩
      rw [h2 _ ht] at this
      cases this
    obtain ⟨t, ht, x, hr, hx⟩ := (has_run hl gg k e ge).1 h1
    refine ⟨⟨t, ?_, x, hr, hx⟩, hno⟩
    refine Classical.byContradiction fun hne => hno t (by omega) x hr hx
  · rintro ⟨⟨t, ht, x, hr, hx⟩, hno⟩
    refine ⟨(has_run hl gg k e ge).2 ⟨t, by omega, x, hr, hx⟩, fun j hj => ?_⟩
    cases hh : hasE e (RK l g j) with
    | false => rfl
    | true =>
      obtain ⟨t, ht, x, hr, hx⟩ := (has_run hl gg j e ge).1 hh
      exact (hno t (by omega) x hr hx).elim
end Go.Proofs.Ytcmkkgdjhjpldaa.Eng

noncomputable section
namespace Go.Proofs.Ytcmkkgdjhjpldaa.Eng
open Go.RowKit
theorem endsO_iff {l : List HS} {e g : HE} (h0 : chkErr l [e, g] = 0) {K : Nat} (hn : needN l g e = some (K + 1)) (st : Nat) : (st : Int) ∈ endsO l e g ↔ st < 6 ∧ ∃ x s, Lv l g e 1 x ∧ l[st]? = some s ∧ canS s x = true ∧ needN l g (strE s x) = some 0 := by
  rw [endsO, if_pos h0, hn]
  simp only [List.mem_map, List.mem_filter, List.mem_range, decide_eq_true_eq]
  constructor
  · rintro ⟨i, ⟨h1, h2⟩, h3⟩
    obtain rfl : i = st := by omega
    exact ⟨h1, (endsO_mem h0 hn i).1 h2⟩
  · rintro ⟨h1, h2⟩
    exact ⟨st, ⟨h1, (endsO_mem h0 hn st).2 h2⟩, rfl⟩
theorem ends_zero {l : List HS} {e g : HE} (h0 : chkErr l [e, g] = 0) (hn : needN l g e = some 0) : endsO l e g = [] := by
  rw [endsO, if_pos h0, hn]
  simp [endsG]
theorem endsO_in {l : List HS} {e g : HE} (h0 : chkErr l [e, g] = 0) {k : Nat} (hn : needN l g e = some k) {y : Int} (hy : y ∈ endsO l e g) : 0 ≤ y ∧ y < l.length := by
  cases k with
  | zero => rw [ends_zero h0 hn] at hy; cases hy
  | succ K =>
    have hy' := hy
    rw [endsO, if_pos h0, hn] at hy'
    simp only [List.mem_map] at hy'
    obtain ⟨st, -, rfl⟩ := hy'
    obtain ⟨-, x, s, -, h2, -⟩ := (endsO_iff h0 hn st).1 hy
    have := (List.getElem?_eq_some_iff.1 h2).1
    omega
theorem spareO_iff {l : List HS} {e g : HE} (h0 : chkErr l [e, g] = 0) {k : Nat} (hn : needN l g e = some k) {i : Nat} (hi : i < l.length) : (i : Int) ∈ spareO l e g ↔ needN (woS l i) g e = some k := by
  rw [spareO, if_pos h0, hn]
  simp only [spareL, List.mem_map, List.mem_filter, List.mem_range, decide_eq_true_eq]
  constructor
  · rintro ⟨j, ⟨-, h⟩, h2⟩
    obtain rfl : j = i := by omega
    exact h
  · exact fun h => ⟨i, ⟨hi, h⟩, rfl⟩
theorem need_empty {g e : HE} (gg : GoodE g) (ge : GoodE e) {k : Nat} (h : needN [] g e = some k) : k = 0 := by
  obtain ⟨⟨t, ht, x, hr, -⟩, -⟩ := (need_run (l := []) rfl gg ge).1 h
  cases t with
  | nil => exact ht.symm
  | cons i t => simp [runE] at hr
end Go.Proofs.Ytcmkkgdjhjpldaa.Eng

noncomputable section
namespace Go.Proofs.Ytcmkkgdjhjpldaa.Eng
open Go.RowKit
set_option maxRecDepth 100000
set_option maxHeartbeats 16000000
theorem refWithout_c (l : List HS) (hn : l.length ≤ 10) {i : Nat} (hi : i < l.length) : ACall Try.prog 47 [boxD l, iD i] (boxD (woS l i)) := by
  have w1 : IntKind.i64.wrap ((i : Int) + 1) = (i : Int) + 1 := wrap64_in (by omega)
  have hii : (i : Int) ≤ l.length := by omega
  have hij : (i : Int) + 1 ≤ l.length := by omega
  have hin : i ≤ l.length := by omega
  have hin1 : i + 1 ≤ l.length := hi
  have hwo : boxD (woS l i) = .list ((hsRows l).take i ++ (hsRows l).drop (i + 1)) := by simp [woS, hsRows, List.map_take, List.map_drop]
  rw [hwo]
  have h3 : (∀ (r : List Dat), r ∈ (hsRows l).take i → r.length = 3) = True := eq_true fun r hr => by
    obtain ⟨q, -, rfl⟩ := List.mem_map.1 (List.mem_of_mem_take hr)
    rfl
  have h4 : (∀ (r : List Dat), r ∈ (hsRows l).drop (i + 1) → r.length = 3) = True := eq_true fun r hr => by
    obtain ⟨q, -, rfl⟩ := List.mem_map.1 (List.mem_of_mem_drop hr)
    rfl
  have h5 : (∀ (r : List Dat), r ∈ hsRows l → r.length = 3) = True := eq_true fun r hr => by
    obtain ⟨q, -, rfl⟩ := List.mem_map.1 hr
    rfl
  have htl : List.take l.length (hsRows l) = hsRows l := List.take_of_length_le (by simp)
  have hle : (0 : Int) ≤ (i : Int) + 1 := by omega
  have hmin : min i l.length = i := by omega
  have f1 : fitsB i 24 = true := fitsB_small (by omega) (by omega)
  have f2 : fitsB (i + (l.length - (i + 1))) 24 = true := fitsB_small (by omega) (by omega)
  refine acallK tabOk Try.func47 rfl rfl (show 2 ≤ _ by decide) rfl fun _ => ?_; simp only [Try.ntmps47]
  repeat (first | (with_reducible first | refine zq1 fun _ => ?_ | refine zq2 fun _ => ?_ | refine zq3 ?_) | ((first | refine zq4 ?_ | refine zq5 fun _ _ => ?_ | refine zq6 ?_); simp [-getElem?_pos, z0, z1, z2, w1, hii, hij, hin, hin1, h3, h4, h5, htl, hle, hmin, f1, f2]) | ((first | refine AWp.ret ?_ | refine AWp.skip ?_ | refine AWp.exit ?_); try simp only [thenP]) | (with_reducible refine zq7 ?_; simp only [blockP, thenP, reduceIte]) | with_reducible refine zq8 ?_)
  (first | refine RR.ret ?_ | refine RR.normal ?_); simp [hmin]
end Go.Proofs.Ytcmkkgdjhjpldaa.Eng

noncomputable section
namespace Go.Proofs.Ytcmkkgdjhjpldaa.Eng
open Go.RowKit
set_option maxRecDepth 100000
set_option maxHeartbeats 16000000
theorem needs_at {l : List HS} {g e : HE} (ge : GoodE e) : (needsL l g)[(7 * e.depth + e.burr).toNat]? = some (match needN l g e with | some k => (k : Int) | none => -1) := by
  obtain ⟨h1, h2, -⟩ := ixE_of ge
  rw [needsL]
  simp [h1, needV, h2] <;> (cases needN l g e <;> rfl)
end Go.Proofs.Ytcmkkgdjhjpldaa.Eng

noncomputable section
namespace Go.Proofs.Ytcmkkgdjhjpldaa.Eng
open Go.RowKit
set_option maxRecDepth 100000
set_option maxHeartbeats 16000000
theorem val_any {l : List HS} (hl : l.all okS = true) (n2 : l.length ≤ 6) {g : HE} (gg : GoodE g) (n : Nat) (h : ∀ i, i < 707 → needN l g (ixE i) ≠ some (n + 1)) (i : Nat) (hi : i < 707) : valN l g n i = needV l g i := by
  by_cases h1 : 1 ≤ l.length
  · have hbx : boxErr l = 0 := by rw [boxErr, if_neg (by omega), if_pos hl]
    have hg : okE g = true := by rw [okE_eq]; exact decide_eq_true ⟨⟨gg.d0, gg.d1⟩, gg.b0, gg.b1⟩
    exact val_all (by rw [chkErr, if_pos hbx, if_pos (by simp [hg])]) h hi
  · have : l = [] := List.length_eq_zero_iff.1 (by omega)
    subst this
    rw [valN, needV]
    cases hn : needN [] g (ixE i) with
    | none => rfl
    | some k =>
      have := need_empty gg (ixE_good hi) hn
      subst this
      simp
def fewI (l : List HS) (g e : HE) : Int := match needN l g e with
  | some k => (k : Int)
  | none => -1
theorem few_eq {l : List HS} {g e : HE} {k : Nat} : fewI l g e = (k : Int) ↔ needN l g e = some k := by
  unfold fewI
  cases needN l g e with
  | none => simp
  | some j => simp; omega
theorem refFewest_c (l : List HS) (hl : l.all okS = true) (n2 : l.length ≤ 6) (e g : HE) (ge : GoodE e) (gg : GoodE g) : ACall Try.prog 71 [boxD l, edgD e, edgD g] (iD (fewI l g e)) := by
  have cn := refNeeds_g l hl n2 g gg (val_any hl n2 gg)
  rw [show (List.range 707).map (needV l g) = needsL l g from rfl] at cn
  have hat : (needsL l g)[(7 * e.depth + e.burr).toNat]? = some (fewI l g e) := by
    rw [needs_at ge]
    unfold fewI
    cases needN l g e <;> rfl
  obtain ⟨ed, eb⟩ := e
  have u1 := ge.d0; have u2 := ge.d1; have u3 := ge.b0; have u4 := ge.b1
  simp only at u1 u2 u3 u4 hat
  obtain ⟨D, rfl⟩ := Int.eq_ofNat_of_zero_le u1
  obtain ⟨B, rfl⟩ := Int.eq_ofNat_of_zero_le u3
  obtain ⟨m, hm⟩ : ∃ m, m = 7 * D + B := ⟨_, rfl⟩
  have wa : IntKind.i64.wrap (7 * (D : Int)) = 7 * (D : Int) := wrap64_in (by omega)
  have wb : IntKind.i64.wrap (7 * (D : Int) + (B : Int)) = (m : Int) := by rw [wrap64_in (by omega)]; omega
  have hm7 : m < 707 := by omega
  have hm7i : (m : Int) < 707 := by omega
  rw [show (7 * (D : Int) + (B : Int)).toNat = m by omega] at hat
  have hnl := needsL_len l g
  generalize fewI l g ⟨(D : Int), (B : Int)⟩ = v at *
  refine acallK tabOk Try.func71 rfl rfl (show 3 ≤ _ by decide) rfl fun _ => ?_; simp only [Try.ntmps71]
  repeat (first | (with_reducible first | refine zq1 fun _ => ?_ | refine zq2 fun _ => ?_ | refine zq3 ?_) | ((first | refine zq4 ?_ | refine zq5 fun _ _ => ?_ | refine zq6 ?_); simp [-getElem?_pos, z0, z1, z2, z0]) | ((first | refine AWp.ret ?_ | refine AWp.skip ?_ | refine AWp.exit ?_); try simp only [thenP]) | (with_reducible refine zq7 ?_; simp only [blockP, thenP, reduceIte]) | with_reducible refine zq8 ?_)
  (first | refine Exec0.call [] cn ?_ rfl ?_ ?_ | refine Exec.call [] cn ?_ rfl ?_ ?_); (focus simp [-getElem?_pos, wa, wb, hm7, hm7i, hat, hnl]); (focus simp [-getElem?_pos, z0, z1, z2, wa, wb, hm7, hm7i, hat, hnl]); simp [-getElem?_pos, z0, z1, z2, wa, wb, hm7, hm7i, hat, hnl]
  repeat (first | (with_reducible first | refine zq1 fun _ => ?_ | refine zq2 fun _ => ?_ | refine zq3 ?_) | ((first | refine zq4 ?_ | refine zq5 fun _ _ => ?_ | refine zq6 ?_); simp [-getElem?_pos, z0, z1, z2, wa, wb, hm7, hm7i, hat, hnl]) | ((first | refine AWp.ret ?_ | refine AWp.skip ?_ | refine AWp.exit ?_); try simp only [thenP]) | (with_reducible refine zq7 ?_; simp only [blockP, thenP, reduceIte]) | with_reducible refine zq8 ?_)
  (first | refine RR.ret ?_ | refine RR.normal ?_); simp [z0]
theorem refSpare_c (l : List HS) (e g : HE) : ACall Try.prog 37 [boxD l, edgD e, edgD g] (.tup [intL (spareO l e g), iD (reachE l g e)]) := by
  have ca := refAsked_c l e g
  by_cases h0 : chkErr l [e, g] = 0
  · obtain ⟨hb, hes⟩ := chkOk h0
    have gg := goodE (e := g) (by simp at hes; exact hes.2)
    have ge := goodE (e := e) (by simp at hes; exact hes.1)
    have hl := hb.all
    have n1 := hb.n1
    have n2 := hb.n2
    rw [h0] at ca
    have cf := refFewest_c l hl n2 e g ge gg
    cases hn : needN l g e with
    | none =>
      have hre : reachE l g e = 13 := by rw [reachE, if_pos h0, hn]
      have hO : spareO l e g = [] := by rw [spareO, if_pos h0, hn]
      have hfw : fewI l g e = -1 := by rw [fewI, hn]
      rw [hre, hO]
      rw [hfw] at cf
      refine acallK tabOk Try.func37 rfl rfl (show 3 ≤ _ by decide) rfl fun _ => ?_; simp only [Try.ntmps37]
      repeat (first | (with_reducible first | refine zq1 fun _ => ?_ | refine zq2 fun _ => ?_ | refine zq3 ?_) | ((first | refine zq4 ?_ | refine zq5 fun _ _ => ?_ | refine zq6 ?_); simp [-getElem?_pos, z0, z1, z2, z0]) | ((first | refine AWp.ret ?_ | refine AWp.skip ?_ | refine AWp.exit ?_); try simp only [thenP]) | (with_reducible refine zq7 ?_; simp only [blockP, thenP, reduceIte]) | with_reducible refine zq8 ?_)
      (first | refine Exec0.call [] ca ?_ rfl ?_ ?_ | refine Exec.call [] ca ?_ rfl ?_ ?_); (focus simp [-getElem?_pos, z0]); (focus simp [-getElem?_pos, z0, z1, z2, z0]); simp [-getElem?_pos, z0, z1, z2, z0]
      repeat (first | (with_reducible first | refine zq1 fun _ => ?_ | refine zq2 fun _ => ?_ | refine zq3 ?_) | ((first | refine zq4 ?_ | refine zq5 fun _ _ => ?_ | refine zq6 ?_); simp [-getElem?_pos, z0, z1, z2, z0]) | ((first | refine AWp.ret ?_ | refine AWp.skip ?_ | refine AWp.exit ?_); try simp only [thenP]) | (with_reducible refine zq7 ?_; simp only [blockP, thenP, reduceIte]) | with_reducible refine zq8 ?_)
      (first | refine Exec0.call [] cf ?_ rfl ?_ ?_ | refine Exec.call [] cf ?_ rfl ?_ ?_); (focus simp [-getElem?_pos, z0]); (focus simp [-getElem?_pos, z0, z1, z2, z0]); simp [-getElem?_pos, z0, z1, z2, z0]
      repeat (first | (with_reducible first | refine zq1 fun _ => ?_ | refine zq2 fun _ => ?_ | refine zq3 ?_) | ((first | refine zq4 ?_ | refine zq5 fun _ _ => ?_ | refine zq6 ?_); simp [-getElem?_pos, z0, z1, z2, z0]) | ((first | refine AWp.ret ?_ | refine AWp.skip ?_ | refine AWp.exit ?_); try simp only [thenP]) | (with_reducible refine zq7 ?_; simp only [blockP, thenP, reduceIte]) | with_reducible refine zq8 ?_)
      (first | refine RR.ret ?_ | refine RR.normal ?_); simp [z0]
    | some k =>
      have hre : reachE l g e = 0 := by rw [reachE, if_pos h0, hn]
      have hO : spareO l e g = spareL l e g k l.length := by rw [spareO, if_pos h0, hn]
      have hfw : fewI l g e = (k : Int) := by rw [fewI, hn]
      rw [hre, hO]
      rw [hfw] at cf
      have hk0 : ¬ (k : Int) < 0 := by omega
      have hnext : ∀ i, spareL l e g k (i + 1) = if fewI (woS l i) g e = (k : Int) then spareL l e g k i ++ [(i : Int)] else spareL l e g k i := fun i => by
        simp only [few_eq]
        rw [spareL, List.range_succ, List.filter_append, List.map_append]
        by_cases h : needN (woS l i) g e = some k <;> simp [h, spareL]
      have hlenS : ∀ i, (spareL l e g k i).length ≤ i := fun i => by
        rw [spareL, List.length_map]
        exact Nat.le_trans (List.length_filter_le _ _) (by simp)
      have hz : spareL l e g k 0 = [] := rfl
      generalize spareL l e g k = S at *
      refine acallK tabOk Try.func37 rfl rfl (show 3 ≤ _ by decide) rfl fun _ => ?_; simp only [Try.ntmps37]
      repeat (first | (with_reducible first | refine zq1 fun _ => ?_ | refine zq2 fun _ => ?_ | refine zq3 ?_) | ((first | refine zq4 ?_ | refine zq5 fun _ _ => ?_ | refine zq6 ?_); simp [-getElem?_pos, z0, z1, z2, z0]) | ((first | refine AWp.ret ?_ | refine AWp.skip ?_ | refine AWp.exit ?_); try simp only [thenP]) | (with_reducible refine zq7 ?_; simp only [blockP, thenP, reduceIte]) | with_reducible refine zq8 ?_)
      (first | refine Exec0.call [] ca ?_ rfl ?_ ?_ | refine Exec.call [] ca ?_ rfl ?_ ?_); (focus simp [-getElem?_pos, z0]); (focus simp [-getElem?_pos, z0, z1, z2, z0]); simp [-getElem?_pos, z0, z1, z2, z0]
      repeat (first | (with_reducible first | refine zq1 fun _ => ?_ | refine zq2 fun _ => ?_ | refine zq3 ?_) | ((first | refine zq4 ?_ | refine zq5 fun _ _ => ?_ | refine zq6 ?_); simp [-getElem?_pos, z0, z1, z2, z0]) | ((first | refine AWp.ret ?_ | refine AWp.skip ?_ | refine AWp.exit ?_); try simp only [thenP]) | (with_reducible refine zq7 ?_; simp only [blockP, thenP, reduceIte]) | with_reducible refine zq8 ?_)
      (first | refine Exec0.call [] cf ?_ rfl ?_ ?_ | refine Exec.call [] cf ?_ rfl ?_ ?_); (focus simp [-getElem?_pos, hk0]); (focus simp [-getElem?_pos, z0, z1, z2, hk0]); simp [-getElem?_pos, z0, z1, z2, hk0]
      repeat (first | (with_reducible first | refine zq1 fun _ => ?_ | refine zq2 fun _ => ?_ | refine zq3 ?_) | ((first | refine zq4 ?_ | refine zq5 fun _ _ => ?_ | refine zq6 ?_); simp [-getElem?_pos, z0, z1, z2, hk0]) | ((first | refine AWp.ret ?_ | refine AWp.skip ?_ | refine AWp.exit ?_); try simp only [thenP]) | (with_reducible refine zq7 ?_; simp only [blockP, thenP, reduceIte]) | with_reducible refine zq8 ?_)
      refine AWp.loopK (ι := { i : Nat // i ≤ l.length }) (n := 3) (fun i => [(0, .d (boxD l)), (4, .ptr 0 0 0), (5, .ptr 1 0 0), (8, .d (iD (k : Nat))), (9, gS 2 1 (iRows (S i.1))), (10, .d (iD i.1))]) (fun i => (0, .box 24 [.d (iD e.depth), .d (iD e.burr)] false) :: (1, .box 24 [.d (iD g.depth), .d (iD g.burr)] false) :: gM 2 3 1 (iRows (S i.1))) (fun i => l.length - i.1) ⟨0, Nat.zero_le _⟩ [0, 1, 2] ?_ ?_
      · refine ⟨by rfl, by simp [iRows, hz], by simp [or_imp, forall_and, iRows, hz] <;> (try (intro _hne; simp [_hne])), by decide⟩
      rintro ⟨i, hi⟩ kk
      have w1 : IntKind.i64.wrap ((i : Int) + 1) = (i : Int) + 1 := wrap64_in (by omega)
      have hSl := hlenS i
      have hSr := iRows_len (S i)
      by_cases hlt : i < l.length
      · have hii : (i : Int) < l.length := by omega
        have cwo := refWithout_c l (by omega) hlt
        have cfw := refFewest_c (woS l i) (woS_ok hl i) (by simp [woS]; omega) e g ge gg
        have hN := hnext i
        generalize fewI (woS l i) g e = v at *
        obtain hRS | ⟨r, o, hRS⟩ : iRows (S i) = [] ∨ ∃ r o, iRows (S i) = r :: o := by
          cases iRows (S i) with
          | nil => exact .inl rfl
          | cons r o => exact .inr ⟨r, o, rfl⟩
        · by_cases hv : v = (k : Int)
          · rw [if_pos hv] at hN
            have hSq : iRows (S (i + 1)) = iRows (S i) ++ [[iD (i : Int)]] := by rw [hN]; simp [iRows]
            repeat (first | (with_reducible first | refine zq1 fun _ => ?_ | refine zq2 fun _ => ?_ | refine zq3 ?_) | ((first | refine zq4 ?_ | refine zq5 fun _ _ => ?_ | refine zq6 ?_); simp [-getElem?_pos, z0, z1, z2, hii, hlt]) | ((first | refine AWp.ret ?_ | refine AWp.skip ?_ | refine AWp.exit ?_); try simp only [thenP]) | (with_reducible refine zq7 ?_; simp only [blockP, thenP, reduceIte]) | with_reducible refine zq8 ?_)
            (first | refine Exec0.call [] cwo ?_ rfl ?_ ?_ | refine Exec.call [] cwo ?_ rfl ?_ ?_); (focus simp [-getElem?_pos, z0]); (focus simp [-getElem?_pos, z0, z1, z2, z0]); simp [-getElem?_pos, z0, z1, z2, z0]
            (first | refine Exec0.call [] cfw ?_ rfl ?_ ?_ | refine Exec.call [] cfw ?_ rfl ?_ ?_); (focus simp [-getElem?_pos, hv]); (focus simp [-getElem?_pos, z0, z1, z2, hv]); simp [-getElem?_pos, z0, z1, z2, hv]
            repeat (first | (with_reducible first | refine zq1 fun _ => ?_ | refine zq2 fun _ => ?_ | refine zq3 ?_) | ((first | refine zq4 ?_ | refine zq5 fun _ _ => ?_ | refine zq6 ?_); simp [-getElem?_pos, z0, z1, z2, hv, w1, hRS]) | ((first | refine AWp.ret ?_ | refine AWp.skip ?_ | refine AWp.exit ?_); try simp only [thenP]) | (with_reducible refine zq7 ?_; simp only [blockP, thenP, reduceIte]) | with_reducible refine zq8 ?_)
            refine LL.go ⟨i + 1, hlt⟩ [0, 1, 18] ⟨by rfl, by simp [hSq, hRS], by simp [or_imp, forall_and, hSq, hRS] <;> (try (intro _hne; simp [_hne])), by decide⟩ ?_
            simp; omega
          · rw [if_neg hv] at hN
            repeat (first | (with_reducible first | refine zq1 fun _ => ?_ | refine zq2 fun _ => ?_ | refine zq3 ?_) | ((first | refine zq4 ?_ | refine zq5 fun _ _ => ?_ | refine zq6 ?_); simp [-getElem?_pos, z0, z1, z2, hii, hlt]) | ((first | refine AWp.ret ?_ | refine AWp.skip ?_ | refine AWp.exit ?_); try simp only [thenP]) | (with_reducible refine zq7 ?_; simp only [blockP, thenP, reduceIte]) | with_reducible refine zq8 ?_)
            (first | refine Exec0.call [] cwo ?_ rfl ?_ ?_ | refine Exec.call [] cwo ?_ rfl ?_ ?_); (focus simp [-getElem?_pos, z0]); (focus simp [-getElem?_pos, z0, z1, z2, z0]); simp [-getElem?_pos, z0, z1, z2, z0]
            (first | refine Exec0.call [] cfw ?_ rfl ?_ ?_ | refine Exec.call [] cfw ?_ rfl ?_ ?_); (focus simp [-getElem?_pos, hv]); (focus simp [-getElem?_pos, z0, z1, z2, hv]); simp [-getElem?_pos, z0, z1, z2, hv]
            repeat (first | (with_reducible first | refine zq1 fun _ => ?_ | refine zq2 fun _ => ?_ | refine zq3 ?_) | ((first | refine zq4 ?_ | refine zq5 fun _ _ => ?_ | refine zq6 ?_); simp [-getElem?_pos, z0, z1, z2, hv, w1, hRS]) | ((first | refine AWp.ret ?_ | refine AWp.skip ?_ | refine AWp.exit ?_); try simp only [thenP]) | (with_reducible refine zq7 ?_; simp only [blockP, thenP, reduceIte]) | with_reducible refine zq8 ?_)
            refine LL.go ⟨i + 1, hlt⟩ [0, 1, 2] ⟨by rfl, by simp [hN, hRS], by simp [or_imp, forall_and, hN, hRS] <;> (try (intro _hne; simp [_hne])), by decide⟩ ?_
            simp; omega
        · rw [hRS] at hSr
          simp at hSr
          have f1 : fitsB (o.length + 1 + 1) 8 = true := fitsB_small (by omega) (by omega)
          by_cases hv : v = (k : Int)
          · rw [if_pos hv] at hN
            have hSq : iRows (S (i + 1)) = iRows (S i) ++ [[iD (i : Int)]] := by rw [hN]; simp [iRows]
            repeat (first | (with_reducible first | refine zq1 fun _ => ?_ | refine zq2 fun _ => ?_ | refine zq3 ?_) | ((first | refine zq4 ?_ | refine zq5 fun _ _ => ?_ | refine zq6 ?_); simp [-getElem?_pos, z0, z1, z2, hii, hlt]) | ((first | refine AWp.ret ?_ | refine AWp.skip ?_ | refine AWp.exit ?_); try simp only [thenP]) | (with_reducible refine zq7 ?_; simp only [blockP, thenP, reduceIte]) | with_reducible refine zq8 ?_)
            (first | refine Exec0.call [] cwo ?_ rfl ?_ ?_ | refine Exec.call [] cwo ?_ rfl ?_ ?_); (focus simp [-getElem?_pos, z0]); (focus simp [-getElem?_pos, z0, z1, z2, z0]); simp [-getElem?_pos, z0, z1, z2, z0]
            (first | refine Exec0.call [] cfw ?_ rfl ?_ ?_ | refine Exec.call [] cfw ?_ rfl ?_ ?_); (focus simp [-getElem?_pos, hv]); (focus simp [-getElem?_pos, z0, z1, z2, hv]); simp [-getElem?_pos, z0, z1, z2, hv]
            repeat (first | (with_reducible first | refine zq1 fun _ => ?_ | refine zq2 fun _ => ?_ | refine zq3 ?_) | ((first | refine zq4 ?_ | refine zq5 fun _ _ => ?_ | refine zq6 ?_); simp [-getElem?_pos, z0, z1, z2, hv, w1, hRS, f1]) | ((first | refine AWp.ret ?_ | refine AWp.skip ?_ | refine AWp.exit ?_); try simp only [thenP]) | (with_reducible refine zq7 ?_; simp only [blockP, thenP, reduceIte]) | with_reducible refine zq8 ?_)
            refine LL.go ⟨i + 1, hlt⟩ [0, 1, 18] ⟨by rfl, by simp [hSq, hRS], by simp [or_imp, forall_and, hSq, hRS] <;> (try (intro _hne; simp [_hne])), by decide⟩ ?_
            simp; omega
          · rw [if_neg hv] at hN
            repeat (first | (with_reducible first | refine zq1 fun _ => ?_ | refine zq2 fun _ => ?_ | refine zq3 ?_) | ((first | refine zq4 ?_ | refine zq5 fun _ _ => ?_ | refine zq6 ?_); simp [-getElem?_pos, z0, z1, z2, hii, hlt]) | ((first | refine AWp.ret ?_ | refine AWp.skip ?_ | refine AWp.exit ?_); try simp only [thenP]) | (with_reducible refine zq7 ?_; simp only [blockP, thenP, reduceIte]) | with_reducible refine zq8 ?_)
            (first | refine Exec0.call [] cwo ?_ rfl ?_ ?_ | refine Exec.call [] cwo ?_ rfl ?_ ?_); (focus simp [-getElem?_pos, z0]); (focus simp [-getElem?_pos, z0, z1, z2, z0]); simp [-getElem?_pos, z0, z1, z2, z0]
            (first | refine Exec0.call [] cfw ?_ rfl ?_ ?_ | refine Exec.call [] cfw ?_ rfl ?_ ?_); (focus simp [-getElem?_pos, hv]); (focus simp [-getElem?_pos, z0, z1, z2, hv]); simp [-getElem?_pos, z0, z1, z2, hv]
            repeat (first | (with_reducible first | refine zq1 fun _ => ?_ | refine zq2 fun _ => ?_ | refine zq3 ?_) | ((first | refine zq4 ?_ | refine zq5 fun _ _ => ?_ | refine zq6 ?_); simp [-getElem?_pos, z0, z1, z2, hv, w1, hRS]) | ((first | refine AWp.ret ?_ | refine AWp.skip ?_ | refine AWp.exit ?_); try simp only [thenP]) | (with_reducible refine zq7 ?_; simp only [blockP, thenP, reduceIte]) | with_reducible refine zq8 ?_)
            refine LL.go ⟨i + 1, hlt⟩ [0, 1, 2] ⟨by rfl, by simp [hN, hRS], by simp [or_imp, forall_and, hN, hRS] <;> (try (intro _hne; simp [_hne])), by decide⟩ ?_
            simp; omega
      · obtain rfl : i = l.length := by omega
        rcases hR : iRows (S l.length) with _ | ⟨r, o⟩
        · rw [hR] at hSr
          have : S l.length = [] := List.length_eq_zero_iff.1 (by simpa using hSr.symm)
          repeat (first | (with_reducible first | refine zq1 fun _ => ?_ | refine zq2 fun _ => ?_ | refine zq3 ?_) | ((first | refine zq4 ?_ | refine zq5 fun _ _ => ?_ | refine zq6 ?_); simp [-getElem?_pos, z0, z1, z2, hlt, hR]) | ((first | refine AWp.ret ?_ | refine AWp.skip ?_ | refine AWp.exit ?_); try simp only [thenP]) | (with_reducible refine zq7 ?_; simp only [blockP, thenP, reduceIte]) | with_reducible refine zq8 ?_)
          (first | refine RR.ret ?_ | refine RR.normal ?_); simp [this]
        · repeat (first | (with_reducible first | refine zq1 fun _ => ?_ | refine zq2 fun _ => ?_ | refine zq3 ?_) | ((first | refine zq4 ?_ | refine zq5 fun _ _ => ?_ | refine zq6 ?_); simp [-getElem?_pos, z0, z1, z2, hlt, hR]) | ((first | refine AWp.ret ?_ | refine AWp.skip ?_ | refine AWp.exit ?_); try simp only [thenP]) | (with_reducible refine zq7 ?_; simp only [blockP, thenP, reduceIte]) | with_reducible refine zq8 ?_)
          (first | refine RR.ret ?_ | refine RR.normal ?_); simp [intL, hR]
  · have hE : reachE l g e = chkErr l [e, g] := if_neg h0
    have hO : spareO l e g = [] := if_neg h0
    rw [hE, hO]
    refine acallK tabOk Try.func37 rfl rfl (show 3 ≤ _ by decide) rfl fun _ => ?_; simp only [Try.ntmps37]
    repeat (first | (with_reducible first | refine zq1 fun _ => ?_ | refine zq2 fun _ => ?_ | refine zq3 ?_) | ((first | refine zq4 ?_ | refine zq5 fun _ _ => ?_ | refine zq6 ?_); simp [-getElem?_pos, z0, z1, z2, z0]) | ((first | refine AWp.ret ?_ | refine AWp.skip ?_ | refine AWp.exit ?_); try simp only [thenP]) | (with_reducible refine zq7 ?_; simp only [blockP, thenP, reduceIte]) | with_reducible refine zq8 ?_)
    (first | refine Exec0.call [] ca ?_ rfl ?_ ?_ | refine Exec.call [] ca ?_ rfl ?_ ?_); (focus simp [-getElem?_pos, h0]); (focus simp [-getElem?_pos, z0, z1, z2, h0]); simp [-getElem?_pos, z0, z1, z2, h0]
    repeat (first | (with_reducible first | refine zq1 fun _ => ?_ | refine zq2 fun _ => ?_ | refine zq3 ?_) | ((first | refine zq4 ?_ | refine zq5 fun _ _ => ?_ | refine zq6 ?_); simp [-getElem?_pos, z0, z1, z2, h0]) | ((first | refine AWp.ret ?_ | refine AWp.skip ?_ | refine AWp.exit ?_); try simp only [thenP]) | (with_reducible refine zq7 ?_; simp only [blockP, thenP, reduceIte]) | with_reducible refine zq8 ?_)
    (first | refine Exec0.call [] ca ?_ rfl ?_ ?_ | refine Exec.call [] ca ?_ rfl ?_ ?_); (focus simp [-getElem?_pos, h0]); (focus simp [-getElem?_pos, z0, z1, z2, h0]); simp [-getElem?_pos, z0, z1, z2, h0]
    repeat (first | (with_reducible first | refine zq1 fun _ => ?_ | refine zq2 fun _ => ?_ | refine zq3 ?_) | ((first | refine zq4 ?_ | refine zq5 fun _ _ => ?_ | refine zq6 ?_); simp [-getElem?_pos, z0, z1, z2, h0]) | ((first | refine AWp.ret ?_ | refine AWp.skip ?_ | refine AWp.exit ?_); try simp only [thenP]) | (with_reducible refine zq7 ?_; simp only [blockP, thenP, reduceIte]) | with_reducible refine zq8 ?_)
    (first | refine RR.ret ?_ | refine RR.normal ?_); simp [z0]
end Go.Proofs.Ytcmkkgdjhjpldaa.Eng

noncomputable section
namespace Go.Proofs.Ytcmkkgdjhjpldaa.Eng
open Go.RowKit
theorem filt_no {α : Type} (l : List α) : (l.filter fun _ => false) = [] := by
  induction l with
  | nil => rfl
  | cons x l ih => simp
theorem spare_len {l : List HS} {e g : HE} (h0 : chkErr l [e, g] = 0) : (spareO l e g).length = ((List.range l.length).filter fun i : Nat => decide ((i : Int) ∈ spareO l e g)).length := by
  cases hk : needN l g e with
  | none =>
    rw [spareO, if_pos h0, hk]
    simp [filt_no]
  | some k =>
    have : ∀ i, i < l.length → ((i : Int) ∈ spareO l e g ↔ needN (woS l i) g e = some k) := fun i hi => spareO_iff h0 hk hi
    rw [show ((List.range l.length).filter fun i : Nat => decide ((i : Int) ∈ spareO l e g)) = (List.range l.length).filter fun i : Nat => decide (needN (woS l i) g e = some k) from List.filter_congr fun i hi => by
      rw [List.mem_range] at hi
      simp only [this i hi]]
    rw [spareO, if_pos h0, hk]
    simp [spareL]
theorem filter_more {p : Nat → Bool} {n : Nat} (m : Nat) (h : ∀ i, n ≤ i → p i = false) : ((List.range (n + m)).filter p).length = ((List.range n).filter p).length := by
  rw [List.range_add, List.filter_append, List.filter_map, List.length_append, List.length_map]
  have : (List.range m).filter (p ∘ (n + ·)) = [] := by
    rw [List.filter_eq_nil_iff]
    intro i _
    simp [h (n + i) (by omega)]
  rw [this]
  simp
theorem ends_len {l : List HS} {e g : HE} (h0 : chkErr l [e, g] = 0) : (endsO l e g).length = ((List.range l.length).filter fun i : Nat => decide ((i : Int) ∈ endsO l e g)).length := by
  obtain ⟨hb, -⟩ := chkOk h0
  have n2 := hb.n2
  cases hk : needN l g e with
  | none =>
    rw [endsO, if_pos h0, hk]
    simp [filt_no]
  | some k =>
    have hno : ∀ i, l.length ≤ i → decide ((i : Int) ∈ endsO l e g) = false := fun i hi => decide_eq_false fun h => by
      have := endsO_in h0 hk h
      omega
    rw [← filter_more (6 - l.length) hno, show l.length + (6 - l.length) = 6 by omega]
    have hE : endsO l e g = ((List.range 6).filter fun i : Nat => decide (i ∈ endsG l ((rowsG l g).take k) k [e])).map fun i : Nat => (i : Int) := by rw [endsO, if_pos h0, hk]
    rw [show ((List.range 6).filter fun i : Nat => decide ((i : Int) ∈ endsO l e g)) = (List.range 6).filter fun i : Nat => decide (i ∈ endsG l ((rowsG l g).take k) k [e]) from List.filter_congr fun i hi => by
      rw [List.mem_range] at hi
      rw [hE]
      simp only [List.mem_map, List.mem_filter, List.mem_range, decide_eq_true_eq, decide_eq_decide]
      constructor
      · rintro ⟨j, ⟨-, h⟩, e2⟩
        obtain rfl : j = i := by omega
        exact h
      · exact fun h => ⟨i, ⟨hi, h⟩, rfl⟩]
    rw [hE]
    simp
end Go.Proofs.Ytcmkkgdjhjpldaa.Eng
