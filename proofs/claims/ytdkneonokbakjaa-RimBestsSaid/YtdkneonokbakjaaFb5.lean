/-
  A part of the texts that the claim builds on: see the last one.
-/
import Derived.Test.YtdkneonokbakjaaFb4
import Derived.DeepKeys
import Derived.Lib.AppendZeros
set_option linter.unusedSimpArgs false
set_option linter.unusedVariables false
noncomputable section
namespace Go.Proofs.Ytdkneonokbakjaa.Eng
open Go.RowKit
variable {P : Program} {T : Tab} {W0 : Fix} {R0 : Nat → Prop} {ns : Nat} {D : Nat → Prop} {s : St} {E : Env} {a : Act} {w : World} {m : Tr CB}
theorem writeMp (h : Sim W0 R0 ns D s E a w) (hs : s.mem = mOf m) {id : Nat} {agg : Bool} {kk : List IntKind} {es es' : List (List Int × SV × Nat)} {clock clock' : Nat} (hg : m.get id = some (.mp agg kk es clock)) (hid : id < 2 ^ deep) {ents : Array MapEntry} (hw : w.heap[(E.home id).blk]? = some (.map ents clock)) {ents' : Array MapEntry}
    (hsz : ents'.size = es'.length) (hr : ∀ (j : Nat) q e, es'[j]? = some q → ents'[j]? = some e → e.key = keyVal agg kk q.1 ∧ e.born = q.2.2 ∧ Rep E w q.2.1 e.val) :
    Sim W0 R0 ns D ⟨s.slots, mOf (putM m id (some (.mp agg kk es' clock')))⟩ E a (w.putObj (E.home id).blk (.map ents' clock')) := by
  have hmi : s.mem id = some (CB.den (.mp agg kk es clock)) := by rw [hs]; exact mOf_get hg
  have hro : ¬ E.ro (E.home id).blk := fun k => by have := (h.frz id _ hmi).2 k; cases this
  have hlt : (E.home id).blk < w.heap.size := (Array.getElem?_eq_some_iff.1 hw).1
  have hk : ∀ b, E.ro b → (w.putObj (E.home id).blk (.map ents' clock')).heap[b]? = w.heap[b]? := fun b hb => World.putObj_heap_other fun e => hro (e ▸ hb)
  have key := h.write (b' := CB.den (.mp agg kk es' clock')) hmi rfl rfl (grownBy_putObj' w (E.home id).blk (.map ents' clock')) (.map _ _ _ ents' (World.putObj_heap_same hlt) (by rw [List.length_map, hsz]) fun j q e hq he => by
    rw [List.getElem?_map, Option.map_eq_some_iff] at hq
    obtain ⟨p, hp, rfl⟩ := hq
    obtain ⟨a1, a2, a3⟩ := hr j p e hp he
    exact ⟨a1, a2, a3.keep (Env.le.refl E) hk⟩)
  rw [mOf_put hid, ← hs]
  exact key
def setAt (l : List (List Int × SV × Nat)) (j : Nat) (x : SV) : List (List Int × SV × Nat) := match l, j with
  | [], _ => []
  | q :: l, 0 => (q.1, x, q.2.2) :: l
  | q :: l, j + 1 => q :: setAt l j x
theorem setAt_len : ∀ (l : List (List Int × SV × Nat)) (j : Nat) (x : SV), (setAt l j x).length = l.length
  | [], _, _ => rfl
  | _ :: _, 0, _ => rfl
  | _ :: l, j + 1, x => by simp [setAt, setAt_len l j x]
theorem setAt_get : ∀ (l : List (List Int × SV × Nat)) (j : Nat) (x : SV) (i : Nat), (setAt l j x)[i]? = if i = j then (l[i]?).map fun q => (q.1, x, q.2.2) else l[i]?
  | [], _, _, _ => by simp [setAt]
  | _ :: _, 0, _, 0 => by simp [setAt]
  | _ :: _, 0, _, i + 1 => by simp [setAt]
  | _ :: _, j + 1, _, 0 => by simp [setAt]
  | _ :: l, j + 1, x, i + 1 => by simp [setAt, setAt_get l j x i]
def updC (m : Tr CB) (i : MapI) (x k v : SV) : Option (Tr CB) := match x with
  | .mp id => match m.get id with
    | some (.mp agg kk es clock) => if agg = i.agg ∧ kk = i.kk ∧ es.all (fun q => q.1.length == i.kk.length) = true ∧ Nat.ble id 10000000 = true then match keyOf i k with
        | some l => match findK l (es.map (·.1)) 0 with
          | some j => some (putM m id (some (.mp agg kk (setAt es j v) clock)))
          | none => some (putM m id (some (.mp agg kk (es ++ [(l, v, clock)]) (clock + 1))))
        | none => none
      else none
    | _ => none
  | _ => none
theorem same_aux : ∀ (n : Nat) (ks : List IntKind) (l : List Int), ((List.zipWith Value.int ks l).zip (List.zipWith Value.int ks l)).all (fun (x, y) => Instr.sameBits n x y) = true
  | n, [], l => rfl
  | n, _ :: _, [] => rfl
  | n, k :: ks, x :: l => by
    simp only [List.zipWith_cons_cons, List.zip_cons_cons, List.all_cons, same_aux n ks l, Bool.and_true]
    cases n <;> simp [Instr.sameBits]
theorem same_key (agg : Bool) (kk : List IntKind) (l : List Int) (ho : agg = false → ∃ q, kk = [q]) (hl : l.length = kk.length) : Instr.sameBits 10000 (keyVal agg kk l) (keyVal agg kk l) = true := by
  cases agg with
  | true =>
    show Instr.sameBits (9999 + 1) (.agg _) (.agg _) = true
    rw [Instr.sameBits]
    simp only [beq_self_eq_true, Bool.true_and]
    exact same_aux 9999 kk l
  | false =>
    obtain ⟨q, rfl⟩ := ho rfl
    match l, hl with
    | [n], _ =>
      show Instr.sameBits (9999 + 1) (.int q n) (.int q n) = true
      rw [Instr.sameBits]
      simp
theorem updC_run {M : MTab} (hM : MTabOk P M) (h : Sim W0 R0 ns D s E a w) (hs : s.mem = mOf m) {nid : Nat} {o : Oper} {t : TypeId} {x y z : Operand} (ho : o.op = .mapUpdate t x y z ∨ o.op = .insert t x y z) {i : MapI} (hi : M t = some i) {xv kv vv : SV} {m' : Tr CB} (hu : updC m i xv kv vv = some m') (hx : Rep E w xv (a.eval x)) (hy : Rep E w kv (a.eval y)) (hz : Rep E w vv (a.eval z)) :
    OpW P W0 R0 ns D nid s.slots a w o .und m' := by
  have H := hM t i hi
  have hm : ∀ i b, mOf m i = some b → Holds E w (E.home i) b := fun i b hi => h.mem i b (by rw [hs]; exact hi)
  unfold updC at hu
  split at hu
  · rename_i id
    split at hu
    · rename_i agg kk es clock hg
      split at hu
      · rename_i hc
        obtain ⟨rfl, rfl, hlen, hb⟩ := hc
        have hid := lt_deep hb
        split at hu
        · rename_i l hl
          obtain ⟨ents, h1, h2, h3, h4⟩ := mp_holds hm hg
          obtain ⟨e1, e2⟩ := keyOf_spec H.one hl hy
          obtain ⟨u, hu'⟩ : ∃ u, a.eval x = u := ⟨_, rfl⟩
          rw [hu'] at hx
          cases hx with
          | mp _ hd =>
          have hf := H.find w l ents.toList (es.map (·.1)) e2 (fun q hq => by
            obtain ⟨p, hp, rfl⟩ := List.mem_map.1 hq
            simpa using List.all_eq_true.1 hlen p hp) h3
          have hset : ∀ (es' : Array MapEntry) (c' : Nat), (setObj (E.home id).blk (.map es' c')).run P w = .ok () (w.putObj (E.home id).blk (.map es' c')) := fun es' c' => MapKept.run_setObj_map _ h1
          split at hu
          · rename_i j hj
            cases hu
            obtain ⟨b, hb1, hb2⟩ := findK_lt _ hj
            rw [List.getElem?_map, Option.map_eq_some_iff] at hb1
            obtain ⟨q, hq, hqb⟩ := hb1
            have hjl : j < ents.size := by have := (List.getElem?_eq_some_iff.1 hq).1; omega
            have he := h4 j q _ hq (Array.getElem?_eq_getElem hjl)
            rw [hj] at hf
            simp only [Option.bind_some, Array.getElem?_toList, Array.getElem?_eq_getElem hjl, Option.map_some] at hf
            have hkey : ents[j].key = keyVal i.agg i.kk l := by rw [he.1, hqb, ← hb2]
            have hsame := same_key i.agg i.kk l H.one e2
            have hrun : (execOp a.eval o).run P w = .ok .skip (w.putObj (E.home id).blk (.map (ents.modify j fun e => { e with key := keyVal i.agg i.kk l, val := a.eval z }) clock)) := by
              rcases ho with ho | ho <;> simp [execOp, ho, hu', e1, Instr.mapUpdate, run_underlying H.und, MapKept.run_getObj_map h1, H.check _ w l e2, hf, Instr.keyThatStays, hjl, hkey, hsame, hset]
            refine ⟨E, _, (writeMp h hs hg hid h1 (es' := setAt es j vv) (ents' := ents.modify j fun e => { e with key := keyVal i.agg i.kk l, val := a.eval z }) (by simp [setAt_len, h2]) fun k p e hp hpe => ?_).weak fun i hi => .inr hi, .inr ⟨hrun, rfl⟩⟩
            rw [setAt_get] at hp
            rw [Array.getElem?_modify] at hpe
            by_cases hkj : k = j
            · subst hkj
              rw [if_pos rfl] at hp
              rw [if_pos rfl] at hpe
              rw [hq] at hp
              rw [Array.getElem?_eq_getElem hjl] at hpe
              cases hp; cases hpe
              exact ⟨by rw [hqb, ← hb2], he.2.1, hz⟩
            · rw [if_neg hkj] at hp
              rw [if_neg (Ne.symm hkj)] at hpe
              exact h4 k p e hp hpe
          · rename_i hj
            cases hu
            rw [hj] at hf
            simp only [Option.bind_none] at hf
            have hrun : (execOp a.eval o).run P w = .ok .skip (w.putObj (E.home id).blk (.map (ents.push { key := keyVal i.agg i.kk l, val := a.eval z, born := clock }) (clock + 1))) := by
              rcases ho with ho | ho <;> simp [execOp, ho, hu', e1, Instr.mapUpdate, run_underlying H.und, MapKept.run_getObj_map h1, H.check _ w l e2, hf, hset]
            refine ⟨E, _, (writeMp h hs hg hid h1 (es' := es ++ [(l, vv, clock)]) (ents' := ents.push { key := keyVal i.agg i.kk l, val := a.eval z, born := clock }) (by simp [h2]) fun k p e hp hpe => ?_).weak fun i hi => .inr hi, .inr ⟨hrun, rfl⟩⟩
            by_cases hk : k < es.length
            · rw [List.getElem?_append_left hk] at hp
              rw [Array.getElem?_push, if_neg (by omega)] at hpe
              exact h4 k p e hp hpe
            · rw [List.getElem?_append_right (by omega)] at hp
              have hk0 : k = es.length := by
                have := (List.getElem?_eq_some_iff.1 hp).1
                simp at this
                omega
              subst hk0
              simp at hp
              rw [Array.getElem?_push, if_pos h2.symm] at hpe
              cases hp; cases hpe
              exact ⟨rfl, rfl, hz⟩
        · cases hu
      · cases hu
    · cases hu
  · cases hu
def eraseAt : List (List Int × SV × Nat) → Nat → List (List Int × SV × Nat)
  | [], _ => []
  | _ :: l, 0 => l
  | q :: l, j + 1 => q :: eraseAt l j
theorem eraseAt_eq : ∀ (l : List (List Int × SV × Nat)) (j : Nat), eraseAt l j = l.eraseIdx j
  | [], _ => rfl
  | _ :: _, 0 => rfl
  | q :: l, j + 1 => by simp [eraseAt, eraseAt_eq l j]
def delC (m : Tr CB) (i : MapI) (x k : SV) : Option (Tr CB) := match x with
  | .mp id => match m.get id with
    | some (.mp agg kk es clock) => if agg = i.agg ∧ kk = i.kk ∧ es.all (fun q => q.1.length == i.kk.length) = true ∧ Nat.ble id 10000000 = true then match keyOf i k with
        | some l => match findK l (es.map (·.1)) 0 with
          | some j => some (putM m id (some (.mp agg kk (eraseAt es j) clock)))
          | none => some m
        | none => none
      else none
    | _ => none
  | _ => none
theorem delC_run {M : MTab} (hM : MTabOk P M) (h : Sim W0 R0 ns D s E a w) (hs : s.mem = mOf m) {nid : Nat} {o : Oper} {t t' : TypeId} {x y : Operand} (ho : o.op = .call { callee := .builtin .delete, args := #[x, y], argTypes := #[t, t'] }) {i : MapI} (hi : M t = some i) {xv kv : SV} {m' : Tr CB} (hu : delC m i xv kv = some m') (hx : Rep E w xv (a.eval x)) (hy : Rep E w kv (a.eval y)) :
    OpW P W0 R0 ns D nid s.slots a w o (.tup []) m' := by
  have H := hM t i hi
  have hm : ∀ i b, mOf m i = some b → Holds E w (E.home i) b := fun i b hi => h.mem i b (by rw [hs]; exact hi)
  unfold delC at hu
  split at hu
  · rename_i id
    split at hu
    · rename_i agg kk es clock hg
      split at hu
      · rename_i hc
        obtain ⟨rfl, rfl, hlen, hb⟩ := hc
        have hid := lt_deep hb
        split at hu
        · rename_i l hl
          obtain ⟨ents, h1, h2, h3, h4⟩ := mp_holds hm hg
          obtain ⟨e1, e2⟩ := keyOf_spec H.one hl hy
          obtain ⟨u, hu'⟩ : ∃ u, a.eval x = u := ⟨_, rfl⟩
          rw [hu'] at hx
          cases hx with
          | mp _ hd =>
          have hf := H.find w l ents.toList (es.map (·.1)) e2 (fun q hq => by
            obtain ⟨p, hp, rfl⟩ := List.mem_map.1 hq
            simpa using List.all_eq_true.1 hlen p hp) h3
          have hset : ∀ (es' : Array MapEntry) (c' : Nat), (setObj (E.home id).blk (.map es' c')).run P w = .ok () (w.putObj (E.home id).blk (.map es' c')) := fun es' c' => MapKept.run_setObj_map _ h1
          have exec : ∀ {w' : World}, (Builtin.delete_ #[t, t'] o.type #[.map (some (E.home id).blk), a.eval y]).run P w = .ok (.tuple #[]) w' → (execOp a.eval o).run P w = .ok (.value (.tuple #[])) w' := fun {w'} hr => by
            simp only [execOp, ho, resolve, invoke, builtin, Sem.run_bind, Sem.run_pure, Result.andThen_ok, List.map_toArray, List.map_cons, List.map_nil, hu', hr]
          split at hu
          · rename_i j hj
            cases hu
            obtain ⟨b, hb1, hb2⟩ := findK_lt _ hj
            rw [List.getElem?_map, Option.map_eq_some_iff] at hb1
            obtain ⟨q, hq, hqb⟩ := hb1
            have hjl : j < ents.size := by have := (List.getElem?_eq_some_iff.1 hq).1; omega
            rw [hj] at hf
            simp only [Option.bind_some, Array.getElem?_toList, Array.getElem?_eq_getElem hjl, Option.map_some] at hf
            have hrun := exec (w' := w.putObj (E.home id).blk (.map (ents.eraseIdxIfInBounds j) clock)) (by
              simp [e1, Builtin.delete_, run_underlying H.und, MapKept.run_getObj_map h1, H.check _ w l e2, hf, hset])
            have hel : (ents.eraseIdxIfInBounds j).toList = ents.toList.eraseIdx j := by simp [Array.eraseIdxIfInBounds, hjl]
            refine ⟨E, _, (writeMp h hs hg hid h1 (es' := eraseAt es j) (ents' := ents.eraseIdxIfInBounds j) ?_ fun k p e hp hpe => ?_).weak fun i hi => .inr hi, .inl ⟨_, hrun, .tup [] #[] rfl (by simp)⟩⟩
            · rw [eraseAt_eq, ← Array.length_toList, hel, List.length_eraseIdx, List.length_eraseIdx, Array.length_toList, h2]
            · rw [eraseAt_eq] at hp
              rw [← Array.getElem?_toList, hel] at hpe
              rw [List.getElem?_eraseIdx] at hp hpe
              by_cases hk : k < j
              · rw [if_pos hk] at hp hpe
                exact h4 k p e hp (by simpa using hpe)
              · rw [if_neg hk] at hp hpe
                exact h4 (k + 1) p e hp (by simpa using hpe)
          · rename_i hj
            cases hu
            rw [hj] at hf
            simp only [Option.bind_none] at hf
            have hid2 : w.putObj (E.home id).blk (.map ents clock) = w := by
              have hlt : (E.home id).blk < w.heap.size := (Array.getElem?_eq_some_iff.1 h1).1
              have : w.heap.setIfInBounds (E.home id).blk (.map ents clock) = w.heap := by
                apply Array.ext_getElem?
                intro k
                rw [Array.getElem?_setIfInBounds]
                split
                · rename_i e; subst e; simp [hlt, h1] at *; exact h1.symm
                · rfl
              simp only [World.putObj, this]
            have hrun := exec (w' := w) (by
              have := hset ents clock
              rw [hid2] at this
              simp [e1, Builtin.delete_, run_underlying H.und, MapKept.run_getObj_map h1, H.check _ w l e2, hf, this])
            refine ⟨E, w, ?_, .inl ⟨_, hrun, .tup [] #[] rfl (by simp)⟩⟩
            rw [← hs]
            exact h.weak fun i hi => .inr hi
        · cases hu
      · cases hu
    · cases hu
  · cases hu
end Go.Proofs.Ytdkneonokbakjaa.Eng

namespace Go.Proofs.Ytdkneonokbakjaa.Eng
open Go.RowKit
variable {P : Program} {T : Tab} {r : Option Nat} {ns n : Nat} {s : St}
abbrev mapB (i : MapI) (es : List (List Int × SV × Nat)) (clock : Nat) : Blk := .map (es.map fun q => (keyVal i.agg i.kk q.1, q.2)) clock false
theorem stepI_delete {M : MTab} (hM : MTabOk P M) {o : Oper} {x y : Operand} {t t' : TypeId} (ho : o.op = .call { callee := .builtin .delete, args := #[x, y], argTypes := #[t, t'] }) {i : MapI} (hi : M t = some i) {id clock : Nat} {es : List (List Int × SV × Nat)} {kv : SV} {l : List Int} {j : Nat}
    (hx : opd ns s x = some (.mp id)) (hm : s.mem id = some (mapB i es clock)) (hy : opd ns s y = some kv) (hl : keyOf i kv = some l) (hlen : es.all (fun q => q.1.length == i.kk.length) = true) (hj : findK l (es.map (·.1)) 0 = some j) :
    StepI P r ns n s o fun n' s' => n' = n ∧ s' = { slots := setSlot s.slots o.dst (.tup []), mem := setMem s.mem id (some (mapB i (es.eraseIdx j) clock)) } := by
  intro W0 R0 B E a w hin h hd K Q hK
  refine oper_in (fun c e => by rw [ho] at e; cases e) ?_
  have H := hM t i hi
  obtain ⟨u, hu⟩ : ∃ u, a.eval x = u := ⟨_, rfl⟩
  have hr := h.opd hx
  rw [hu] at hr
  obtain ⟨e1, e2⟩ := keyOf_spec H.one hl (h.opd hy)
  cases hr with
  | mp _ hdm =>
    have Hb := h.mem id _ hm
    cases Hb with
    | map _ _ _ ents h1 h2 h3 =>
      rw [List.length_map] at h2
      have h4 : ∀ (j : Nat) q e, es[j]? = some q → ents[j]? = some e → e.key = keyVal i.agg i.kk q.1 ∧ e.born = q.2.2 ∧ Rep E w q.2.1 e.val := fun j q e hq he => h3 j (keyVal i.agg i.kk q.1, q.2) e (by rw [List.getElem?_map, hq]; rfl) he
      have hks : ents.toList.map (·.key) = (es.map (·.1)).map (keyVal i.agg i.kk) := by
        apply List.ext_getElem?
        intro j
        simp only [List.getElem?_map, Array.getElem?_toList]
        by_cases hj : j < es.length
        · rw [List.getElem?_eq_getElem hj, Array.getElem?_eq_getElem (show j < ents.size by omega)]
          simp only [Option.map_some]
          rw [(h4 j _ _ (List.getElem?_eq_getElem hj) (Array.getElem?_eq_getElem (show j < ents.size by omega))).1]
        · rw [List.getElem?_eq_none (by omega), Array.getElem?_eq_none (by omega)]
          rfl
      have hf := H.find w l ents.toList (es.map (·.1)) e2 (fun q hq => by
        obtain ⟨p, hp, rfl⟩ := List.mem_map.1 hq
        simpa using List.all_eq_true.1 hlen p hp) hks
      obtain ⟨b, hb1, hb2⟩ := findK_lt _ hj
      rw [List.getElem?_map, Option.map_eq_some_iff] at hb1
      obtain ⟨q, hq, hqb⟩ := hb1
      have hjl : j < ents.size := by have := (List.getElem?_eq_some_iff.1 hq).1; omega
      rw [hj] at hf
      simp only [Option.bind_some, Array.getElem?_toList, Array.getElem?_eq_getElem hjl, Option.map_some] at hf
      have hset : ∀ (es' : Array MapEntry) (c' : Nat), (setObj (E.home id).blk (.map es' c')).run P w = .ok () (w.putObj (E.home id).blk (.map es' c')) := fun es' c' => MapKept.run_setObj_map _ h1
      have hel : (ents.eraseIdxIfInBounds j).toList = ents.toList.eraseIdx j := by simp [Array.eraseIdxIfInBounds, hjl]
      have hrun : (execOp a.eval o).run P w = .ok (.value (.tuple #[])) (w.putObj (E.home id).blk (.map (ents.eraseIdxIfInBounds j) clock)) := by
        have h0 : (Builtin.delete_ #[t, t'] o.type #[.map (some (E.home id).blk), a.eval y]).run P w = .ok (.tuple #[]) (w.putObj (E.home id).blk (.map (ents.eraseIdxIfInBounds j) clock)) := by
          simp [e1, Builtin.delete_, run_underlying H.und, MapKept.run_getObj_map h1, H.check _ w l e2, hf, hset]
        simp only [execOp, ho, resolve, invoke, builtin, Sem.run_bind, Sem.run_pure, Result.andThen_ok, List.map_toArray, List.map_cons, List.map_nil, hu, h0]
      unfold Oper.wp
      rw [hrun]
      have hlt2 : (E.home id).blk < w.heap.size := (Array.getElem?_eq_some_iff.1 h1).1
      have hg : w.grownBy (w.putObj (E.home id).blk (.map (ents.eraseIdxIfInBounds j) clock)) (some (E.home id).blk) :=
        ⟨rfl, rfl, rfl, by simp [World.putObj], fun k hk hne => by
          simp only [World.putObj]
          rw [Array.getElem?_setIfInBounds_ne (fun e => hne (by rw [e]))]⟩
      have hself : (w.putObj (E.home id).blk (.map (ents.eraseIdxIfInBounds j) clock)).heap[(E.home id).blk]? = some (.map (ents.eraseIdxIfInBounds j) clock) := by
        simp [World.putObj, hlt2]
      have hrw : ∀ b, E.ro b → (w.putObj (E.home id).blk (.map (ents.eraseIdxIfInBounds j) clock)).heap[b]? = w.heap[b]? := fun b hb => hg.block b (h.rlt b hb) fun e => by
        have := (h.frz id _ hm).2 (Option.some.inj e ▸ hb)
        simp [Blk.frz] at this
      have key := h.write (b' := mapB i (es.eraseIdx j) clock) hm rfl rfl hg (.map _ _ _ (ents.eraseIdxIfInBounds j) hself (by
        rw [List.length_map, ← Array.length_toList, hel, List.length_eraseIdx, List.length_eraseIdx, Array.length_toList, h2]) fun k p e hp hpe => by
        rw [List.getElem?_map, Option.map_eq_some_iff] at hp
        obtain ⟨p', hp', rfl⟩ := hp
        rw [← Array.getElem?_toList, hel] at hpe
        rw [List.getElem?_eraseIdx] at hp' hpe
        have fin : ∀ k, es[k]? = some p' → ents.toList[k]? = some e → e.key = keyVal i.agg i.kk p'.1 ∧ e.born = p'.2.2 ∧ Rep E (w.putObj (E.home id).blk (.map (ents.eraseIdxIfInBounds j) clock)) p'.2.1 e.val := fun k a1 a2 => by
          obtain ⟨k1, k2, k3⟩ := h4 k p' e a1 (by rw [← Array.getElem?_toList]; exact a2)
          exact ⟨k1, k2, k3.keep (Env.le.refl E) hrw⟩
        by_cases hk : k < j
        · rw [if_pos hk] at hp' hpe
          exact fin k hp' hpe
        · rw [if_neg hk] at hp' hpe
          exact fin (k + 1) hp' hpe)
      exact hK n _ E _ _ ⟨rfl, rfl⟩ (key.put hd (.tup [] #[] rfl (by simp)))
theorem ExecI.delete {M : MTab} (hM : MTabOk P M) {ops : Array Oper} {o : Oper} {lo : List Oper} {Q : Nat → St → Prop} {x y : Operand} {t t' : TypeId} {i : MapI} {id clock : Nat} {es : List (List Int × SV × Nat)} {kv : SV} {l : List Int} {j : Nat} (hg : guardS ops ns s o = some true) (ho : o.op = .call { callee := .builtin .delete, args := #[x, y], argTypes := #[t, t'] }) (hi : M t = some i)
    (hx : opd ns s x = some (.mp id)) (hm : s.mem id = some (mapB i es clock)) (hy : opd ns s y = some kv) (hl : keyOf i kv = some l) (hlen : es.all (fun q => q.1.length == i.kk.length) = true) (hj : findK l (es.map (·.1)) 0 = some j)
    (h : ExecI P r T ops ns n lo { slots := setSlot s.slots o.dst (.tup []), mem := setMem s.mem id (some (mapB i (es.eraseIdx j) clock)) } Q) : ExecW P r T ops ns n (o :: lo) s Q :=
  ExecI.callG hg (by rw [ho]; rfl) (stepI_delete hM ho hi hx hm hy hl hlen hj) fun n' s' ⟨e1, e2⟩ => by subst e1; subst e2; exact h
theorem erase_key : ∀ {es : List (List Int × SV × Nat)} {q : List Int × SV × Nat}, q ∈ es → (es.map (·.1)).Nodup → ∃ j, findK q.1 (es.map (·.1)) 0 = some j ∧ es.eraseIdx j = es.filter fun p => p.1 ≠ q.1
  | p :: es, q, hq, hn => by
    rw [List.map_cons, List.nodup_cons] at hn
    have hne : ∀ x ∈ es, x.1 ≠ p.1 := fun x hx e => hn.1 (e ▸ List.mem_map.2 ⟨x, hx, rfl⟩)
    by_cases h : q.1 = p.1
    · refine ⟨0, by rw [List.map_cons, findK_cons, if_pos h], ?_⟩
      rw [List.eraseIdx_cons_zero, List.filter_cons, if_neg (by simp [h]), List.filter_eq_self.2 fun x hx => by simpa [h] using hne x hx]
    · have hq' : q ∈ es := by
        rcases List.mem_cons.1 hq with rfl | hq
        · exact absurd rfl h
        · exact hq
      obtain ⟨j, h1, h2⟩ := erase_key hq' hn.2
      refine ⟨j + 1, by rw [List.map_cons, findK_cons, if_neg h, findK_off, h1]; rfl, ?_⟩
      rw [List.eraseIdx_cons_succ, h2, List.filter_cons, if_pos (by simp [Ne.symm h])]
end Go.Proofs.Ytdkneonokbakjaa.Eng

noncomputable section
namespace Go.Proofs.Ytdkneonokbakjaa.Eng
open Go.RowKit
variable {P : Program} {E : Env} {w : World}
inductive CK where
  | int (k : IntKind)
  | bool
def okLit : CK → Lit → Bool
  | .int k, .int k' n => decide (k' = k) && (Lit.int k n).wf
  | .bool, .bool _ => true
  | _, _ => false
def Conf (per : List CK) (ls : List Lit) : Prop := ∀ (k : Nat) l, ls[k]? = some l → ∃ c, per[k % per.length]? = some c ∧ okLit c l = true
def KL (P : Program) (d : Nat) (t : TypeId) (per : List CK) (n : Nat) : Prop := ∀ ls : List Lit, ls.length = n → Conf per ls → P.keyLits d t (ls.map Lit.value) = some ls
theorem kl_int {t : TypeId} {q : IntKind} (h : P.underlying t = some (.int q)) (d : Nat) : KL P (d + 1) t [.int q] 1 := fun ls hl hc => by
  match ls, hl with
  | [l], _ =>
    obtain ⟨c, h1, h2⟩ := hc 0 l rfl
    simp at h1
    subst h1
    cases l <;> simp [okLit] at h2
    obtain ⟨rfl, hw⟩ := h2
    simp [Program.keyLits, h, Lit.value, hw]
theorem kl_struct2 {t : TypeId} {f0 f1 : Field} {c0 c1 : CK} {d : Nat} (h : P.underlying t = some (.struct #[f0, f1])) (ht : P.cellsOf t = 2) (h0 : KL P d f0.type [c0] 1) (h1 : KL P d f1.type [c1] 1) (n0 : f0.name ≠ "_") (n1 : f1.name ≠ "_") (o0 : f0.offset = 0) (o1 : f1.offset = 1) (z0 : P.cellsOf f0.type = 1) (z1 : P.cellsOf f1.type = 1) : KL P (d + 1) t [c0, c1] 2 := fun ls hl hc => by
  match ls, hl with
  | [a, b], _ =>
    obtain ⟨x, q1, q2⟩ := hc 0 a rfl
    obtain ⟨y, q3, q4⟩ := hc 1 b rfl
    simp at q1 q3
    subst q1; subst q3
    have e0 := h0 [a] rfl fun k l hk => by
      match k with
      | 0 => simp at hk; subst hk; exact ⟨_, rfl, q2⟩
      | k + 1 => simp at hk
    have e1 := h1 [b] rfl fun k l hk => by
      match k with
      | 0 => simp at hk; subst hk; exact ⟨_, rfl, q4⟩
      | k + 1 => simp at hk
    simp only [List.map_cons, List.map_nil] at e0 e1
    simp [Program.keyLits, h, ht, n0, n1, o0, o1, z0, z1, e0, e1]
theorem mapM_some {α β : Type} {f : α → Option β} {g : α → β} : ∀ (l : List α), (∀ x ∈ l, f x = some (g x)) → l.mapM f = some (l.map g)
  | [], _ => rfl
  | x :: l, h => by simp [List.mapM_cons, h x List.mem_cons_self, mapM_some l fun y hy => h y (List.mem_cons_of_mem _ hy)]
theorem chunks (z : Nat) : ∀ (n : Nat) (ls : List Lit), ls.length = n * z → ((List.range n).map fun i => (ls.drop (i * z)).take z).flatten = ls
  | 0, ls, h => by
    have : ls = [] := List.eq_nil_of_length_eq_zero (by simpa using h)
    simp [this]
  | n + 1, ls, h => by
    rw [List.range_succ_eq_map, List.map_cons, List.map_map, List.flatten_cons]
    have ih := chunks z n (ls.drop z) (by rw [List.length_drop, h, Nat.add_mul, Nat.one_mul]; omega)
    have e : ((fun i => (ls.drop (i * z)).take z) ∘ Nat.succ) = fun i => ((ls.drop z).drop (i * z)).take z := by
      funext i
      simp only [Function.comp, List.drop_drop, Nat.succ_eq_add_one, Nat.add_mul, Nat.one_mul]
      congr 2
      omega
    rw [e, ih, Nat.zero_mul, List.drop_zero, List.take_append_drop]
theorem kl_array {t e : TypeId} {n d : Nat} {per : List CK} (h : P.underlying t = some (.array n e)) (ht : P.cellsOf t = n * per.length) (hz : P.cellsOf e = per.length) (he : KL P d e per per.length) : KL P (d + 1) t per (n * per.length) := fun ls hl hc => by
  have hm : ((List.range n).mapM fun i => P.keyLits d e (((ls.map Lit.value).drop (i * per.length)).take per.length)) = some ((List.range n).map fun i => (ls.drop (i * per.length)).take per.length) := by
    refine mapM_some _ fun i hi => ?_
    have hin := List.mem_range.1 hi
    rw [← List.map_drop, ← List.map_take]
    have hlt : (i + 1) * per.length ≤ n * per.length := Nat.mul_le_mul_right _ hin
    rw [Nat.add_mul, Nat.one_mul] at hlt
    refine he _ (by simp; omega) fun k l hk => ?_
    rw [List.getElem?_take] at hk
    split at hk
    · rename_i hkl
      rw [List.getElem?_drop] at hk
      obtain ⟨c, h1, h2⟩ := hc _ l hk
      refine ⟨c, ?_, h2⟩
      rw [Nat.mod_eq_of_lt hkl]
      rwa [Nat.mul_comm i, Nat.mul_add_mod, Nat.mod_eq_of_lt hkl] at h1
    · cases hk
  have hlen : (ls.map Lit.value).length = P.cellsOf t := by simp [hl, ht]
  simp only [Program.keyLits, h, hlen, if_true, hz, hm, Option.map_some, chunks per.length n ls hl]
structure BigT where
  per : List CK
  n : Nat
structure BigOk (P : Program) (t : TypeId) (b : BigT) : Prop where
  kl : KL P 7 t b.per b.n
  key : P.keyTypeAt 6 t = true
  guard : P.eqGuardType P.depth t = false
  formed : ∀ xs : List Value, xs.length = b.n → (Value.agg xs.toArray).formed P t = true
abbrev QTab := TypeId → Option BigT
def QTabOk (P : Program) (Q : QTab) : Prop := ∀ t b, Q t = some b → BigOk P t b
def okCell : CK → SV → Option Lit
  | .int k, .d (.val (.int k' n)) => if k' = k ∧ (Lit.int k n).wf = true then some (.int k n) else none
  | .bool, .d (.val (.bool b)) => some (.bool b)
  | _, _ => none
def same : Lit → Lit → Bool
  | .int _ a, .int _ b => decide (a = b)
  | .bool a, .bool b => a == b
  | _, _ => false
def cmpL (per : List CK) : Nat → List SV → List SV → Option Bool
  | _, [], [] => some true
  | i, x :: l, y :: k => match per[i % per.length]? with
    | some c => match okCell c x, okCell c y with
      | some a, some b => match cmpL per (i + 1) l k with
        | some r => some (same a b && r)
        | none => none
      | _, _ => none
    | none => none
  | _, _, _ => none
theorem okCell_spec {c : CK} {x : SV} {l : Lit} (h : okCell c x = some l) : okLit c l = true ∧ x = .d (.val l.value) := by
  unfold okCell at h
  split at h
  · split at h
    · rename_i hc; cases h; obtain ⟨rfl, hw⟩ := hc; exact ⟨by simp [okLit, hw], rfl⟩
    · cases h
  · cases h; exact ⟨rfl, rfl⟩
  · cases h
theorem same_iff {c : CK} {a b : Lit} (ha : okLit c a = true) (hb : okLit c b = true) : same a b = true ↔ a = b := by
  cases c <;> cases a <;> simp [okLit] at ha <;> cases b <;> simp [okLit] at hb <;> simp_all [same]
theorem cmpL_spec {per : List CK} : ∀ {i : Nat} {xs ys : List SV} {r : Bool}, cmpL per i xs ys = some r → ∃ la lb : List Lit, xs = la.map (fun l => .d (.val l.value)) ∧ ys = lb.map (fun l => .d (.val l.value)) ∧
    (∀ (k : Nat) l, la[k]? = some l → ∃ c, per[(i + k) % per.length]? = some c ∧ okLit c l = true) ∧ (∀ (k : Nat) l, lb[k]? = some l → ∃ c, per[(i + k) % per.length]? = some c ∧ okLit c l = true) ∧ (r = true ↔ la = lb)
  | _, [], [], r, h => by cases h; exact ⟨[], [], rfl, rfl, by simp, by simp, by simp⟩
  | i, x :: xs, y :: ys, r, h => by
    simp only [cmpL] at h
    split at h
    · rename_i c hc
      split at h
      · rename_i a b ha hb
        split at h
        · rename_i r' hr
          cases h
          obtain ⟨la, lb, e1, e2, e3, e4, e5⟩ := cmpL_spec hr
          obtain ⟨a1, a2⟩ := okCell_spec ha
          obtain ⟨b1, b2⟩ := okCell_spec hb
          refine ⟨a :: la, b :: lb, by rw [a2, e1]; rfl, by rw [b2, e2]; rfl, fun k l hk => ?_, fun k l hk => ?_, ?_⟩
          · match k with
            | 0 => simp at hk; subst hk; exact ⟨c, by rw [Nat.add_zero]; exact hc, a1⟩
            | k + 1 => rw [show i + (k + 1) = i + 1 + k by omega]; exact e3 k l (by simpa using hk)
          · match k with
            | 0 => simp at hk; subst hk; exact ⟨c, by rw [Nat.add_zero]; exact hc, b1⟩
            | k + 1 => rw [show i + (k + 1) = i + 1 + k by omega]; exact e4 k l (by simpa using hk)
          · rw [Bool.and_eq_true, e5, same_iff a1 b1, List.cons.injEq]
        · cases h
      · cases h
    · cases h
  | _, [], _ :: _, r, h => by simp [cmpL] at h
  | _, _ :: _, [], r, h => by simp [cmpL] at h
theorem rep_valEq {v u : Value} (h : Rep E w (.d (.val v)) u) : u = v := by
  cases h with | d _ _ h => cases h; rfl
theorem lits_rep {us : List Value} {la : List Lit} {cs : List SV} (he : cs = la.map fun l => .d (.val l.value)) (hl : us.length = cs.length) (hr : ∀ (i : Nat) c v, cs[i]? = some c → us[i]? = some v → Rep E w c v) : us = la.map Lit.value := by
  subst he
  apply List.ext_getElem?
  intro i
  simp only [List.getElem?_map]
  rw [List.length_map] at hl
  by_cases hi : i < la.length
  · have hu : i < us.length := by omega
    have h1 := rep_valEq (hr i (.d (.val la[i].value)) us[i] (by simp [hi]) (List.getElem?_eq_getElem hu))
    rw [List.getElem?_eq_getElem hi, List.getElem?_eq_getElem hu, h1]
    rfl
  · rw [List.getElem?_eq_none (by omega), List.getElem?_eq_none (by omega)]
    rfl
def bigEq (Q : QTab) (op : BinOp) (t : TypeId) (x y : SV) : Option SV :=
  match Q t with
  | some b => if x.one = false ∧ y.one = false ∧ x.fit = true ∧ y.fit = true ∧ x.cells.length = b.n ∧ y.cells.length = b.n then
      match cmpL b.per 0 x.cells y.cells with
      | some r => match op with
        | .eql => some (.d (.val (.bool r)))
        | .neq => some (.d (.val (.bool (!r))))
        | _ => none
      | none => none
    else none
  | none => none
theorem bigEq_run {Q : QTab} (hQ : QTabOk P Q) {op : BinOp} {t : TypeId} {x y r : SV} {u v : Value} (h : bigEq Q op t x y = some r) (hx : Rep E w x u) (hy : Rep E w y v) (p q : Operand) :
    ∃ z, (do eqGuard op t p q u v; binOp op t u v : Sem Value).run P w = .ok z w ∧ Rep E w r z := by
  unfold bigEq at h
  split at h
  · rename_i b hb
    have H := hQ t b hb
    split at h
    · rename_i hc
      obtain ⟨c1, c2, c3, c4, c5, c6⟩ := hc
      split at h
      · rename_i r' hr
        obtain ⟨la, lb, e1, e2, e3, e4, e5⟩ := cmpL_spec hr
        obtain ⟨us, rfl, a1, a2, a3⟩ := agg_of hx c1 c3
        obtain ⟨vs, rfl, b1, b2, b3⟩ := agg_of hy c2 c4
        have g1 := lits_rep (us := us.toList) e1 (by simpa using a1) fun i c v hc hv => a3 i c v hc (by simpa using hv)
        have g2 := lits_rep (us := vs.toList) e2 (by simpa using b1) fun i c v hc hv => b3 i c v hc (by simpa using hv)
        have n1 : la.length = b.n := by rw [← c5, e1, List.length_map]
        have n2 : lb.length = b.n := by rw [← c6, e2, List.length_map]
        have k1 := H.kl la n1 fun k l hk => by simpa using e3 k l hk
        have k2 := H.kl lb n2 fun k l hk => by simpa using e4 k l hk
        have f1 := H.formed us.toList (by rw [g1, List.length_map, n1])
        have f2 := H.formed vs.toList (by rw [g2, List.length_map, n2])
        rw [Array.toArray_toList] at f1 f2
        obtain ⟨b', hb', hiff⟩ := run_equalIn_deep (10000 - 6) 6 t H.key w 7 7 (.agg us) (.agg vs) la lb f1 f2 (by simpa only [Value.cells, g1] using k1) (by simpa only [Value.cells, g2] using k2)
        have hb2 : (Op.equal t (.agg us) (.agg vs)).run P w = .ok b' w := hb'
        have hbd : b' = r' := by
          cases b' <;> cases r' <;> simp_all
        obtain ⟨q1, q2⟩ := agg_eq_run w p q us vs b' H.guard hb2
        split at h
        · cases h; exact ⟨_, q1, by rw [hbd]; exact rep_val rfl⟩
        · cases h; exact ⟨_, q2, by rw [hbd]; exact rep_val rfl⟩
        · cases h
      · cases h
    · cases h
  · cases h
end Go.Proofs.Ytdkneonokbakjaa.Eng

noncomputable section
namespace Go.Proofs.Ytdkneonokbakjaa.Eng
open Go.RowKit
variable {P : Program} {T : Tab} {M : MTab} {W0 : Fix} {R0 : Nat → Prop} {ns : Nat} {D : Nat → Prop} {s : St} {E : Env} {a : Act} {w : World} {m : Tr CB}
def bnd (ev : Operand → Option SV) : Option Operand → Option (Option Int)
  | none => some none
  | some x => match intOp (ev x) with
    | some (_, k) => some (some k)
    | none => none
theorem bnd_Bd {ev : Operand → Option SV} {ρ : Operand → Value} (hev : ∀ x v, ev x = some v → Rep E w v (ρ x)) {x : Option Operand} {k : Option Int} (h : bnd ev x = some k) : Bd k (x.map ρ) := by
  unfold bnd at h
  split at h
  · cases h; exact .none
  · rename_i x
    split at h
    · rename_i q n hq
      cases h
      rw [Option.map_some, rep_int (hev x _ (intOp_eq hq))]
      exact .some q n
    · cases h
def lenC (T : Tab) (ev : Operand → Option SV) (x : Operand) (t : TypeId) : Option SV := match T t, ev x with
  | some i, some (.sl _ _ n _) => match i.kind with
    | .slice _ => some (.d (.val (.int .i64 n)))
    | _ => none
  | _, _ => none
def capC (T : Tab) (ev : Operand → Option SV) (x : Operand) (t : TypeId) : Option SV := match T t, ev x with
  | some i, some .nilS => match i.kind with
    | .slice _ => some (.d (.val (.int .i64 0)))
    | _ => none
  | some i, some (.sl _ _ _ (some c)) => match i.kind with
    | .slice _ => some (.d (.val (.int .i64 c)))
    | _ => none
  | _, _ => none
def xR (T : Tab) (Q : QTab) (M : MTab) (m : Tr CB) (ev : Operand → Option SV) : Op → Option SV
  | .build t ps => match T t, evParts ev ps.toList with
    | some i, some l => if knownB T i = true then (fillSV (placeOf T i) (i.zero.map cSV) l).map fun c => .agg c else none
    | _, _ => none
  | .load t x => match T t, ev x with
    | some i, some v => loadC m i v
    | _, _ => none
  | .indexAddr t x ix => match T t, ev x, intOp (ev ix) with
    | some i, some v, some (_, k) => indexC T i k v
    | _, _, _ => none
  | .slice t x lo hi mx => match T t, ev x, bnd ev lo, bnd ev hi, bnd ev mx with
    | some i, some v, some l, some h, some k => sliceC T i v l h k
    | _, _, _, _, _ => none
  | .lookup t x ix ok => match M t, ev x, ev ix with
    | some i, some v, some k => lookC m i v k ok
    | _, _, _ => none
  | .call c => match c.callee, c.args.toList, c.argTypes.toList with
    | .builtin .len, [x], [t] => match lenC T ev x t with
      | some r => some r
      | none => aopR T (mOf m) ev (.call c)
    | .builtin .cap, [x], [t] => match capC T ev x t with
      | some r => some r
      | none => aopR T (mOf m) ev (.call c)
    | _, _, _ => aopR T (mOf m) ev (.call c)
  | .binOp op t x y ty => match aopR T (mOf m) ev (.binOp op t x y ty) with
    | some r => some r
    | none => match ev x, ev y with
      | some u, some v => match op with
        | .shl | .shr => none
        | _ => bigEq Q op t u v
      | _, _ => none
  | op => aopR T (mOf m) ev op
theorem xR_run {Q : QTab} (hT : TabOk P T) (hQ : QTabOk P Q) (hM : MTabOk P M) {ev : Operand → Option SV} {ρ : Operand → Value} (hev : ∀ x v, ev x = some v → Rep E w v (ρ x)) (hm : ∀ i b, mOf m i = some b → Holds E w (E.home i) b) {o : Oper} {r : SV} (h : xR T Q M m ev o.op = some r) :
    ∃ v, (execOp ρ o).run P w = .ok (.value v) w ∧ Rep E w r v := by
  unfold xR at h
  split at h
  · rename_i t ps ho
    split at h
    · rename_i i l hi hl
      split at h
      · rename_i hkn
        rw [Option.map_eq_some_iff] at h
        obtain ⟨c, hc, rfl⟩ := h
        obtain ⟨p1, p2⟩ := evParts_rep (w := w) (E := E) hev hl
        obtain ⟨z, hz, hr⟩ := build_run (w := w) (E := E) hT hi hkn (ps := ps.map fun (i, x) => (i, ρ x)) (by simpa using p1) (fun j p q hp hq => p2 j p q hp (by simpa using hq)) hc
        exact ⟨z, by simp only [execOp, ho, Sem.run_bind, hz, Result.andThen_ok]; rfl, hr⟩
      · cases h
    · cases h
  · rename_i t x ho
    split at h
    · rename_i i v hi hx
      obtain ⟨z, hz, hr⟩ := loadC_run hT hm hi h (hev x v hx)
      exact ⟨z, by simp [execOp, ho, hz], hr⟩
    · cases h
  · rename_i t x ix ho
    split at h
    · rename_i i v ik k hi hx hix
      have e := rep_int (hev ix _ (intOp_eq hix))
      obtain ⟨z, hz, hr⟩ := indexC_run (ik := ik) hT hi h (hev x v hx)
      exact ⟨z, by simp [execOp, ho, e, hz], hr⟩
    · cases h
  · rename_i t x lo hi_ mx ho
    split at h
    · rename_i i v l hh k hi hx h1 h2 h3
      obtain ⟨z, hz, hr⟩ := sliceC_run hT hi (bnd_Bd hev h1) (bnd_Bd hev h2) (bnd_Bd hev h3) h (hev x v hx)
      exact ⟨z, by simp [execOp, ho, hz], hr⟩
    · cases h
  · rename_i t x ix ok ho
    split at h
    · rename_i i v k hi hx hk
      obtain ⟨z, hz, hr⟩ := lookC_run hM hm hi h (hev x v hx) (hev ix k hk)
      exact ⟨z, by simp [execOp, ho, hz], hr⟩
    · cases h
  · rename_i c ho
    have fall : aopR T (mOf m) ev (.call c) = some r → ∃ v, (execOp ρ o).run P w = .ok (.value v) w ∧ Rep E w r v := fun h => by
      rw [← ho] at h
      exact aopR_run hT hev hm h
    split at h
    · rename_i x t hc ha ht
      split at h
      · rename_i r' hl
        cases h
        unfold lenC at hl
        split at hl
        · rename_i i id off n cp hi hx
          split at hl
          · rename_i e hk
            cases hl
            have hr := hev x _ hx
            obtain ⟨u, hu⟩ : ∃ u, ρ x = u := ⟨_, rfl⟩
            rw [hu] at hr
            cases hr with
            | sl _ _ _ _ q0 k hd hk1 _ hn =>
              have args : c.args = #[x] := by rw [← Array.toArray_toList (xs := c.args), ha]
              have tys : c.argTypes = #[t] := by rw [← Array.toArray_toList (xs := c.argTypes), ht]
              exact ⟨_, by simp [execOp, ho, resolve, hc, args, tys, hu, invoke, builtin, Builtin.len_, run_underlying (slice_und (hT t i hi) hk), goInt], rep_val rfl⟩
          · cases hl
        · cases hl
      · exact fall h
    · rename_i x t hc ha ht
      have args : c.args = #[x] := by rw [← Array.toArray_toList (xs := c.args), ha]
      have tys : c.argTypes = #[t] := by rw [← Array.toArray_toList (xs := c.argTypes), ht]
      split at h
      · rename_i r' hl
        cases h
        unfold capC at hl
        split at hl
        · rename_i i hi hx
          split at hl
          · rename_i e hk
            cases hl
            have hr := hev x _ hx
            obtain ⟨u, hu⟩ : ∃ u, ρ x = u := ⟨_, rfl⟩
            rw [hu] at hr
            cases hr
            exact ⟨_, by simp [execOp, ho, resolve, hc, args, tys, hu, invoke, builtin, Builtin.cap_, run_underlying (slice_und (hT t i hi) hk), goInt], rep_val rfl⟩
          · cases hl
        · rename_i i id off n cp hi hx
          split at hl
          · rename_i e hk
            cases hl
            have hr := hev x _ hx
            obtain ⟨u, hu⟩ : ∃ u, ρ x = u := ⟨_, rfl⟩
            rw [hu] at hr
            cases hr with
            | sl _ _ _ _ q0 k hd hk1 _ hn =>
              replace hk1 := hk1 (.inr (by simp))
              simp only [Option.getD_some] at hk1
              subst hk1
              exact ⟨_, by simp [execOp, ho, resolve, hc, args, tys, hu, invoke, builtin, Builtin.cap_, run_underlying (slice_und (hT t i hi) hk), goInt], rep_val rfl⟩
          · cases hl
        · cases hl
      · exact fall h
    · exact fall h
  · rename_i op t x y ty ho
    split at h
    · rename_i r' hr
      cases h
      rw [← ho] at hr
      exact aopR_run hT hev hm hr
    · split at h
      · rename_i u v h1 h2
        have key : bigEq Q op t u v = some r := by
          split at h
          · cases h
          · cases h
          · exact h
        obtain ⟨z, hz, hr⟩ := bigEq_run hQ key (hev x u h1) (hev y v h2) x y
        refine ⟨z, ?_, hr⟩
        simp only [execOp, ho, Sem.run_bind] at hz ⊢
        rw [hz]
        simp
      · cases h
  · exact aopR_run hT hev hm h
def free (m : Tr CB) (nid : Nat) : Bool := Nat.ble nid 10000000 && (m.get nid).isNone
def noRoom : SV → Nat → Bool
  | .nilS, _ => true
  | .sl _ _ n (some c), k => Nat.ble (c + 1) (n + k)
  | _, _ => false
def appC (T : Tab) (m : Tr CB) (nid : Nat) (ev : Operand → Option SV) (x y : Operand) (t t' : TypeId) : Option (SV × Tr CB) := match T t, ev x, ev y with
  | some i, some sv, some xv => match i.kind with
    | .slice e => match T e with
      | some ie => match readC m ie.size sv, readC m ie.size xv with
        | some os, some xs => if t' = t ∧ free m nid = true ∧ 0 < lenOf' xv ∧ fitsB (lenOf' sv + lenOf' xv) ie.bytes = true then match noRoom sv (lenOf' xv) with
            | true => some (.sl nid 0 (lenOf' sv + lenOf' xv) none, putM m nid (some (.bx (some ie.size) e (os ++ xs).length (os ++ xs) .lf false)))
            | false => match unkRoom m e ie.size sv with
              | some id => some (.sl nid 0 (lenOf' sv + lenOf' xv) none, putM (putM m id none) nid (some (.bx (some ie.size) e (os ++ xs).length (os ++ xs) .lf false)))
              | none => none
            else none
        | _, _ => none
      | none => none
    | _ => none
  | _, _, _ => none
def appZ (T : Tab) (m : Tr CB) (nid : Nat) (ev : Operand → Option SV) (x y : Operand) (t t' : TypeId) : Option (SV × Tr CB) := match T t, T t', ev x, ev y with
  | some i, some i', some .nilS, some (.d (.val (.int _ n))) => match i.kind, i'.kind with
    | .slice e, .int _ => match T e with
      | some ie => if free m nid = true ∧ 0 < n ∧ fitsB n.toNat ie.bytes = true then some (.sl nid 0 n.toNat none, putM m nid (some (.bx (some ie.size) e (zerosC ie (n.toNat * ie.size)).length (zerosC ie (n.toNat * ie.size)) .lf false))) else none
      | none => none
    | _, _ => none
  | _, _, _, _ => none
def appD (T : Tab) (m : Tr CB) (nid : Nat) (ev : Operand → Option SV) (x y : Operand) (t t' : TypeId) : Option (SV × Tr CB) := match appZ T m nid ev x y t t' with
  | some r => some r
  | none => appC T m nid ev x y t t'
def copC (T : Tab) (m : Tr CB) (ev : Operand → Option SV) (x y : Operand) (t : TypeId) : Option (SV × Tr CB) := match T t, ev x, ev y with
  | some i, some (.sl id off n c), some xv => match i.kind with
    | .slice e => match T e with
      | some ie => match readC m ie.size xv, m.get id with
        | some xs, some (.bx wh ty N d tr false) => if Nat.ble id 10000000 = true ∧ Nat.ble N 10000000 = true ∧ off + Nat.min (lenOf' xv) n * ie.size ≤ N ∧ (0 < n ∨ off = 0 ∨ c ≠ none) then
            some (.d (.val (.int .i64 (Nat.min (lenOf' xv) n))), putM m id (some (.bx wh ty N d (putCells tr off (xs.take (Nat.min (lenOf' xv) n * ie.size))) false))) else none
        | _, _ => none
      | none => none
    | _ => none
  | _, _, _ => none
def cleC (T : Tab) (m : Tr CB) (ev : Operand → Option SV) (x : Operand) (t : TypeId) : Option (SV × Tr CB) := match T t, ev x with
  | some i, some (.sl id off n _) => match i.kind with
    | .slice e => match T e with
      | some ie => match m.get id with
        | some (.bx wh ty N d tr false) => if Nat.ble id 10000000 = true ∧ Nat.ble N 10000000 = true ∧ 0 < n ∧ off + n * ie.size ≤ N then
            some (.tup [], putM m id (some (.bx wh ty N d (putCells tr off (zerosC ie (n * ie.size))) false))) else none
        | _ => none
      | none => none
    | _ => none
  | _, _ => none
def litC (T : Tab) (m : Tr CB) (nid : Nat) (ev : Operand → Option SV) (t : TypeId) (len : Nat) (ps : Array (Nat × Operand)) : Option (SV × Tr CB) := match T t with
  | some i => match i.kind with
    | .slice e => match T e, evParts ev ps.toList with
      | some ie, some l => match fillSV (fun k => some (k * ie.size, ie.size)) (zerosC ie (len * ie.size)) l with
        | some cells => if free m nid = true ∧ len * ie.size ≤ 16777216 then some (.sl nid 0 len (some len), putM m nid (some (.bx none e cells.length cells .lf false))) else none
        | none => none
      | _, _ => none
    | _ => none
  | none => none
def makC (T : Tab) (Z : ZTab) (m : Tr CB) (nid : Nat) (ev : Operand → Option SV) (t : TypeId) (l c : Operand) : Option (SV × Tr CB) := match T t with
  | some i => match i.kind with
    | .slice e => match T e, intOp (ev l), intOp (ev c) with
      | some ie, some (_, n), some (_, c) => if free m nid = true ∧ 0 ≤ n ∧ n ≤ c ∧ (ie.bytes : Int) * c ≤ 140737488355328 ∧ c ≤ 9223372036854775807 then
          some (.sl nid 0 n.toNat (some c.toNat), putM m nid (some (.bx none e (c.toNat * ie.size) (zerosP Z e ie) .lf false))) else none
      | _, _, _ => none
    | _ => none
  | none => none
def stoC (T : Tab) (m : Tr CB) (ev : Operand → Option SV) (t : TypeId) (x y : Operand) : Option (SV × Tr CB) := match T t, ev x, ev y with
  | some i, some (.ptr id r j), some v => match m.get id with
    | some (.bx wh ty n d tr false) => if r = 0 ∧ Nat.ble id 10000000 = true ∧ Nat.ble n 10000000 = true ∧ v.fit = true ∧ v.cells.length = i.size ∧ j + i.size ≤ n then
        some (.und, putM m id (some (.bx wh ty n d (putCells tr j v.cells) false))) else none
    | _ => none
  | _, _, _ => none
def xW (T : Tab) (Z : ZTab) (M : MTab) (m : Tr CB) (nid : Nat) (ev : Operand → Option SV) : Op → Option (SV × Tr CB)
  | .box e x => match ev x with
    | some v => if free m nid = true ∧ v.fit = true then some (.ptr nid 0 0, putM m nid (some (.bx none e v.cells.length v.cells .lf false))) else none
    | none => none
  | .alloc e => match T e with
    | some i => if free m nid = true then some (.ptr nid 0 0, putM m nid (some (.bx none e i.size (zerosP Z e i) .lf false))) else none
    | none => none
  | .store t x y => stoC T m ev t x y
  | .buildSlice t len ps => litC T m nid ev t len ps
  | .makeSlice t l c => makC T Z m nid ev t l c
  | .makeMap t none => match M t with
    | some i => if free m nid = true then some (.mp nid, putM m nid (some (.mp i.agg i.kk [] 0))) else none
    | none => none
  | .mapUpdate t x y z => match M t, ev x, ev y, ev z with
    | some i, some xv, some kv, some vv => (updC m i xv kv vv).map fun m' => (.und, m')
    | _, _, _, _ => none
  | .call c => match c.callee, c.args.toList, c.argTypes.toList with
    | .builtin .append, [x, y], [t, t'] => appD T m nid ev x y t t'
    | .builtin .copy, [x, y], [t, _] => copC T m ev x y t
    | .builtin .clear, [x], [t] => cleC T m ev x t
    | .builtin .delete, [x, y], [t, _] => match M t, ev x, ev y with
      | some i, some xv, some kv => (delC m i xv kv).map fun m' => (.tup [], m')
      | _, _, _ => none
    | _, _, _ => none
  | _ => none
theorem free_spec {nid : Nat} (h : free m nid = true) : nid < 2 ^ deep ∧ m.get nid = none := by
  unfold free at h
  rw [Bool.and_eq_true] at h
  exact ⟨lt_deep h.1, by simpa using h.2⟩
theorem Recs.new {nid : Nat} (h : free m nid = true) {x : Option CB} : Recs m (putM m nid x) := Recs.put (free_spec h).1 fun st pe k sl ps x y e => by rw [(free_spec h).2] at e; cases e
theorem appendZ_run (hT : TabOk P T) (h : Sim W0 R0 ns D s E a w) (hs : s.mem = mOf m) {nid : Nat} (hD : ¬ D nid) (hnid : nid < 2 ^ deep) {o : Oper} {x y : Operand} {t t' e : TypeId} (ho : o.op = .call { callee := .builtin .append, args := #[x, y], argTypes := #[t, t'] }) {i i' ie : TI} (hi : T t = some i) (hk : i.kind = .slice e) (hi' : T t' = some i') {kn k : IntKind} (hk' : i'.kind = .int kn) (hie : T e = some ie)
    (hx : Rep E w .nilS (a.eval x)) {n : Nat} (hy : Rep E w (.d (.val (.int k n))) (a.eval y)) (hn : 0 < n) (hf : fitsB n ie.bytes = true) :
    OpW P W0 R0 ns D nid s.slots a w o (.sl nid 0 n none) (putM m nid (some (.bx (some ie.size) e (zerosC ie (n * ie.size)).length (zerosC ie (n * ie.size)) .lf false))) := by
  have hu := slice_und (hT t i hi) hk
  have hu' : P.underlying t' = some (.int kn) := by have := (hT _ _ hi').und; rw [hk'] at this; exact this
  obtain ⟨inf, z0, i1, i4, i2, i3, hzs, hz⟩ := zeros_reps (E := E) (w := w) hT hie
  have hsz := (hT e ie hie).pos
  obtain ⟨c2, c3⟩ := fitsB_iff.1 hf
  have hxv : a.eval x = .slice none 0 0 := by obtain ⟨u, hu⟩ : ∃ u, a.eval x = u := ⟨_, rfl⟩; rw [hu] at hx ⊢; cases hx; rfl
  have hyv := rep_int hy
  have hr := Lib.run_append_nil_zeros (P := P) w t t' o.type e inf z0 k kn hu hu' i1 i4 n hn (by rw [i2]; exact hsz) (by simp only [maxLen] at c3; omega) (by rw [i3]; omega)
  have hge := grownCap_ge w n 0 e
  have hcm : grownCap w n 0 e ≤ maxLen := grownCap_le_maxLen w n 0 e c3
  have hzn : Builtin.zeroCells z0.cells n = madeCells z0.cells (n * ie.size) := by unfold Builtin.zeroCells madeCells; rw [hzs]
  generalize hcap : grownCap w n 0 e = cap at hr hge hcm
  generalize hrest : Builtin.zeroCells z0.cells (cap - n) = rest at hr
  have hrs : rest.size = (cap - n) * ie.size := by rw [← hrest, size_zeroCells, hzs]
  have hm0 : (madeCells z0.cells (n * ie.size)).size = n * ie.size := size_madeCells _ _
  rw [hzn] at hr
  have he : (execOp a.eval o).run P w = .ok (.value (.slice (some ⟨w.heap.size, 0, none⟩) n cap)) (w.drew.alloc (.cells (madeCells z0.cells (n * ie.size) ++ rest) e)) := by
    simp only [execOp, ho, resolve, invoke, builtin, Sem.run_bind, Sem.run_pure, Result.andThen_ok, List.map_toArray, List.map_cons, List.map_nil, hxv, hyv, hr]
  have hb : Below w.heap.size w (w.drew.alloc (.cells (madeCells z0.cells (n * ie.size) ++ rest) e)) := ⟨rfl, rfl, rfl, by simp, fun k hk => heap_alloc_old w.drew _ hk⟩
  have hro : ∀ b, E.ro b → (w.drew.alloc (.cells (madeCells z0.cells (n * ie.size) ++ rest) e)).heap[b]? = w.heap[b]? := fun b hb' => hb.block b (h.rlt b hb')
  have hid : ¬ E.dom nid := fun hk => hD (h.dom nid hk)
  have hE := E.le_add nid ⟨w.heap.size, cap, ie.size⟩ hid
  have hall := hz (n * ie.size)
  have hcs : (madeCells z0.cells (n * ie.size) ++ rest).size = cap * ie.size := by
    rw [Array.size_append, hm0, hrs, ← Nat.add_mul]
    congr 1
    omega
  have key := h.new hD (.part ie.size e (zerosC ie (n * ie.size)) false) ⟨w.heap.size, cap, ie.size⟩ (h.kept hb) hro (fun k c hk => hb.block _ (h.mem k c hk).lt) (.part _ e _ false (madeCells z0.cells (n * ie.size) ++ rest) ⟨rfl, hcs, hcm⟩ (heap_alloc_new w.drew _) (by rw [zerosC_len, hcs]; exact Nat.mul_le_mul_right _ hge) hall.2.1 fun j c v hc hv => by
    have hj : j < n * ie.size := by have := (List.getElem?_eq_some_iff.1 hc).1; rw [zerosC_len] at this; exact this
    rw [Array.getElem?_append_left (by rw [hm0]; exact hj)] at hv
    exact (hall.2.2 j c v hc (by rw [Array.getElem?_toList]; exact hv)).keep hE hro) (h.fresh (Nat.le_refl _)) rfl (fun hk => by have := h.rlt _ hk; simp only at this; omega) (fun k c hk e => by have := (h.mem k c hk).lt; simp only at e; omega)
  refine ⟨E.add nid ⟨w.heap.size, cap, ie.size⟩, _, ?_, .inl ⟨_, he, ?_⟩⟩
  · rw [mOf_put hnid, ← hs]
    simpa only [Option.map_some, CB.den, cellsOf_lf] using key
  · have := Rep.slN (E := E.add nid ⟨w.heap.size, cap, ie.size⟩) (w := w.drew.alloc (.cells (madeCells z0.cells (n * ie.size) ++ rest) e)) nid 0 n none cap (.inl rfl) (by simp [Env.add]) hge
    simpa [Env.add] using this
theorem Recs.dropNew {nid : Nat} (h : free m nid = true) {e : TypeId} {z id : Nat} {sv : SV} (hun : unkRoom m e z sv = some id) {x : Option CB} : Recs m (putM (putM m id none) nid x) := by
  obtain ⟨n, N, d, t, rfl, hg, hid⟩ := unkRoom_spec hun
  refine (Recs.put (x := none) (lt_deep hid) fun st pe k sl ps x y e => by rw [hg] at e; cases e).trans (Recs.put (free_spec h).1 fun st pe k sl ps x y e => ?_)
  rw [putM, Tr.get_put deep m id (lt_deep hid)] at e
  split at e
  · cases e
  · rw [(free_spec h).2] at e; cases e
theorem call_eq {c : Call} {b : Builtin} {l : List Operand} {ts : List TypeId} (hc : c.callee = .builtin b) (ha : c.args.toList = l) (ht : c.argTypes.toList = ts) : c = { callee := .builtin b, args := l.toArray, argTypes := ts.toArray } := by
  cases c with
  | mk callee args argTypes =>
    simp only at hc ha ht
    subst hc
    congr 1
    · rw [← Array.toArray_toList (xs := args), ha]
    · rw [← Array.toArray_toList (xs := argTypes), ht]
theorem xW_run {Z : ZTab} (hT : TabOk P T) (hZ : ZTabOk T Z) (hM : MTabOk P M) (h : Sim W0 R0 ns D s E a w) (hs : s.mem = mOf m) {nid : Nat} (hD : ¬ D nid) {ev : Operand → Option SV} (hev : ∀ x v, ev x = some v → Rep E w v (a.eval x)) {o : Oper} {x : SV} {m' : Tr CB} (hx : xW T Z M m nid ev o.op = some (x, m')) :
    OpW P W0 R0 ns D nid s.slots a w o x m' ∧ Recs m m' := by
  unfold xW at hx
  split at hx
  · rename_i e y ho
    split at hx
    · rename_i v hy
      split at hx
      · rename_i hc
        cases hx
        exact ⟨box_runC h hs hD (free_spec hc.1).1 ho (hev y v hy) hc.2, Recs.new hc.1⟩
      · cases hx
    · cases hx
  · rename_i e ho
    split at hx
    · rename_i i hi
      split at hx
      · rename_i hc
        cases hx
        exact ⟨alloc_runC hT h hs hD (free_spec hc).1 ho hZ hi, Recs.new hc⟩
      · cases hx
    · cases hx
  · rename_i t y z ho
    unfold stoC at hx
    split at hx
    · rename_i i id r j v hi hy hz
      split at hx
      · rename_i wh ty n d tr hg
        split at hx
        · rename_i hc
          cases hx
          obtain ⟨rfl, c1, c2, c3, c4, c5⟩ := hc
          exact ⟨storeC_run hT h hs ho hi (hev y _ hy) (hev z _ hz) hg (lt_deep c1) (Nat.le_of_lt (lt_deep c2)) c3 c4 c5, Recs.put (lt_deep c1) fun st pe k sl ps x y e => by rw [hg] at e; cases e⟩
        · cases hx
      · cases hx
    · cases hx
  · rename_i t len ps ho
    unfold litC at hx
    split at hx
    · rename_i i hi
      split at hx
      · rename_i e hk
        split at hx
        · rename_i ie l hie hl
          split at hx
          · rename_i cells hcl
            split at hx
            · rename_i hc
              cases hx
              exact ⟨litC_run hT h hs hD (free_spec hc.1).1 ho hi hk hie hev hl hcl hc.2, Recs.new hc.1⟩
            · cases hx
          · cases hx
        · cases hx
      · cases hx
    · cases hx
  · rename_i t l c ho
    unfold makC at hx
    split at hx
    · rename_i i hi
      split at hx
      · rename_i e hk
        split at hx
        · rename_i ie k1 n k2 c' hie h1 h2
          split at hx
          · rename_i hc
            cases hx
            obtain ⟨c0, c1, c2, c3, c4⟩ := hc
            exact ⟨makeC_run hT h hs hD (free_spec c0).1 ho hi hk hie (rep_int (hev _ _ (intOp_eq h1))) (rep_int (hev _ _ (intOp_eq h2))) c1 c2 c3 c4 hZ, Recs.new c0⟩
          · cases hx
        · cases hx
      · cases hx
    · cases hx
  · rename_i t ho
    split at hx
    · rename_i i hi
      split at hx
      · rename_i hc
        cases hx
        exact ⟨makeMapC_run h hs hD (free_spec hc).1 ho i, Recs.new hc⟩
      · cases hx
    · cases hx
  · rename_i t y z u ho
    split at hx
    · rename_i i xv kv vv hi h1 h2 h3
      rw [Option.map_eq_some_iff] at hx
      obtain ⟨m1, hu, he⟩ := hx
      cases he
      refine ⟨updC_run hM h hs (.inl ho) hi hu (hev _ _ h1) (hev _ _ h2) (hev _ _ h3), ?_⟩
      unfold updC at hu
      split at hu
      · split at hu
        · rename_i hg
          split at hu
          · rename_i hc
            have hr : ∀ y, Recs m (putM m _ y) := fun y => Recs.put (x := y) (lt_deep hc.2.2.2) fun st pe k sl ps x y e => by rw [hg] at e; cases e
            split at hu
            · split at hu <;> (cases hu; exact hr _)
            · cases hu
          · cases hu
        · cases hu
      · cases hu
    · cases hx
  · rename_i c ho
    split at hx
    · rename_i y z t t' hc ha ht
      rw [call_eq hc ha ht] at ho
      unfold appD at hx
      split at hx
      · rename_i r hz
        cases hx
        unfold appZ at hz
        split at hz
        · rename_i i i' _ n hi hi' h1 h2
          split at hz
          · rename_i e _ hk hk'
            split at hz
            · rename_i ie hie
              split at hz
              · rename_i hcc
                obtain ⟨c1, c2, c3⟩ := hcc
                cases hz
                obtain ⟨q, rfl⟩ := Int.eq_ofNat_of_zero_le (Int.le_of_lt c2)
                exact ⟨appendZ_run hT h hs hD (free_spec c1).1 ho hi hk hi' hk' hie (hev _ _ h1) (n := q) (hev _ _ h2) (by omega) c3, Recs.new c1⟩
              · cases hz
            · cases hz
          · cases hz
        · cases hz
      unfold appC at hx
      split at hx
      · rename_i i sv xv hi h1 h2
        split at hx
        · rename_i e hk
          split at hx
          · rename_i ie hie
            split at hx
            · rename_i os xs hos hxs
              split at hx
              · rename_i hcc
                obtain ⟨rfl, c1, c2, c3⟩ := hcc
                split at hx
                · rename_i c4
                  cases hx
                  refine ⟨appendC_run hT h hs hD (free_spec c1).1 ho hi hk hie (hev _ _ h1) (hev _ _ h2) hos hxs c2 ?_ c3, Recs.new c1⟩
                  unfold noRoom at c4
                  split at c4
                  · exact .inl rfl
                  · rename_i id off n c
                    exact .inr ⟨id, off, n, c, rfl, Nat.le_of_ble_eq_true c4⟩
                  · cases c4
                · split at hx
                  · rename_i id hun
                    cases hx
                    exact ⟨appendU_run hT h hs hD (free_spec c1).1 ho hi hk hie (hev _ _ h1) (hev _ _ h2) hos hxs c2 hun c3, Recs.dropNew c1 hun⟩
                  · cases hx
              · cases hx
            · cases hx
          · cases hx
        · cases hx
      · cases hx
    · rename_i y z t t' hc ha ht
      rw [call_eq hc ha ht] at ho
      unfold copC at hx
      split at hx
      · rename_i i id off n cp xv hi h1 h2
        split at hx
        · rename_i e hk
          split at hx
          · rename_i ie hie
            split at hx
            · rename_i xs wh ty N d tr hxs hg
              split at hx
              · rename_i hcc
                cases hx
                obtain ⟨c1, c2, c3, c4⟩ := hcc
                exact ⟨copyC_run hT h hs ho hi hk hie (hev _ _ h1) (hev _ _ h2) hxs hg (lt_deep c1) (Nat.le_of_lt (lt_deep c2)) c3 c4, Recs.put (lt_deep c1) fun st pe k sl ps x y e => by rw [hg] at e; cases e⟩
              · cases hx
            · cases hx
          · cases hx
        · cases hx
      · cases hx
    · rename_i y t hc ha ht
      rw [call_eq hc ha ht] at ho
      unfold cleC at hx
      split at hx
      · rename_i i id off n cp hi h1
        split at hx
        · rename_i e hk
          split at hx
          · rename_i ie hie
            split at hx
            · rename_i wh ty N d tr hg
              split at hx
              · rename_i hcc
                cases hx
                obtain ⟨c1, c2, c3, c4⟩ := hcc
                exact ⟨clearC_run hT h hs ho hi hk hie (hev _ _ h1) hg (lt_deep c1) (Nat.le_of_lt (lt_deep c2)) c3 c4, Recs.put (lt_deep c1) fun st pe k sl ps x y e => by rw [hg] at e; cases e⟩
              · cases hx
            · cases hx
          · cases hx
        · cases hx
      · cases hx
    · rename_i y z t t' hc ha ht
      rw [call_eq hc ha ht] at ho
      split at hx
      · rename_i i xv kv hi h1 h2
        rw [Option.map_eq_some_iff] at hx
        obtain ⟨m1, hu, he⟩ := hx
        cases he
        refine ⟨delC_run hM h hs ho hi hu (hev _ _ h1) (hev _ _ h2), ?_⟩
        unfold delC at hu
        split at hu
        · split at hu
          · rename_i hg
            split at hu
            · rename_i hcc
              have hr : ∀ y, Recs m (putM m _ y) := fun y => Recs.put (x := y) (lt_deep hcc.2.2.2) fun st pe k sl ps x y e => by rw [hg] at e; cases e
              split at hu
              · split at hu
                · cases hu; exact hr _
                · cases hu; exact Recs.refl _
              · cases hu
            · cases hu
          · cases hu
        · cases hu
      · cases hx
    · cases hx
  · cases hx
theorem xW_recs {Z : ZTab} {nid : Nat} {ev : Operand → Option SV} {o : Oper} {x : SV} {m' : Tr CB} (hx : xW T Z M m nid ev o.op = some (x, m')) : Recs m m' := by
  unfold xW at hx
  split at hx
  · rename_i e y ho
    split at hx
    · rename_i v hy
      split at hx
      · rename_i hc
        cases hx
        exact Recs.new hc.1
      · cases hx
    · cases hx
  · rename_i e ho
    split at hx
    · rename_i i hi
      split at hx
      · rename_i hc
        cases hx
        exact Recs.new hc
      · cases hx
    · cases hx
  · rename_i t y z ho
    unfold stoC at hx
    split at hx
    · rename_i i id r j v hi hy hz
      split at hx
      · rename_i wh ty n d tr hg
        split at hx
        · rename_i hc
          cases hx
          obtain ⟨rfl, c1, c2, c3, c4, c5⟩ := hc
          exact Recs.put (lt_deep c1) fun st pe k sl ps x y e => by rw [hg] at e; cases e
        · cases hx
      · cases hx
    · cases hx
  · rename_i t len ps ho
    unfold litC at hx
    split at hx
    · rename_i i hi
      split at hx
      · rename_i e hk
        split at hx
        · rename_i ie l hie hl
          split at hx
          · rename_i cells hcl
            split at hx
            · rename_i hc
              cases hx
              exact Recs.new hc.1
            · cases hx
          · cases hx
        · cases hx
      · cases hx
    · cases hx
  · rename_i t l c ho
    unfold makC at hx
    split at hx
    · rename_i i hi
      split at hx
      · rename_i e hk
        split at hx
        · rename_i ie k1 n k2 c' hie h1 h2
          split at hx
          · rename_i hc
            cases hx
            obtain ⟨c0, c1, c2, c3, c4⟩ := hc
            exact Recs.new c0
          · cases hx
        · cases hx
      · cases hx
    · cases hx
  · rename_i t ho
    split at hx
    · rename_i i hi
      split at hx
      · rename_i hc
        cases hx
        exact Recs.new hc
      · cases hx
    · cases hx
  · rename_i t y z u ho
    split at hx
    · rename_i i xv kv vv hi h1 h2 h3
      rw [Option.map_eq_some_iff] at hx
      obtain ⟨m1, hu, he⟩ := hx
      cases he
      unfold updC at hu
      split at hu
      · split at hu
        · rename_i hg
          split at hu
          · rename_i hc
            have hr : ∀ y, Recs m (putM m _ y) := fun y => Recs.put (x := y) (lt_deep hc.2.2.2) fun st pe k sl ps x y e => by rw [hg] at e; cases e
            split at hu
            · split at hu <;> (cases hu; exact hr _)
            · cases hu
          · cases hu
        · cases hu
      · cases hu
    · cases hx
  · rename_i c ho
    split at hx
    · rename_i y z t t' hc ha ht
      rw [call_eq hc ha ht] at ho
      unfold appD at hx
      split at hx
      · rename_i r hz
        cases hx
        unfold appZ at hz
        split at hz
        · split at hz
          · split at hz
            · split at hz
              · rename_i hcc
                cases hz
                exact Recs.new hcc.1
              · cases hz
            · cases hz
          · cases hz
        · cases hz
      unfold appC at hx
      split at hx
      · rename_i i sv xv hi h1 h2
        split at hx
        · rename_i e hk
          split at hx
          · rename_i ie hie
            split at hx
            · rename_i os xs hos hxs
              split at hx
              · rename_i hcc
                obtain ⟨rfl, c1, c2, c3⟩ := hcc
                split at hx
                · cases hx
                  exact Recs.new c1
                · split at hx
                  · rename_i id hun
                    cases hx
                    exact Recs.dropNew c1 hun
                  · cases hx
              · cases hx
            · cases hx
          · cases hx
        · cases hx
      · cases hx
    · rename_i y z t t' hc ha ht
      rw [call_eq hc ha ht] at ho
      unfold copC at hx
      split at hx
      · rename_i i id off n cp xv hi h1 h2
        split at hx
        · rename_i e hk
          split at hx
          · rename_i ie hie
            split at hx
            · rename_i xs wh ty N d tr hxs hg
              split at hx
              · rename_i hcc
                cases hx
                obtain ⟨c1, c2, c3⟩ := hcc
                exact Recs.put (lt_deep c1) fun st pe k sl ps x y e => by rw [hg] at e; cases e
              · cases hx
            · cases hx
          · cases hx
        · cases hx
      · cases hx
    · rename_i y t hc ha ht
      rw [call_eq hc ha ht] at ho
      unfold cleC at hx
      split at hx
      · rename_i i id off n cp hi h1
        split at hx
        · rename_i e hk
          split at hx
          · rename_i ie hie
            split at hx
            · rename_i wh ty N d tr hg
              split at hx
              · rename_i hcc
                cases hx
                obtain ⟨c1, c2, c3, c4⟩ := hcc
                exact Recs.put (lt_deep c1) fun st pe k sl ps x y e => by rw [hg] at e; cases e
              · cases hx
            · cases hx
          · cases hx
        · cases hx
      · cases hx
    · rename_i y z t t' hc ha ht
      rw [call_eq hc ha ht] at ho
      split at hx
      · rename_i i xv kv hi h1 h2
        rw [Option.map_eq_some_iff] at hx
        obtain ⟨m1, hu, he⟩ := hx
        cases he
        unfold delC at hu
        split at hu
        · split at hu
          · rename_i hg
            split at hu
            · rename_i hcc
              have hr : ∀ y, Recs m (putM m _ y) := fun y => Recs.put (x := y) (lt_deep hcc.2.2.2) fun st pe k sl ps x y e => by rw [hg] at e; cases e
              split at hu
              · split at hu
                · cases hu; exact hr _
                · cases hu; exact Recs.refl _
              · cases hu
            · cases hu
          · cases hu
        · cases hu
      · cases hx
    · cases hx
  · cases hx
end Go.Proofs.Ytdkneonokbakjaa.Eng

namespace Go.Proofs.Ytdkneonokbakjaa.Eng
open Go.RowKit
section
variable {P : Program} {F : Fence} {n : Nat} {b : Frame} {a : Act} {k : List Item} {cs : List Frame} {w : World} {Q : Exit → Act → World → Prop}
theorem stepR_scope' {c : Code} : step P (lone (b.atR a (.code (.scope c) :: k)) cs w) = .next (lone (b.atR a (.code c :: .inScope c :: k)) cs w) :=
  step_lone_go (by simp [stepG, stepG.exec, Frame.atR])
theorem stepR_inScope' {c : Code} : step P (lone (b.atR a (.inScope c :: k)) cs w) = .next (lone (b.atR a k) cs w) :=
  step_lone_go (by simp [stepG, stepG.exec, Frame.atR])
def ScIn (F : Fence) (n : Nat) (P : Program) (c x : Code) (Q : Exit → Act → World → Prop) (a : Act) (w : World) : Prop :=
  ∀ (b : Frame) (k : List Item) (cs : List Frame), b.roundOf = F.round → F.fn b.fn → F.room (cs.length + 1 + n) →
    ∃ e a' w', Q e a' w' ∧ ArrivesIn (Machine.fenced P F) P (lone (b.atR a (.code x :: .inScope c :: k)) cs w) b k cs e a' w'
def scopeX (c : Code) (J : Code → Act → World → Prop) (Q : Exit → Act → World → Prop) : Exit → Act → World → Prop
  | .goto l, a, w => match findLabel c l with
    | some rest => J rest a w
    | none => Q (.goto l) a w
  | e, a, w => Q e a w
theorem ScIn.of {c x : Code} (h : x.wpIn F n P (scopeX c (fun rest => ScIn F n P c rest Q) Q) a w) : ScIn F n P c x Q a w := by
  intro b k cs hro hb hr
  obtain ⟨e, a₁, w₁, hq, harr⟩ := h b (.inScope c :: k) cs hro hb hr
  cases e with
  | normal => exact ⟨.normal, a₁, w₁, hq, StepsIn.trans harr (.one (fenced_calm hb hr rfl) stepR_inScope')⟩
  | exit id =>
    have hx : exitTo id (.inScope c :: k) = exitTo id k := by simp [exitTo]
    exact ⟨_, a₁, w₁, hq, fun k' hk => harr.1 k' (by rw [hx]; exact hk), fun hr' hk => harr.2 hr' (by rw [hx]; exact hk)⟩
  | goto l =>
    simp only [scopeX] at hq
    cases hf : findLabel c l with
    | some rest =>
      rw [hf] at hq
      obtain ⟨e₂, a₂, w₂, hq₂, harr₂⟩ := hq b k cs hro hb hr
      have hg : gotoIn l (.inScope c :: k) = some (.code rest :: .inScope c :: k) := by simp [gotoIn, hf]
      exact ⟨e₂, a₂, w₂, hq₂, .of_steps (harr.1 _ hg) harr₂⟩
    | none =>
      rw [hf] at hq
      have hx : gotoIn l (.inScope c :: k) = gotoIn l k := by simp [gotoIn, hf]
      exact ⟨_, a₁, w₁, hq, fun k' hk => harr.1 k' (by rw [hx]; exact hk), fun hr' hk => harr.2 hr' (by rw [hx]; exact hk)⟩
  | ret => exact ⟨_, a₁, w₁, hq, harr⟩
  | panic ch => exact ⟨_, a₁, w₁, hq, harr⟩
  | outgrown => exact ⟨_, a₁, w₁, hq, harr⟩
theorem wpIn_scope' {c : Code} (h : ScIn F n P c c Q a w) : (Code.scope c).wpIn F n P Q a w := by
  intro b k cs hro hb hr
  obtain ⟨e, a₁, w₁, hq, harr⟩ := h b k cs hro hb hr
  exact ⟨e, a₁, w₁, hq, .of_steps (.one (fenced_calm hb hr rfl) stepR_scope') harr⟩
end
variable {P : Program} {T : Tab} {r : Option Nat} {ns n : Nat} {s : St} {Q : Post}
def AWs (P : Program) (r : Option Nat) (ns : Nat) (c x : Code) (n : Nat) (s : St) (Q : Post) : Prop :=
  ∀ (W0 : Fix) (R0 : Nat → Prop) (B : Nat) (E : Env) (a : Act) (w : World), InAct r W0 R0 B → Sim W0 R0 ns (· < n) s E a w →
    ScIn (fen (rOf W0 r)) 0 P c x (fun e a' w' => ∃ n' s' E' W1, Ext W0 W1 ∧ InAct r W1 R0 B ∧ Sim W1 R0 ns (· < n') s' E' a' w' ∧ Q e n' s') a w
def scopeP (c : Code) (J : Code → Nat → St → Prop) (Q : Post) : Post
  | .goto l, n, s => match findLabel c l with
    | some rest => J rest n s
    | none => Q (.goto l) n s
  | e, n, s => Q e n s
theorem ScIn.mono {F : Fence} {k : Nat} {c x : Code} {Q Q' : Exit → Act → World → Prop} {a : Act} {w : World} (h : ScIn F k P c x Q a w) (hq : ∀ e a w, Q e a w → Q' e a w) : ScIn F k P c x Q' a w :=
  fun b k cs hro hb hr => let ⟨e, a', w', q, r⟩ := h b k cs hro hb hr; ⟨e, a', w', hq _ _ _ q, r⟩
theorem AWs.of {c x : Code} (h : AWi P r ns x n s (scopeP c (fun rest n s => AWs P r ns c rest n s Q) Q)) : AWs P r ns c x n s Q := fun W0 R0 B E a w hi hs => by
  refine ScIn.of (wpIn_mono (h W0 R0 B E a w hi hs) ?_)
  rintro e a' w' ⟨n', s', E', W1, x1, i1, h1, h2⟩
  cases e with
  | goto l =>
    simp only [scopeP] at h2
    simp only [scopeX]
    cases hf : findLabel c l with
    | some rest =>
      rw [hf] at h2
      have h5 := h2 W1 R0 B E' a' w' i1 h1
      rw [x1.rOf] at h5
      exact h5.mono fun _ _ _ ⟨n2, s2, E2, W2, x2, i2, h3, h4⟩ => ⟨n2, s2, E2, W2, x1.trans x2, i2, h3, h4⟩
    | none =>
      rw [hf] at h2
      exact ⟨n', s', E', W1, x1, i1, h1, h2⟩
  | _ => exact ⟨n', s', E', W1, x1, i1, h1, h2⟩
theorem AWi.scope {c : Code} (h : AWs P r ns c c n s Q) : AWi P r ns (.scope c) n s Q := fun W0 R0 B E a w hi hs => wpIn_scope' (h W0 R0 B E a w hi hs)
section
variable {F : Fence} {k : Nat} {Q : Exit → Act → World → Prop} {a : Act} {w : World}
def LpIn (F : Fence) (n : Nat) (P : Program) (c x : Code) (Q : Exit → Act → World → Prop) (a : Act) (w : World) : Prop :=
  ∀ (b : Frame) (k : List Item) (cs : List Frame), b.roundOf = F.round → F.fn b.fn → F.room (cs.length + 1 + n) →
    ∃ e a' w', Q e a' w' ∧ ArrivesIn (Machine.fenced P F) P (lone (b.atR a (.code x :: .inLoop c :: k)) cs w) b k cs e a' w'
def loopX (J : Act → World → Prop) (Q : Exit → Act → World → Prop) : Exit → Act → World → Prop
  | .normal, a, w => J a w
  | e, a, w => Q e a w
theorem LpIn.of {c x : Code} (h : x.wpIn F k P (loopX (LpIn F k P c c Q) Q) a w) : LpIn F k P c x Q a w := by
  intro b k cs hro hb hr
  obtain ⟨e, a₁, w₁, hq, harr⟩ := h b (.inLoop c :: k) cs hro hb hr
  cases e with
  | normal =>
    obtain ⟨e₂, a₂, w₂, hq₂, harr₂⟩ := hq b k cs hro hb hr
    exact ⟨e₂, a₂, w₂, hq₂, .of_steps (StepsIn.trans harr (.one (fenced_calm hb hr rfl) stepR_inLoop)) harr₂⟩
  | exit id => exact ⟨_, a₁, w₁, hq, .pass (x := .inLoop c) rfl (fun _ _ => .inl (by simp)) harr⟩
  | goto l => exact ⟨_, a₁, w₁, hq, .pass (x := .inLoop c) rfl (fun _ _ => .inl (by simp)) harr⟩
  | ret => exact ⟨_, a₁, w₁, hq, .pass (x := .inLoop c) rfl (fun _ _ => .inl (by simp)) harr⟩
  | panic ch => exact ⟨_, a₁, w₁, hq, .pass (x := .inLoop c) rfl (fun _ _ => .inl (by simp)) harr⟩
  | outgrown => exact ⟨_, a₁, w₁, hq, .pass (x := .inLoop c) rfl (fun _ _ => .inl (by simp)) harr⟩
theorem wpIn_loop' {c : Code} (h : LpIn F k P c c Q a w) : (Code.loop c).wpIn F k P Q a w := by
  intro b k cs hro hb hr
  obtain ⟨e, a₁, w₁, hq, harr⟩ := h b k cs hro hb hr
  exact ⟨e, a₁, w₁, hq, .of_steps (.one (fenced_calm hb hr rfl) stepR_loop) harr⟩
theorem LpIn.mono {c x : Code} {Q' : Exit → Act → World → Prop} (h : LpIn F k P c x Q a w) (hq : ∀ e a w, Q e a w → Q' e a w) : LpIn F k P c x Q' a w :=
  fun b k cs hro hb hr => let ⟨e, a', w', q, r⟩ := h b k cs hro hb hr; ⟨e, a', w', hq _ _ _ q, r⟩
end
def AWl (P : Program) (r : Option Nat) (ns : Nat) (c x : Code) (n : Nat) (s : St) (Q : Post) : Prop :=
  ∀ (W0 : Fix) (R0 : Nat → Prop) (B : Nat) (E : Env) (a : Act) (w : World), InAct r W0 R0 B → Sim W0 R0 ns (· < n) s E a w →
    LpIn (fen (rOf W0 r)) 0 P c x (fun e a' w' => ∃ n' s' E' W1, Ext W0 W1 ∧ InAct r W1 R0 B ∧ Sim W1 R0 ns (· < n') s' E' a' w' ∧ Q e n' s') a w
theorem AWl.of {c x : Code} (h : AWi P r ns x n s (thenP (fun n s => AWl P r ns c c n s Q) Q)) : AWl P r ns c x n s Q := fun W0 R0 B E a w hi hs => by
  refine LpIn.of (wpIn_mono (h W0 R0 B E a w hi hs) ?_)
  rintro e a' w' ⟨n', s', E', W1, x1, i1, h1, h2⟩
  cases e with
  | normal =>
    have h5 := h2 W1 R0 B E' a' w' i1 h1
    rw [x1.rOf] at h5
    exact h5.mono fun _ _ _ ⟨n2, s2, E2, W2, x2, i2, h3, h4⟩ => ⟨n2, s2, E2, W2, x1.trans x2, i2, h3, h4⟩
  | _ => exact ⟨n', s', E', W1, x1, i1, h1, h2⟩
theorem AWi.loopL {c : Code} (h : AWl P r ns c c n s Q) : AWi P r ns (.loop c) n s Q := fun W0 R0 B E a w hi hs => wpIn_loop' (h W0 R0 B E a w hi hs)
end Go.Proofs.Ytdkneonokbakjaa.Eng

noncomputable section
namespace Go.Proofs.Ytdkneonokbakjaa.Eng
open Go.RowKit
def memN : List Nat → Nat → Bool
  | [], _ => false
  | x :: l, t => bif Nat.beq x t then true else memN l t
theorem memN_iff : ∀ {l : List Nat} {t : Nat}, memN l t = true ↔ t ∈ l
  | [], t => by simp [memN]
  | x :: l, t => by
    simp only [memN, beq_nat, cond_eq_ite, decide_eq_true_eq, List.mem_cons]
    by_cases h : x = t
    · simp [h]
    · simp [h, memN_iff (l := l), Ne.symm h, eq_comm]
def evR (L : List Nat) (ns : Nat) (sl : Nat → SV) : Operand → Option SV
  | .tmp t => bif memN L t && Nat.ble (t + 1) ns then some (sl t) else none
  | .const v => constSV v
  | .func f => some (.fn f [] [])
  | _ => none
def isW : Op → Bool
  | .box .. | .alloc _ | .buildSlice .. | .makeSlice .. | .store .. | .makeMap .. | .mapUpdate .. => true
  | .call c => match c.callee with
    | .builtin .append | .builtin .copy | .builtin .clear | .builtin .delete => true
    | _ => false
  | _ => false
def idsOf2 : SV → List Nat
  | .own id _ _ | .lin id _ | .ptr id _ _ | .mp id | .sl id _ _ _ => [id]
  | _ => []
def readsOf (sl : Nat → SV) (o : Op) : List Nat := match o with
  | .load _ (.tmp t) => idsOf2 (sl t)
  | .lookup _ (.tmp t) _ _ => idsOf2 (sl t)
  | _ => []
def memC (m : Tr CB) : List Nat → Tr CB
  | [] => .lf
  | i :: l => bif Nat.ble i 10000000 then putM (memC m l) i (m.get i) else memC m l
inductive Cl where
  | plain
  | fn (f : FuncId) (args : List SV)
  | yl (id : Nat) (args : List SV)
  | bad
def calleeC (ev : Operand → Option SV) : Op → Cl
  | .call c => match c.callee with
    | .builtin _ => .plain
    | .value (.func f) => match evList ev c.args.toList with
      | some l => .fn f l
      | none => .bad
    | .value (.tmp t) => match ev (.tmp t), evList ev c.args.toList with
      | some (.fn f us vs), some l => .fn f (us ++ l ++ vs)
      | some (.yield id), some l => .yl id l
      | _, _ => .bad
    | _ => .bad
  | .defer _ => .bad
  | _ => .plain
structure Rs where
  y : SV
  n : Nat
  m : Tr CB
inductive Ctx where
  | no
  | sc (c : Code)
  | lp (c : Code)
abbrev Runner := Option Nat → Nat → Ctx → Code → CS → Option (Exit × CS)
def okN (n : Nat) : Bool := Nat.ble n 10000000
def getL {α : Type} (l : List α) : Nat → Option α :=
  @List.rec α (fun _ => Nat → Option α) (fun _ => none) (fun x _ ih i => @Nat.rec (fun _ => Option α) (some x) (fun j _ => ih j) i) l
theorem getL_eq {α : Type} : ∀ (l : List α) (i : Nat), getL l i = l[i]?
  | [], i => rfl
  | x :: l, 0 => rfl
  | x :: l, i + 1 => by
    rw [List.getElem?_cons_succ]
    exact getL_eq l i
theorem getA_eq {α : Type} (a : Array α) (i : Nat) : getL a.toList i = a[i]? := by rw [getL_eq, Array.getElem?_toList]
def callFn (P : Program) (T : Tab) (R : Runner) (f : FuncId) (args : List SV) (n : Nat) (m : Tr CB) : Option Rs :=
  match getL P.funcs.toList f with
  | none => none
  | some fn => match fn.body with
    | none => none
    | some c => bif Nat.ble args.length fn.ntmps && okN fn.ntmps && resOk fn.results.toList fn.ntmps then
        match R none fn.ntmps .no c ⟨n, startT args 0 .lf, m⟩ with
        | some (.normal, s) => match resSlots T s.den fn.results.toList with
          | some xs => some ⟨retV xs, s.n, s.mem⟩
          | none => none
        | some (.ret, s) => match resSlots T s.den fn.results.toList with
          | some xs => some ⟨retV xs, s.n, s.mem⟩
          | none => none
        | _ => none
      else none
def callYl (R : Runner) (id : Nat) (xs : List SV) (n : Nat) (m : Tr CB) : Option Rs :=
  match m.get id with
  | some (.loop .ready pe k sl ps x y) => bif Nat.beq xs.length ps.size && ps.toList.all (fun t => Nat.ble (t + 1) k) && okN k && okN id then
      match R (some id) k .no x ⟨n, putAllT sl ps.toList xs, m⟩ with
      | some (.normal, s1) => match s1.mem.get id with
        | some (.loop .ready pe1 _ _ _ _ _) => match R (some id) k .no y ⟨s1.n, s1.sl, putM s1.mem id (some (.loop .busy pe1 k sl ps x y))⟩ with
          | some (e, s2) => match jumpOf e, s2.mem.get id with
            | some j, some (.loop .busy _ _ _ _ _ _) => some ⟨.d (.val (.bool j.isNone)), s2.n, putM s2.mem id (some (.loop (if j.isNone then .ready else .done) j k sl ps x y))⟩
            | _, _ => none
          | none => none
        | _ => none
      | _ => none
    else none
  | _ => none
def same1 : SV → SV → Bool
  | .d (.val (.int k a)), .d (.val (.int k' b)) => decide (k = k') && decide (a = b)
  | .d (.val (.bool a)), .d (.val (.bool b)) => a == b
  | .d (.val .nilFunc), .d (.val .nilFunc) => true
  | .d (.val (.pointer none)), .d (.val (.pointer none)) => true
  | .d (.val (.map none)), .d (.val (.map none)) => true
  | .nilS, .nilS => true
  | .ptr a b c, .ptr a' b' c' => Nat.beq a a' && Nat.beq b b' && Nat.beq c c'
  | .mp a, .mp b => Nat.beq a b
  | .sl a b c (some d), .sl a' b' c' (some d') => Nat.beq a a' && Nat.beq b b' && Nat.beq c c' && Nat.beq d d'
  | .sl a b c none, .sl a' b' c' none => Nat.beq a a' && Nat.beq b b' && Nat.beq c c'
  | .yield a, .yield b => Nat.beq a b
  | _, _ => false
def sameL (f : SV → SV → Bool) : List SV → List SV → Bool
  | [], [] => true
  | x :: l, y :: k => f x y && sameL f l k
  | _, _ => false
def same2 : SV → SV → Bool
  | .fn f us vs, .fn f' us' vs' => Nat.beq f f' && sameL same1 us us' && sameL same1 vs vs'
  | x, y => same1 x y
def sameA : SV → SV → Bool
  | .agg l, .agg k => sameL same2 l k
  | x, y => same2 x y
def same3 : SV → SV → Bool
  | .tup l, .tup k => sameL sameA l k
  | x, y => sameA x y
def sameT : Tr SV → Tr SV → Bool
  | .lf, .lf => true
  | .nd none l r, .nd none l' r' => sameT l l' && sameT r r'
  | .nd (some x) l r, .nd (some y) l' r' => same3 x y && sameT l l' && sameT r r'
  | _, _ => false
def sameE : List (List Int × SV × Nat) → List (List Int × SV × Nat) → Bool
  | [], [] => true
  | (k, x, b) :: l, (k', y, b') :: l' => decide (k = k') && same3 x y && Nat.beq b b' && sameE l l'
  | _, _ => false
def sameB : Option CB → Option CB → Bool
  | some (.bx w t n d c f), some (.bx w' t' n' d' c' f') => (w == w') && Nat.beq t t' && Nat.beq n n' && sameL same2 d d' && sameT c c' && (f == f')
  | some (.mp a k es c), some (.mp a' k' es' c') => (a == a') && decide (k = k') && sameE es es' && Nat.beq c c'
  | none, none => true
  | _, _ => false
def subTr : Tr CB → Tr CB → Bool
  | .lf, _ => true
  | .nd v l r, .lf => v.isNone && subTr l .lf && subTr r .lf
  | .nd v l r, .nd v' l' r' => (match v with
      | none => true
      | some _ => sameB v v') && subTr l l' && subTr r r'
def noLoop : Tr CB → Bool
  | .lf => true
  | .nd v l r => (match v with
      | some (.loop ..) => false
      | _ => true) && noLoop l && noLoop r
def Tr.top {α : Type} : Tr α → Option α
  | .lf => none
  | .nd v _ _ => v
def Tr.left {α : Type} : Tr α → Tr α
  | .lf => .lf
  | .nd _ l _ => l
def Tr.right {α : Type} : Tr α → Tr α
  | .lf => .lf
  | .nd _ _ r => r
def pk {α : Type} (v v0 vq : Option α) : Option α := match v0 with
  | some _ => vq
  | none => match v with
    | some b => some b
    | none => vq
def frameT {α : Type} : Tr α → Tr α → Tr α → Tr α
  | .lf, _, mq => mq
  | .nd v l r, m0, mq => .nd (pk v m0.top mq.top) (frameT l m0.left mq.left) (frameT r m0.right mq.right)
structure Ent where
  f : FuncId
  args : List SV
  n : Nat
  m : Tr CB
  q : Rs
abbrev Sums := FuncId → Option (List SV → Nat → Tr CB → Option Rs)
structure Known where
  ents : List Ent
  closed : List (FuncId × Value)
  sums : Sums
def findC (f : FuncId) : List (FuncId × Value) → Option Value
  | [] => none
  | (g, v) :: l => bif Nat.beq g f then some v else findC f l
def findE (n : Nat) : List Ent → Option Ent
  | [] => none
  | e :: l => bif Nat.beq e.n n then some e else findE n l
def callK (P : Program) (T : Tab) (K : Known) (R : Runner) (f : FuncId) (args : List SV) (n : Nat) (m : Tr CB) : Option Rs :=
  match findC f K.closed with
  | some v => match args with
    | [] => some ⟨.d (.val v), n, m⟩
    | _ => none
  | none => match K.sums f with
   | some g => g args n m
   | none => match findE n K.ents with
    | some e => bif Nat.beq e.f f && sameL same3 args e.args && subTr e.m m && noLoop e.m then some ⟨e.q.y, e.q.n, frameT m e.m e.q.m⟩ else callFn P T R f args n m
    | none => callFn P T R f args n m
def doOp (P : Program) (T : Tab) (Z : ZTab) (Q : QTab) (M : MTab) (K : Known) (R : Runner) (ev : Operand → Option SV) (s : CS) (o : Oper) : Option Rs :=
  match calleeC ev o.op with
  | .plain => bif isW o.op then
      match xW T Z M s.mem s.n ev o.op with
      | some (x, m') => some ⟨x, s.n + 1, m'⟩
      | none => none
    else match xR T Q M s.mem ev o.op with
      | some x => some ⟨x, s.n, s.mem⟩
      | none => none
  | .fn f l => callK P T K R f l s.n s.mem
  | .yl id l => callYl R id l s.n s.mem
  | .bad => none
inductive Ins where
  | mv (x : Operand)
  | bin (op : BinOp) (t : TypeId) (x y : Operand) (ty : TypeId)
  | ld (t : TypeId) (x : Operand)
  | st (t : TypeId) (x y : Operand)
  | ix (t : TypeId) (x i : Operand)
  | fa (t : TypeId) (x : Operand) (f : Nat)
  | call (c : Call)
  | oth (op : Op)
def dec : Op → Ins
  | .move x => .mv x
  | .assign x => .mv x
  | .binOp op t x y ty => .bin op t x y ty
  | .load t x => .ld t x
  | .store t x y => .st t x y
  | .indexAddr t x i => .ix t x i
  | .fieldAddr t x f => .fa t x f
  | .call c => .call c
  | op => .oth op
def keepR (s : CS) : Option SV → Option Rs
  | some x => some ⟨x, s.n, s.mem⟩
  | none => none
def keepW (s : CS) : Option (SV × Tr CB) → Option Rs
  | some (x, m') => some ⟨x, s.n + 1, m'⟩
  | none => none
def fBin (T : Tab) (Q : QTab) (m : Tr CB) (ev : Operand → Option SV) (op : BinOp) (t : TypeId) (x y : Operand) (ty : TypeId) : Option SV := match aopR T (mOf m) ev (.binOp op t x y ty) with
    | some r => some r
    | none => match ev x, ev y with
      | some u, some v => match op with
        | .shl | .shr => none
        | _ => bigEq Q op t u v
      | _, _ => none
def fLd (T : Tab) (m : Tr CB) (ev : Operand → Option SV) (t : TypeId) (x : Operand) : Option SV := match T t, ev x with
    | some i, some v => loadC m i v
    | _, _ => none
def fIx (T : Tab) (ev : Operand → Option SV) (t : TypeId) (x ix : Operand) : Option SV := match T t, ev x, intOp (ev ix) with
    | some i, some v, some (_, k) => indexC T i k v
    | _, _, _ => none
def fFa (T : Tab) (ev : Operand → Option SV) (s : TypeId) (x : Operand) (f : Nat) : Option SV := match T s with
    | some i => match fieldOf i f with
      | some (off, ft) => match T ft, ev x with
        | some _, some (.rptr cs) => some (.rptr (cs.drop off))
        | some _, some (.ptr id r j) => some (.ptr id r (j + off))
        | _, _ => none
      | none => none
    | none => none
def fCall (P : Program) (T : Tab) (Z : ZTab) (Q : QTab) (M : MTab) (K : Known) (R : Runner) (ev : Operand → Option SV) (s : CS) (c : Call) : Option Rs :=
  match c.callee with
    | .builtin _ => bif isW (.call c) then keepW s (xW T Z M s.mem s.n ev (.call c)) else keepR s (xR T Q M s.mem ev (.call c))
    | .value (.func f) => match evList ev c.args.toList with
      | some l => callK P T K R f l s.n s.mem
      | none => none
    | .value (.tmp t) => match ev (.tmp t), evList ev c.args.toList with
      | some (.fn f us vs), some l => callK P T K R f (us ++ l ++ vs) s.n s.mem
      | some (.yield id), some l => callYl R id l s.n s.mem
      | _, _ => none
    | _ => none
def doF (P : Program) (T : Tab) (Z : ZTab) (Q : QTab) (M : MTab) (K : Known) (R : Runner) (ev : Operand → Option SV) (s : CS) (o : Oper) : Option Rs :=
  match dec o.op with
  | .mv x => keepR s (ev x)
  | .bin op t x y ty => keepR s (fBin T Q s.mem ev op t x y ty)
  | .ld t x => keepR s (fLd T s.mem ev t x)
  | .st t x y => keepW s (stoC T s.mem ev t x y)
  | .ix t x i => keepR s (fIx T ev t x i)
  | .fa t x f => keepR s (fFa T ev t x f)
  | .call c => fCall P T Z Q M K R ev s c
  | .oth _ => doOp P T Z Q M K R ev s o
theorem doF_eq {P : Program} {T : Tab} {Z : ZTab} {Q : QTab} {M : MTab} {K : Known} {R : Runner} {ev : Operand → Option SV} {s : CS} {o : Oper} : doF P T Z Q M K R ev s o = doOp P T Z Q M K R ev s o := by
  have key : ∀ op, o.op = op → (match dec op with
      | .mv x => keepR s (ev x)
      | .bin op t x y ty => keepR s (fBin T Q s.mem ev op t x y ty)
      | .ld t x => keepR s (fLd T s.mem ev t x)
      | .st t x y => keepW s (stoC T s.mem ev t x y)
      | .ix t x i => keepR s (fIx T ev t x i)
      | .fa t x f => keepR s (fFa T ev t x f)
      | .call c => fCall P T Z Q M K R ev s c
      | .oth _ => doOp P T Z Q M K R ev s o) = doOp P T Z Q M K R ev s o := by
    intro op ho
    unfold doOp
    rw [ho]
    cases op with
    | move x => rfl
    | assign x => rfl
    | binOp op t x y ty => rfl
    | load t x => rfl
    | store t x y =>
      simp only [dec, calleeC, isW, cond_true, xW]
      cases stoC T s.mem ev t x y with
      | none => rfl
      | some p => rfl
    | indexAddr t x i => rfl
    | fieldAddr t x f => rfl
    | call c =>
      simp only [dec, fCall, calleeC]
      cases hc : c.callee with
      | builtin b =>
        simp only
        cases isW (.call c) with
        | true =>
          simp only [cond_true]
          cases xW T Z M s.mem s.n ev (.call c) with
          | none => rfl
          | some p => rfl
        | false => rfl
      | value f =>
        cases f with
        | func f => simp only; cases evList ev c.args.toList <;> rfl
        | tmp t =>
          simp only
          cases ev (.tmp t) with
          | none => rfl
          | some v =>
            cases evList ev c.args.toList with
            | none => cases v <;> rfl
            | some l => cases v <;> rfl
        | const v => rfl
        | global g => rfl
      | invoke r m => rfl
    | _ => rfl
  exact key o.op rfl
def gF (ops : Array Oper) (ns : Nat) (s : CS) (o : Oper) : Option Bool := match o.guard with
  | none => bif dstOk ns o.dst then some true else none
  | some _ => guardS ops ns s.den o
theorem gF_eq {ops : Array Oper} {ns : Nat} {s : CS} {o : Oper} : gF ops ns s o = guardS ops ns s.den o := by
  unfold gF
  split
  · rename_i h
    unfold guardS
    rw [h]
    cases dstOk ns o.dst <;> rfl
  · rfl
def doOps (P : Program) (T : Tab) (Z : ZTab) (Q : QTab) (M : MTab) (K : Known) (R : Runner) (ns : Nat) (ops : Array Oper) : List Oper → CS → Option CS
  | [], s => some s
  | o :: l, s => match gF ops ns s o with
    | some true => match doF P T Z Q M K R (opd ns s.den) s o with
      | some q => doOps P T Z Q M K R ns ops l ⟨q.n, putD s.sl o.dst q.y, q.m⟩
      | none => none
    | some false => doOps P T Z Q M K R ns ops l ⟨s.n, putD s.sl o.dst (.tup []), s.mem⟩
    | none => none
inductive KC where
  | off
  | pure (x : SV) (ids : List Nat)
  | exact (y : SV)
structure En where
  k : KC
  s : CS
  s' : CS
def plainP (ev : Operand → Option SV) (o : Op) : Bool := match calleeC ev o with
  | .plain => !isW o
  | _ => false
def plainS : Op → Bool
  | .call c => match c.callee with
    | .builtin _ => !isW (.call c)
    | _ => false
  | .defer _ => false
  | op => !isW op
theorem plainS_P {op : Op} (h : plainS op = true) (ev : Operand → Option SV) : plainP ev op = true := by
  unfold plainP
  cases op with
  | call c =>
    simp only [plainS] at h
    simp only [calleeC]
    cases hc : c.callee with
    | builtin b => rw [hc] at h; exact h
    | _ => rw [hc] at h; cases h
  | defer c => cases h
  | _ => exact h
def pureF (T : Tab) (Q : QTab) (M : MTab) (m : Tr CB) (ev : Operand → Option SV) (op : Op) : Option SV := match dec op with
  | .mv x => ev x
  | .bin o t x y ty => fBin T Q m ev o t x y ty
  | .ld t x => fLd T m ev t x
  | .ix t x i => fIx T ev t x i
  | .fa t x f => fFa T ev t x f
  | _ => xR T Q M m ev op
theorem pureF_eq {T : Tab} {Q : QTab} {M : MTab} {m : Tr CB} {ev : Operand → Option SV} {op : Op} : pureF T Q M m ev op = xR T Q M m ev op := by
  unfold pureF
  cases op <;> rfl
def drOps (P : Program) (T : Tab) (Z : ZTab) (Q : QTab) (M : MTab) (K : Known) (R : Runner) (ns : Nat) (ops : Array Oper) : List Oper → CS → Option (List En × CS)
  | [], s => some ([], s)
  | o :: l, s => match gF ops ns s o with
    | some false => match drOps P T Z Q M K R ns ops l ⟨s.n, putD s.sl o.dst (.tup []), s.mem⟩ with
      | some (es, s2) => some (⟨.off, s, ⟨s.n, putD s.sl o.dst (.tup []), s.mem⟩⟩ :: es, s2)
      | none => none
    | some true => bif plainS o.op then
        match pureF T Q M (memC s.mem (readsOf (sOf s.sl) o.op)) (evR (slotsOf o.op) ns (sOf s.sl)) o.op with
        | some x => match drOps P T Z Q M K R ns ops l ⟨s.n, putD s.sl o.dst x, s.mem⟩ with
          | some (es, s2) => some (⟨.pure x (readsOf (sOf s.sl) o.op), s, ⟨s.n, putD s.sl o.dst x, s.mem⟩⟩ :: es, s2)
          | none => none
        | none => none
      else match doF P T Z Q M K R (evR (slotsOf o.op) ns (sOf s.sl)) s o with
        | some q => match drOps P T Z Q M K R ns ops l ⟨q.n, putD s.sl o.dst q.y, q.m⟩ with
          | some (es, s2) => some (⟨.exact q.y, s, ⟨q.n, putD s.sl o.dst q.y, q.m⟩⟩ :: es, s2)
          | none => none
        | none => none
    | none => none
def zeroN (n : Nat) : Bool := Nat.beq n 0
def pairOk (b i : Nat) (a e : En) : Bool := match a.k, e.k with
  | .exact _, .exact _ => b.testBit i
  | .exact _, .pure _ ids => b.testBit i || ids.all fun j => sameB (a.s'.mem.get j) (a.s.mem.get j)
  | .pure _ ids, .exact _ => b.testBit i || ids.all fun j => sameB (e.s'.mem.get j) (e.s.mem.get j)
  | _, _ => true
def okAfter (i : Nat) (a : En) : List Nat → List En → Bool
  | b :: bs, e :: es => pairOk b i a e && okAfter i a bs es
  | _, _ => true
def okEs (i : Nat) : List Nat → List En → Bool
  | _ :: bs, e :: es => okAfter i e bs es && okEs (i + 1) bs es
  | _, _ => true
def dull (e : En) : Bool := match e.k with
  | .off => true
  | .pure _ ids => match ids with
    | [] => true
    | _ => false
  | .exact _ => false
theorem dull_after {e : En} (h : dull e = true) : ∀ {i : Nat} {bs : List Nat} {es : List En}, okAfter i e bs es = true
  | i, [], es => by simp [okAfter]
  | i, b :: bs, [] => by simp [okAfter]
  | i, b :: bs, g :: es => by
    simp only [okAfter, Bool.and_eq_true]
    refine ⟨?_, dull_after h⟩
    unfold dull at h
    unfold pairOk
    split at h
    · rename_i hk; rw [hk]
    · rename_i hk
      split at h
      · rw [hk]
        split
        · rename_i e1 _; cases e1
        · rename_i e1 _; cases e1
        · rename_i e1 e2; cases e1; simp
        · rfl
      · cases h
    · cases h
def thin (i : Nat) : List Nat → List En → List (Nat × Nat × En)
  | b :: bs, e :: es => match dull e with
    | true => thin (i + 1) bs es
    | false => (i, b, e) :: thin (i + 1) bs es
  | _, _ => []
def okAfter3 (i : Nat) (a : En) : List (Nat × Nat × En) → Bool
  | [] => true
  | (_, b, e) :: l => pairOk b i a e && okAfter3 i a l
def okEs3 : List (Nat × Nat × En) → Bool
  | [] => true
  | (i, _, a) :: l => okAfter3 i a l && okEs3 l
theorem dull_pair {e : En} (h : dull e = true) (b i : Nat) (a : En) : pairOk b i a e = true := by
  unfold dull at h
  unfold pairOk
  split at h
  · rename_i hk; rw [hk]; split <;> first | rfl | (rename_i e1 e2; cases e2)
  · rename_i hk
    split at h
    · rw [hk]
      split
      · rename_i e1 e2; cases e2
      · rename_i e1 e2; cases e2; simp
      · rename_i e1 e2; cases e2
      · rfl
    · cases h
  · cases h
theorem okAfter3_ok {i : Nat} {a : En} : ∀ {k : Nat} {bs : List Nat} {es : List En}, okAfter3 i a (thin k bs es) = true → okAfter i a bs es = true
  | k, [], es, _ => by simp [okAfter]
  | k, b :: bs, [], _ => by simp [okAfter]
  | k, b :: bs, e :: es, h => by
    simp only [thin] at h
    simp only [okAfter, Bool.and_eq_true]
    split at h
    · rename_i hd
      exact ⟨dull_pair hd b i a, okAfter3_ok h⟩
    · simp only [okAfter3, Bool.and_eq_true] at h
      exact ⟨h.1, okAfter3_ok h.2⟩
theorem okEs3_ok : ∀ {i : Nat} {bs : List Nat} {es : List En}, okEs3 (thin i bs es) = true → okEs i bs es = true
  | i, [], es, _ => by simp [okEs]
  | i, b :: bs, [], _ => by simp [okEs]
  | i, b :: bs, e :: es, h => by
    simp only [thin] at h
    simp only [okEs, Bool.and_eq_true]
    split at h
    · rename_i hd
      exact ⟨dull_after hd, okEs3_ok h⟩
    · simp only [okEs3, Bool.and_eq_true] at h
      exact ⟨okAfter3_ok h.1, okEs3_ok h.2⟩
def anyEx : List En → Bool
  | [] => false
  | e :: es => match e.k with
    | .exact _ => true
    | _ => anyEx es
def okDyn (bs : List Nat) (es : List En) : Bool := bif anyEx es then okEs3 (thin 0 bs es) else true
def stAfter (i : Nat) (a : Nat × Nat) : List Nat → List (Nat × Nat) → Bool
  | b :: bs, e :: es => (b.testBit i || zeroN ((a.2 &&& (e.1 ||| e.2)) ||| (a.1 &&& e.2))) && stAfter i a bs es
  | _, _ => true
def stAll (i : Nat) : List Nat → List (Nat × Nat) → Bool
  | _ :: bs, e :: es => stAfter i e bs es && stAll (i + 1) bs es
  | _, _ => true
def stOk (ops : Array Oper) : Bool := backB ops && stAll 0 (ancs ops.toList []) (ops.toList.map fun o => (maskL (guardSlot ops o ++ slotsOf o.op), maskL o.dst.toList))
def afterX (pe : Option Code) (s : CS) : Option (Exit × CS) := match pe with
  | none => some (.normal, s)
  | some .ret => some (.ret, s)
  | some (.exit id) => some (.exit id, s)
  | some (.goto t) => some (.goto t, s)
  | _ => none
def hasRec (m : Tr CB) : Option Nat → Bool
  | none => true
  | some id => match m.get id with
    | some (.loop ..) => true
    | _ => false
def rangeX (P : Program) (T : Tab) (R : Runner) (r : Option Nat) (ns : Nat) (s : CS) (f : FuncId) (us vs : List SV) (ps : Array Tmp) (x y : Code) : Option (Exit × CS) :=
  bif free s.mem s.n && hasRec s.mem r then
    match callFn P T R f (us ++ [.yield s.n] ++ vs) (s.n + 1) (putM s.mem s.n (some (.loop .ready none ns s.sl ps x y))) with
    | some q => match q.m.get s.n with
      | some (.loop st pe _ _ _ _ _) => match st with
        | .busy => none
        | _ => afterX pe ⟨q.n, s.sl, putM q.m s.n (some (.loop .exhausted pe ns s.sl ps x y))⟩
      | _ => none
    | none => none
  else none
def bReg (P : Program) (T : Tab) (Z : ZTab) (Q : QTab) (M : MTab) (K : Known) (R : Runner) (ns : Nat) (ops : Array Oper) (draw : Bool) (s : CS) : Option (Exit × CS) :=
    bif draw then match drOps P T Z Q M K R ns ops ops.toList s with
      | some (es, s') => bif stOk ops && okDyn (ancs ops.toList []) es then some (.normal, s') else none
      | none => none
    else match doOps P T Z Q M K R ns ops ops.toList s with
      | some s' => some (.normal, s')
      | none => none
def onNormal (k : CS → Option (Exit × CS)) : Option (Exit × CS) → Option (Exit × CS)
  | some (e, s1) => match e with
      | .normal => k s1
      | e => some (e, s1)
  | none => none
def bCond (R : Runner) (r : Option Nat) (ns : Nat) (c : Operand) (a b : Code) (s : CS) : Option (Exit × CS) := match opd ns s.den c with
    | some (.d (.val (.bool t))) => if t then R r ns .no a s else R r ns .no b s
    | _ => none
def bBlock (id : Nat) : Option (Exit × CS) → Option (Exit × CS)
  | some (e, s1) => match e with
      | .exit j => bif Nat.beq j id then some (.normal, s1) else some (.exit j, s1)
      | e => some (e, s1)
  | none => none
def bRange (P : Program) (T : Tab) (R : Runner) (r : Option Nat) (ns : Nat) (g : Operand) (ps : Array Tmp) (x y : Code) (s : CS) : Option (Exit × CS) := match opd ns s.den g with
    | some (.fn f us vs) => rangeX P T R r ns s f us vs ps x y
    | _ => none
def bodyC (P : Program) (T : Tab) (Z : ZTab) (Q : QTab) (M : MTab) (K : Known) (R : Runner) (r : Option Nat) (ns : Nat) (c : Code) (s : CS) : Option (Exit × CS) :=
  match c with
  | .skip => some (.normal, s)
  | .region _ ops draw => bReg P T Z Q M K R ns ops draw s
  | .seq a b => onNormal (R r ns .no b) (R r ns .no a s)
  | .cond c a b => bCond R r ns c a b s
  | .block id c => bBlock id (R r ns .no c s)
  | .loop c => R r ns (.lp c) c s
  | .rangeFunc g ps x y => bRange P T R r ns g ps x y s
  | .exit id => some (.exit id, s)
  | .goto l => some (.goto l, s)
  | .label _ => some (.normal, s)
  | .ret => some (.ret, s)
  | .scope c => R r ns (.sc c) c s
  | _ => none
def bodyR (P : Program) (T : Tab) (Z : ZTab) (Q : QTab) (M : MTab) (K : Known) (R : Runner) : Runner := fun r ns cx c s => match cx with
  | .no => bodyC P T Z Q M K R r ns c s
  | .sc c0 => match R r ns .no c s with
    | some (e, s1) => match e with
      | .goto l => match findLabel c0 l with
        | some rest => R r ns (.sc c0) rest s1
        | none => some (.goto l, s1)
      | e => some (e, s1)
    | none => none
  | .lp c0 => match R r ns .no c s with
    | some (e, s1) => match e with
      | .normal => R r ns (.lp c0) c0 s1
      | e => some (e, s1)
    | none => none
structure Cfg where
  P : Program
  T : Tab
  Z : ZTab
  Q : QTab
  M : MTab
  K : Known
variable {C : Cfg} {R : Runner}
def getS (sl : Tr SV) (t : Nat) : SV := @Option.rec SV (fun _ => SV) .und (fun x => x) (sl.get t)
theorem getS_eq (sl : Tr SV) (t : Nat) : getS sl t = sOf sl t := by
  unfold getS sOf
  cases sl.get t <;> rfl
def opF (ns : Nat) (sl : Tr SV) (x : Operand) : Option SV :=
  @Operand.rec (fun _ => Option SV) (fun t => @Bool.rec (fun _ => Option SV) none (some (getS sl t)) (Nat.ble (Nat.succ t) ns)) constSV (fun _ => none) (fun f => some (.fn f [] [])) x
theorem opF_eq (ns : Nat) (s : CS) : opF ns s.sl = opd ns s.den := funext fun x => by
  cases x with
  | tmp t =>
    show @Bool.rec (fun _ => Option SV) none (some (getS s.sl t)) (Nat.ble (t + 1) ns) = if t < ns then some (sOf s.sl t) else none
    rw [rec_cond, getS_eq, cond_eq_ite]
    simp only [Nat.ble_eq, Nat.succ_le_iff]
  | const v => rfl
  | global => rfl
  | func => rfl
def putD' (sl : Tr SV) (d : Option Nat) (y : SV) : Tr SV := @Option.rec Nat (fun _ => Tr SV) sl (fun i => putT sl i y) d
theorem putD'_eq (sl : Tr SV) (d : Option Nat) (y : SV) : putD' sl d y = putD sl d y := by cases d <;> rfl
def fBin2 (T : Tab) (Q : QTab) (op : BinOp) (t : TypeId) (x y : Option SV) : Option SV := match x, y with
  | some u, some v => match op with
    | .shl | .shr => none
    | _ => match binSV T op t u v with
      | some r => some r
      | none => bigEq Q op t u v
  | _, _ => none
theorem fBin2_eq {T : Tab} {Q : QTab} {M : MTab} {m : Tr CB} {ev : Operand → Option SV} {op : BinOp} {t : TypeId} {x y : Operand} {ty : TypeId} : fBin2 T Q op t (ev x) (ev y) = xR T Q M m ev (.binOp op t x y ty) := by
  show _ = (match aopR T (mOf m) ev (.binOp op t x y ty) with
    | some r => some r
    | none => match ev x, ev y with
      | some u, some v => match op with
        | .shl | .shr => none
        | _ => bigEq Q op t u v
      | _, _ => none)
  have e : aopR T (mOf m) ev (.binOp op t x y ty) = (match ev x, ev y with
    | some u, some v => match op with
      | .shl | .shr => none
      | _ => binSV T op t u v
    | _, _ => none) := rfl
  rw [e]
  unfold fBin2
  cases ev x with
  | none => cases ev y <;> rfl
  | some u =>
    cases ev y with
    | none => rfl
    | some v => cases op <;> rfl
inductive In2 where
  | pu (f : Tr CB → (Operand → Option SV) → Option SV)
  | wr (f : Tr CB → Nat → (Operand → Option SV) → Option (SV × Tr CB))
  | ca (c : Call)
  | no
def dec2 (C : Cfg) (op : Op) : In2 := match op with
  | .move x => .pu fun _ ev => ev x
  | .assign x => .pu fun _ ev => ev x
  | .binOp op t x y _ => .pu fun _ ev => fBin2 C.T C.Q op t (ev x) (ev y)
  | .load t x => .pu fun m ev => fLd C.T m ev t x
  | .indexAddr t x i => .pu fun _ ev => fIx C.T ev t x i
  | .fieldAddr t x f => .pu fun _ ev => fFa C.T ev t x f
  | .pick c x y => .pu fun _ ev => match ev c, ev x, ev y with
    | some (.d (.val (.bool t))), some u, some v => some (if t then u else v)
    | _, _, _ => none
  | .unOp op _ x => .pu fun _ ev => match op, ev x with
    | .not, some (.d (.val (.bool b))) => some (.d (.val (.bool !b)))
    | .neg, some (.d (.val (.int k n))) => some (.d (.val (.int k (k.wrap (0 - n)))))
    | _, _ => none
  | .nilCheck x => .pu fun _ ev => match ev x with
    | some (.rptr cs) => some (.rptr cs)
    | some (.ptr i r j) => some (.ptr i r j)
    | _ => none
  | .field s x f => .pu fun _ ev => match C.T s with
    | some i => match fieldOf i f with
      | some (off, ft) => match C.T ft, ev x with
        | some fi, some v => partSV fi off v
        | _, _ => none
      | none => none
    | none => none
  | .extract x i => .pu fun _ ev => match ev x with
    | some (.d (.tup cs)) => (cs[i]?).map .d
    | some (.tup cs) => cs[i]?
    | _ => none
  | .lookup t x ix ok => .pu fun m ev => match C.M t, ev x, ev ix with
    | some i, some v, some k => lookC m i v k ok
    | _, _, _ => none
  | .store t x y => .wr fun m _ ev => stoC C.T m ev t x y
  | .call c => .ca c
  | .defer _ => .no
  | op => match isW op with
    | true => .wr fun m n ev => xW C.T C.Z C.M m n ev op
    | false => .pu fun m ev => xR C.T C.Q C.M m ev op
def runI (C : Cfg) (R : Runner) (ev : Operand → Option SV) (s : CS) : In2 → Option Rs
  | .pu f => keepR s (f s.mem ev)
  | .wr f => keepW s (f s.mem s.n ev)
  | .ca c => fCall C.P C.T C.Z C.Q C.M C.K R ev s c
  | .no => none
theorem plain_doOp {ev : Operand → Option SV} {s : CS} {o : Oper} (h : calleeC ev o.op = .plain) : doOp C.P C.T C.Z C.Q C.M C.K R ev s o = (match isW o.op with
    | true => keepW s (xW C.T C.Z C.M s.mem s.n ev o.op)
    | false => keepR s (xR C.T C.Q C.M s.mem ev o.op)) := by
  unfold doOp
  rw [h]
  cases isW o.op with
  | true =>
    simp only [cond_true]
    cases xW C.T C.Z C.M s.mem s.n ev o.op with
    | none => rfl
    | some p => rfl
  | false =>
    simp only [cond_false]
    cases xR C.T C.Q C.M s.mem ev o.op with
    | none => rfl
    | some p => rfl
theorem runI_eq (ev : Operand → Option SV) (s : CS) (o : Oper) : runI C R ev s (dec2 C o.op) = doOp C.P C.T C.Z C.Q C.M C.K R ev s o := by
  have key : ∀ op, o.op = op → runI C R ev s (dec2 C op) = doOp C.P C.T C.Z C.Q C.M C.K R ev s o := by
    intro op ho
    cases op with
    | call c =>
      rw [← doF_eq]
      unfold doF
      rw [ho]
      rfl
    | defer c =>
      unfold doOp
      rw [ho]
      rfl
    | binOp op t x y ty =>
      rw [plain_doOp (by rw [ho]; rfl), ho]
      show keepR s (fBin2 C.T C.Q op t (ev x) (ev y)) = _
      rw [fBin2_eq (M := C.M) (m := s.mem) (ty := ty)]
      rfl
    | _ => rw [plain_doOp (by rw [ho]; rfl), ho]; rfl
  exact key o.op rfl
abbrev Kt := Nat → Tr SV → Tr CB → Option CS
def valF (ih : Kt) (d : Option Nat) (n : Nat) (sl : Tr SV) (m : Tr CB) (v : Option SV) : Option CS := @Option.rec SV (fun _ => Option CS) none (fun y => ih n (putD' sl d y) m) v
def wrF (ih : Kt) (d : Option Nat) (n : Nat) (sl : Tr SV) (v : Option (SV × Tr CB)) : Option CS := @Option.rec (SV × Tr CB) (fun _ => Option CS) none (fun p => @Prod.rec SV (Tr CB) (fun _ => Option CS) (fun y m => ih (Nat.succ n) (putD' sl d y) m) p) v
def resF (ih : Kt) (d : Option Nat) (sl : Tr SV) (v : Option Rs) : Option CS := @Option.rec Rs (fun _ => Option CS) none (fun q => @Rs.rec (fun _ => Option CS) (fun y n m => ih n (putD' sl d y) m) q) v
def insF (C : Cfg) (R : Runner) (ns : Nat) (ih : Kt) (d : Option Nat) (n : Nat) (sl : Tr SV) (m : Tr CB) (i : In2) : Option CS :=
  @In2.rec (fun _ => Option CS) (fun f => valF ih d n sl m (f m (opF ns sl))) (fun f => wrF ih d n sl (f m n (opF ns sl))) (fun c => resF ih d sl (fCall C.P C.T C.Z C.Q C.M C.K R (opF ns sl) ⟨n, sl, m⟩ c)) none i
def gFF (ops : Array Oper) (ns : Nat) (sl : Tr SV) (m : Tr CB) (o : Oper) : Option Bool :=
  @Option.rec (Nat × Bool) (fun _ => Option Bool) (@Bool.rec (fun _ => Option Bool) none (some true) (dstOk ns o.dst)) (fun _ => guardS ops ns ⟨sOf sl, mOf m⟩ o) o.guard
theorem gFF_eq (ops : Array Oper) (ns : Nat) (s : CS) (o : Oper) : gFF ops ns s.sl s.mem o = gF ops ns s o := by
  unfold gFF gF
  cases o.guard with
  | none =>
    show @Bool.rec (fun _ => Option Bool) none (some true) (dstOk ns o.dst) = _
    rw [rec_cond]
  | some g => rfl
def stepF (C : Cfg) (R : Runner) (ns : Nat) (ops : Array Oper) (o : Oper) (ih : Kt) (n : Nat) (sl : Tr SV) (m : Tr CB) : Option CS :=
  @Option.rec Bool (fun _ => Option CS) none (fun b => @Bool.rec (fun _ => Option CS) (ih n (putD' sl o.dst (.tup [])) m) (insF C R ns ih o.dst n sl m (dec2 C o.op)) b) (gFF ops ns sl m o)
def runOps (C : Cfg) (R : Runner) (ns : Nat) (ops : Array Oper) (l : List Oper) : Kt :=
  @List.rec Oper (fun _ => Kt) (fun n sl m => some ⟨n, sl, m⟩) (fun o _ ih => stepF C R ns ops o ih) l
theorem runOps_eq {ns : Nat} {ops : Array Oper} : ∀ (l : List Oper) (n : Nat) (sl : Tr SV) (m : Tr CB), runOps C R ns ops l n sl m = doOps C.P C.T C.Z C.Q C.M C.K R ns ops l ⟨n, sl, m⟩
  | [], n, sl, m => rfl
  | o :: l, n, sl, m => by
    show stepF C R ns ops o (runOps C R ns ops l) n sl m = _
    unfold stepF
    rw [gFF_eq ops ns ⟨n, sl, m⟩ o, doOps]
    cases gF ops ns ⟨n, sl, m⟩ o with
    | none => rfl
    | some b =>
      cases b with
      | false =>
        show runOps C R ns ops l n (putD' sl o.dst (.tup [])) m = _
        rw [runOps_eq l, putD'_eq]
      | true =>
        show insF C R ns (runOps C R ns ops l) o.dst n sl m (dec2 C o.op) = _
        simp only
        rw [doF_eq, ← runI_eq, ← opF_eq]
        cases dec2 C o.op with
        | pu f =>
          show valF (runOps C R ns ops l) o.dst n sl m (f m (opF ns sl)) = _
          simp only [runI, keepR]
          cases f m (opF ns sl) with
          | none => rfl
          | some y =>
            show runOps C R ns ops l n (putD' sl o.dst y) m = _
            rw [runOps_eq l, putD'_eq]
        | wr f =>
          show wrF (runOps C R ns ops l) o.dst n sl (f m n (opF ns sl)) = _
          simp only [runI, keepW]
          cases f m n (opF ns sl) with
          | none => rfl
          | some p =>
            show runOps C R ns ops l (n + 1) (putD' sl o.dst p.1) p.2 = _
            rw [runOps_eq l, putD'_eq]
        | ca c =>
          show resF (runOps C R ns ops l) o.dst sl (fCall C.P C.T C.Z C.Q C.M C.K R (opF ns sl) ⟨n, sl, m⟩ c) = _
          simp only [runI]
          cases fCall C.P C.T C.Z C.Q C.M C.K R (opF ns sl) ⟨n, sl, m⟩ c with
          | none => rfl
          | some q =>
            show runOps C R ns ops l q.n (putD' sl o.dst q.y) q.m = _
            rw [runOps_eq l, putD'_eq]
        | no => rfl
def rdS : Op → Option Nat
  | .load _ (.tmp t) => some t
  | .lookup _ (.tmp t) _ _ => some t
  | _ => none
def idsR (sl : Tr SV) (d : Option Nat) : List Nat := @Option.rec Nat (fun _ => List Nat) [] (fun t => idsOf2 (getS sl t)) d
theorem idsR_eq (sl : Tr SV) (op : Op) : idsR sl (rdS op) = readsOf (sOf sl) op := by
  unfold readsOf rdS
  split
  · exact congrArg idsOf2 (getS_eq sl _)
  · exact congrArg idsOf2 (getS_eq sl _)
  · rfl
def purC (C : Cfg) (m : Tr CB) (ev : Operand → Option SV) (i : In2) : Option SV :=
  @In2.rec (fun _ => Option SV) (fun f => f m ev) (fun _ => none) (fun c => xR C.T C.Q C.M m ev (.call c)) none i
theorem purC_eq {m : Tr CB} {ev : Operand → Option SV} {op : Op} (h : plainS op = true) : purC C m ev (dec2 C op) = pureF C.T C.Q C.M m ev op := by
  rw [pureF_eq]
  cases op with
  | binOp op t x y ty => exact fBin2_eq
  | _ => first
    | rfl
    | cases h
abbrev Dt := Nat → Tr SV → Tr CB → Option (List En × CS)
def consE (e : En) (x : Option (List En × CS)) : Option (List En × CS) := @Option.rec (List En × CS) (fun _ => Option (List En × CS)) none (fun p => @Prod.rec (List En) CS (fun _ => Option (List En × CS)) (fun es s2 => some (e :: es, s2)) p) x
def dVal (ih : Dt) (d : Option Nat) (n : Nat) (sl : Tr SV) (m : Tr CB) (ids : List Nat) (v : Option SV) : Option (List En × CS) :=
  @Option.rec SV (fun _ => Option (List En × CS)) none (fun y => consE ⟨.pure y ids, ⟨n, sl, m⟩, ⟨n, putD' sl d y, m⟩⟩ (ih n (putD' sl d y) m)) v
def dRes (ih : Dt) (d : Option Nat) (n : Nat) (sl : Tr SV) (m : Tr CB) (v : Option Rs) : Option (List En × CS) :=
  @Option.rec Rs (fun _ => Option (List En × CS)) none (fun q => @Rs.rec (fun _ => Option (List En × CS)) (fun y n2 m2 => consE ⟨.exact y, ⟨n, sl, m⟩, ⟨n2, putD' sl d y, m2⟩⟩ (ih n2 (putD' sl d y) m2)) q) v
def dStep (C : Cfg) (R : Runner) (ns : Nat) (ops : Array Oper) (o : Oper) (ih : Dt) (n : Nat) (sl : Tr SV) (m : Tr CB) : Option (List En × CS) :=
  @Option.rec Bool (fun _ => Option (List En × CS)) none (fun b => @Bool.rec (fun _ => Option (List En × CS)) (consE ⟨.off, ⟨n, sl, m⟩, ⟨n, putD' sl o.dst (.tup []), m⟩⟩ (ih n (putD' sl o.dst (.tup [])) m))
    (@Bool.rec (fun _ => Option (List En × CS)) (dRes ih o.dst n sl m (runI C R (evR (slotsOf o.op) ns (sOf sl)) ⟨n, sl, m⟩ (dec2 C o.op)))
      (dVal ih o.dst n sl m (idsR sl (rdS o.op)) (purC C (memC m (idsR sl (rdS o.op))) (evR (slotsOf o.op) ns (sOf sl)) (dec2 C o.op))) (plainS o.op)) b) (gFF ops ns sl m o)
def runDr (C : Cfg) (R : Runner) (ns : Nat) (ops : Array Oper) (l : List Oper) : Dt :=
  @List.rec Oper (fun _ => Dt) (fun n sl m => some ([], ⟨n, sl, m⟩)) (fun o _ ih => dStep C R ns ops o ih) l
theorem consE_eq (e : En) (x : Option (List En × CS)) : consE e x = (match x with
    | some (es, s2) => some (e :: es, s2)
    | none => none) := by
  cases x with
  | none => rfl
  | some p => rfl
theorem runDr_eq {ns : Nat} {ops : Array Oper} : ∀ (l : List Oper) (n : Nat) (sl : Tr SV) (m : Tr CB), runDr C R ns ops l n sl m = drOps C.P C.T C.Z C.Q C.M C.K R ns ops l ⟨n, sl, m⟩
  | [], n, sl, m => rfl
  | o :: l, n, sl, m => by
    show dStep C R ns ops o (runDr C R ns ops l) n sl m = _
    unfold dStep
    rw [gFF_eq ops ns ⟨n, sl, m⟩ o, drOps]
    cases gF ops ns ⟨n, sl, m⟩ o with
    | none => rfl
    | some b =>
      cases b with
      | false =>
        show consE _ (runDr C R ns ops l n (putD' sl o.dst (.tup [])) m) = _
        rw [consE_eq, runDr_eq l, putD'_eq]
      | true =>
        simp only
        cases hp : plainS o.op with
        | true =>
          show dVal (runDr C R ns ops l) o.dst n sl m (idsR sl (rdS o.op)) (purC C (memC m (idsR sl (rdS o.op))) (evR (slotsOf o.op) ns (sOf sl)) (dec2 C o.op)) = _
          rw [idsR_eq, purC_eq hp]
          simp only [cond_true]
          cases pureF C.T C.Q C.M (memC m (readsOf (sOf sl) o.op)) (evR (slotsOf o.op) ns (sOf sl)) o.op with
          | none => rfl
          | some y =>
            show consE _ (runDr C R ns ops l n (putD' sl o.dst y) m) = _
            rw [consE_eq, runDr_eq l, putD'_eq]
        | false =>
          show dRes (runDr C R ns ops l) o.dst n sl m (runI C R (evR (slotsOf o.op) ns (sOf sl)) ⟨n, sl, m⟩ (dec2 C o.op)) = _
          rw [runI_eq]
          simp only [cond_false]
          rw [doF_eq]
          cases doOp C.P C.T C.Z C.Q C.M C.K R (evR (slotsOf o.op) ns (sOf sl)) ⟨n, sl, m⟩ o with
          | none => rfl
          | some q =>
            show consE _ (runDr C R ns ops l q.n (putD' sl o.dst q.y) q.m) = _
            rw [consE_eq, runDr_eq l, putD'_eq]
abbrev Rt := Option (Exit × CS)
def doneF (x : Option CS) : Rt := @Option.rec CS (fun _ => Rt) none (fun s => some (.normal, s)) x
def drawF (ops : Array Oper) (x : Option (List En × CS)) : Rt :=
  @Option.rec (List En × CS) (fun _ => Rt) none (fun p => @Prod.rec (List En) CS (fun _ => Rt) (fun es s' => @Bool.rec (fun _ => Rt) none (some (.normal, s')) (stOk ops && okDyn (ancs ops.toList []) es)) p) x
def regF (C : Cfg) (R : Runner) (ns : Nat) (ops : Array Oper) (draw : Bool) (s : CS) : Rt :=
  @CS.rec (fun _ => Rt) (fun n sl m => @Bool.rec (fun _ => Rt) (doneF (runOps C R ns ops ops.toList n sl m)) (drawF ops (runDr C R ns ops ops.toList n sl m)) draw) s
theorem regF_eq {ns : Nat} {ops : Array Oper} {draw : Bool} {s : CS} : regF C R ns ops draw s = bReg C.P C.T C.Z C.Q C.M C.K R ns ops draw s := by
  cases s with
  | mk n sl m =>
    unfold bReg
    cases draw with
    | false =>
      show doneF (runOps C R ns ops ops.toList n sl m) = _
      rw [runOps_eq]
      simp only [cond_false]
      cases doOps C.P C.T C.Z C.Q C.M C.K R ns ops ops.toList ⟨n, sl, m⟩ <;> rfl
    | true =>
      show drawF ops (runDr C R ns ops ops.toList n sl m) = _
      rw [runDr_eq]
      simp only [cond_true]
      cases drOps C.P C.T C.Z C.Q C.M C.K R ns ops ops.toList ⟨n, sl, m⟩ with
      | none => rfl
      | some p =>
        show @Bool.rec (fun _ => Rt) none (some (.normal, p.2)) (stOk ops && okDyn (ancs ops.toList []) p.1) = _
        rw [rec_cond]
def condF (R : Runner) (r : Option Nat) (ns : Nat) (c : Operand) (a b : Code) (s : CS) : Rt := match opF ns s.sl c with
    | some (.d (.val (.bool t))) => @Bool.rec (fun _ => Rt) (R r ns .no b s) (R r ns .no a s) t
    | _ => none
def rangeF (C : Cfg) (R : Runner) (r : Option Nat) (ns : Nat) (g : Operand) (ps : Array Tmp) (x y : Code) (s : CS) : Rt := bRange C.P C.T R r ns g ps x y s
def codeF (C : Cfg) (R : Runner) (r : Option Nat) (ns : Nat) (c : Code) (s : CS) : Rt :=
  @Code.rec (fun _ => Rt) (some (.normal, s)) (fun _ ops draw => regF C R ns ops draw s) (fun a b _ _ => onNormal (R r ns .no b) (R r ns .no a s)) (fun c a b _ _ => condF R r ns c a b s) (fun id c _ => bBlock id (R r ns .no c s))
    (fun c _ => R r ns (.lp c) c s) (fun g ps x y _ _ => rangeF C R r ns g ps x y s) (fun id => some (.exit id, s)) (fun c _ => R r ns (.sc c) c s) (fun _ => some (.normal, s)) (fun l => some (.goto l, s)) (some (.ret, s)) (fun _ => none) c
theorem codeF_eq {r : Option Nat} {ns : Nat} {c : Code} {s : CS} : codeF C R r ns c s = bodyC C.P C.T C.Z C.Q C.M C.K R r ns c s := by
  cases c with
  | region id ops draw => exact regF_eq
  | cond c a b =>
    show condF R r ns c a b s = bCond R r ns c a b s
    unfold condF bCond
    rw [opF_eq]
    split
    · rename_i t _; cases t <;> rfl
    · rfl
  | _ => rfl
def scF (R : Runner) (r : Option Nat) (ns : Nat) (c0 : Code) (x : Rt) : Rt := match x with
    | some (e, s1) => match e with
      | .goto l => match findLabel c0 l with
        | some rest => R r ns (.sc c0) rest s1
        | none => some (.goto l, s1)
      | e => some (e, s1)
    | none => none
def lpF (R : Runner) (r : Option Nat) (ns : Nat) (c0 : Code) (x : Rt) : Rt := match x with
    | some (e, s1) => match e with
      | .normal => R r ns (.lp c0) c0 s1
      | e => some (e, s1)
    | none => none
def bodyRF (C : Cfg) (R : Runner) : Runner := fun r ns cx c s =>
  @Ctx.rec (fun _ => Rt) (codeF C R r ns c s) (fun c0 => scF R r ns c0 (R r ns .no c s)) (fun c0 => lpF R r ns c0 (R r ns .no c s)) cx
theorem bodyRF_eq : bodyRF C R = bodyR C.P C.T C.Z C.Q C.M C.K R := by
  funext r ns cx c s
  cases cx with
  | no => exact codeF_eq
  | sc c0 => rfl
  | lp c0 => rfl
def runC (C : Cfg) (fuel : Nat) : Runner := @Nat.rec (fun _ => Runner) (fun _ _ _ _ _ => none) (fun _ ih => bodyRF C ih) fuel
def runR (P : Program) (T : Tab) (Z : ZTab) (Q : QTab) (M : MTab) (K : Known) (fuel : Nat) : Runner := runC ⟨P, T, Z, Q, M, K⟩ fuel
theorem runR_zero {P : Program} {T : Tab} {Z : ZTab} {Q : QTab} {M : MTab} {K : Known} : runR P T Z Q M K 0 = fun _ _ _ _ _ => none := rfl
theorem runR_succ {P : Program} {T : Tab} {Z : ZTab} {Q : QTab} {M : MTab} {K : Known} {n : Nat} : runR P T Z Q M K (n + 1) = bodyR P T Z Q M K (runR P T Z Q M K n) := by
  show bodyRF ⟨P, T, Z, Q, M, K⟩ (runR P T Z Q M K n) = _
  rw [bodyRF_eq]
end Go.Proofs.Ytdkneonokbakjaa.Eng

noncomputable section
namespace Go.Proofs.Ytdkneonokbakjaa.Eng
open Go.RowKit
variable {P : Program} {T : Tab} {Z : ZTab} {Q : QTab} {M : MTab} {K : Known} {R : Runner} {r : Option Nat} {ns : Nat}
def Is (e : Exit) (s' : CS) : Post := fun e2 n2 s2 => e2 = e ∧ n2 = s'.n ∧ s2 = s'.den
def WalkX (P : Program) (r : Option Nat) (ns : Nat) (c : Code) (n : Nat) (s : St) (Q : Post) : Ctx → Prop
  | .no => AWi P r ns c n s Q
  | .sc c0 => AWs P r ns c0 c n s Q
  | .lp c0 => AWl P r ns c0 c n s Q
structure Runs (P : Program) (r : Option Nat) (ns : Nat) (cx : Ctx) (c : Code) (s : CS) (e : Exit) (s' : CS) : Prop where
  walk : WalkX P r ns c s.n s.den (Is e s') cx
  n : s.n ≤ s'.n
  recs : Recs s.mem s'.mem
def SoundR (P : Program) (R : Runner) : Prop := ∀ r ns cx c s e s', okN ns = true → R r ns cx c s = some (e, s') → Runs P r ns cx c s e s'
def NoGor (P : Program) : Prop := ∀ (f : FuncId) fn, P.funcs[f]? = some fn → (fn.name == "runtime.NumGoroutine") = false
theorem okN_lt {n : Nat} (h : okN n = true) : n < 2 ^ deep := lt_deep h
def ResIs (q : Rs) : SV → Nat → Mem → Prop := fun y n' m' => y = q.y ∧ n' = q.n ∧ m' = mOf q.m
structure Calls2 (P : Program) (f : FuncId) (args : List SV) (n : Nat) (m : Tr CB) (q : Rs) : Prop where
  call : CWp P f args n (mOf m) (ResIs q)
  n : n ≤ q.n
  recs : Recs m q.m
theorem callFn_sound (hT : TabOk P T) (hN : NoGor P) (hR : SoundR P R) {f : FuncId} {args : List SV} {n : Nat} {m : Tr CB} {q : Rs} (h : callFn P T R f args n m = some q) : Calls2 P f args n m q := by
  unfold callFn at h
  rw [getA_eq] at h
  split at h
  · cases h
  rename_i fn hf
  split at h
  · cases h
  rename_i c hb
  cases hc : (Nat.ble args.length fn.ntmps && okN fn.ntmps && resOk fn.results.toList fn.ntmps) with
  | false => rw [hc] at h; cases h
  | true =>
    rw [hc] at h
    simp only [cond_true] at h
    simp only [Bool.and_eq_true] at hc
    obtain ⟨⟨c1, c2⟩, c3⟩ := hc
    have hl := Nat.le_of_ble_eq_true c1
    have hlt := okN_lt c2
    have fin : ∀ (e : Exit) (s' : CS) (xs : List SV), R none fn.ntmps .no c ⟨n, startT args 0 .lf, m⟩ = some (e, s') → (e = .normal ∨ e = .ret) → resSlots T s'.den fn.results.toList = some xs → q = ⟨retV xs, s'.n, s'.mem⟩ → Calls2 P f args n m q := by
      intro e s' xs hr he hx hq
      subst hq
      have h1 := hR none fn.ntmps .no c _ e s' c2 hr
      refine ⟨cwp_of hT hf (hN f fn hf) hb hl c3 ?_, h1.n, h1.recs⟩
      have h2 : AWi P none fn.ntmps c _ _ _ := h1.walk
      simp only [CS.den, sOf_start args (by omega)] at h2
      refine h2.mono ?_
      rintro e2 n2 s2 ⟨rfl, rfl, rfl⟩
      exact ⟨he, xs, hx, rfl, rfl, rfl⟩
    split at h
    · rename_i s' hr
      split at h
      · rename_i xs hx
        cases h
        exact fin _ s' xs hr (.inl rfl) hx rfl
      · cases h
    · rename_i s' hr
      split at h
      · rename_i xs hx
        cases h
        exact fin _ s' xs hr (.inr rfl) hx rfl
      · cases h
    · cases h
theorem Recs.upd {m : Tr CB} {id : Nat} {st : LoopState} {pe : Option Code} {k : Nat} {sl : Tr SV} {ps : Array Tmp} {x y : Code} (h : m.get id = some (.loop st pe k sl ps x y)) (hid : id < 2 ^ deep) (st' : LoopState) (pe' : Option Code) : Recs m (putM m id (some (.loop st' pe' k sl ps x y))) := fun i st2 pe2 k2 sl2 ps2 x2 y2 hh => by
  rw [putM, Tr.get_put deep m id hid]
  by_cases e : i = id
  · subst e
    rw [h] at hh
    cases hh
    exact ⟨st', pe', by rw [if_pos rfl]⟩
  · exact ⟨st2, pe2, by rw [if_neg e]; exact hh⟩
theorem get_putM {m : Tr CB} {i : Nat} {x : Option CB} (h : i < 2 ^ deep) (k : Nat) : (putM m i x).get k = if k = i then x else m.get k := Tr.get_put deep m i h k
structure Yields2 (P : Program) (id : Nat) (xs : List SV) (n : Nat) (m : Tr CB) (q : Rs) : Prop where
  call : YCall P (.yield id) xs n (mOf m) (ResIs q)
  n : n ≤ q.n
  recs : Recs m q.m
theorem callYl_sound (hR : SoundR P R) {id : Nat} {xs : List SV} {n : Nat} {m : Tr CB} {q : Rs} (h : callYl R id xs n m = some q) : Yields2 P id xs n m q := by
  unfold callYl at h
  split at h
  · rename_i pe k sl ps x y hg
    cases hc : (Nat.beq xs.length ps.size && ps.toList.all (fun t => Nat.ble (t + 1) k) && okN k && okN id) with
    | false => rw [hc] at h; cases h
    | true =>
      rw [hc] at h
      simp only [cond_true] at h
      simp only [Bool.and_eq_true, Nat.beq_eq] at hc
      obtain ⟨⟨⟨c1, c2⟩, c3⟩, c4⟩ := hc
      have hk := okN_lt c3
      have hid := okN_lt c4
      have hps : ∀ p ∈ ps.toList, p < k := fun p hp => Nat.le_of_ble_eq_true (List.all_eq_true.1 c2 p hp)
      split at h
      · rename_i s1 hr1
        have h1 := hR (some id) k .no x _ .normal s1 c3 hr1
        obtain ⟨st1, pe1', hg1⟩ := h1.recs id .ready pe k sl ps x y hg
        split at h
        · rename_i _ _ _ _ _ _ hg1'
          rw [hg1] at hg1'
          cases hg1'
          split at h
          · rename_i e s2 hr2
            have h2 := hR (some id) k .no y _ e s2 c3 hr2
            have hgb : (putM s1.mem id (some (.loop .busy pe1' k sl ps x y))).get id = some (.loop .busy pe1' k sl ps x y) := by rw [get_putM hid, if_pos rfl]
            obtain ⟨st2, pe2, hg2⟩ := h2.recs id _ _ _ _ _ _ _ hgb
            split at h
            · rename_i j pe2' _ _ _ _ _ hj hg2'
              rw [hg2] at hg2'
              cases hg2'
              cases h
              have r1 := Recs.upd hg1 hid .busy pe1'
              have r2 := Recs.upd hg2 hid (if j.isNone then .ready else .done) j
              refine ⟨?_, Nat.le_trans h1.n h2.n, ((h1.recs.trans r1).trans h2.recs).trans r2⟩
              have e1 : mOf m id = some (.loop .ready pe k (sOf sl) ps x y false) := mOf_get hg
              refine YCall.yield e1 c1 (List.all_eq_true.2 fun p hp => by simpa using hps p hp) ?_
              have w1 : AWi P (some id) k x _ _ _ := h1.walk
              simp only [CS.den, sOf_putAll ps.toList xs sl fun p hp => Nat.lt_trans (hps p hp) hk] at w1
              refine w1.mono ?_
              rintro e' n1 s1' ⟨rfl, rfl, rfl⟩
              refine ⟨rfl, pe1', mOf_get hg1, ?_⟩
              have w2 : AWi P (some id) k y _ _ _ := h2.walk
              simp only [CS.den, mOf_put hid] at w2
              refine w2.mono ?_
              rintro e' n2 s2' ⟨rfl, rfl, rfl⟩
              refine ⟨j, pe2, hj, mOf_get hg2, rfl, rfl, ?_⟩
              simp only [CS.den, mOf_put hid]
              rfl
            · cases h
          · cases h
        · cases h
      · cases h
  · cases h
theorem evList_mono {ev ev' : Operand → Option SV} (h : ∀ x v, ev x = some v → ev' x = some v) : ∀ {l : List Operand} {vs : List SV}, evList ev l = some vs → evList ev' l = some vs
  | [], _, e => e
  | x :: l, vs, e => by
    simp only [evList] at e ⊢
    split at e
    · rename_i v r h1 h2
      cases e
      rw [h x v h1, evList_mono h h2]
    · cases e
theorem calleeC_fn {ev : Operand → Option SV} {s : St} (h : ∀ x v, ev x = some v → opd ns s x = some v) {op : Op} {f : FuncId} {l : List SV} (hc : calleeC ev op = .fn f l) : calleeS ns s op = some (f, l) := by
  unfold calleeC at hc
  split at hc
  · rename_i c
    split at hc
    · cases hc
    · rename_i g hcal
      split at hc
      · rename_i l' hl
        cases hc
        simp only [calleeS, hcal, evList_mono h hl]
      · cases hc
    · rename_i t hcal
      split at hc
      · rename_i g us vs l' h1 hl
        cases hc
        simp only [calleeS, hcal, h _ _ h1, evList_mono h hl]
      · cases hc
      · cases hc
    · cases hc
  · cases hc
  · cases hc
theorem calleeC_yl {ev : Operand → Option SV} {s : St} (h : ∀ x v, ev x = some v → opd ns s x = some v) {op : Op} {id : Nat} {l : List SV} (hc : calleeC ev op = .yl id l) : calleeV ns s op = some (.yield id, l) := by
  unfold calleeC at hc
  split at hc
  · rename_i c
    split at hc
    · cases hc
    · split at hc <;> cases hc
    · rename_i t hcal
      split at hc
      · cases hc
      · rename_i i l' h1 hl
        cases hc
        simp only [calleeV, hcal, h _ _ h1, evList_mono h hl]
      · cases hc
    · cases hc
  · cases hc
  · cases hc
theorem calleeC_plain {ev : Operand → Option SV} {o : Oper} (hc : calleeC ev o.op = .plain) : ∀ c, o.op ≠ .defer c := fun c e => by
  rw [e] at hc
  cases hc
theorem same1_eq {x y : SV} (h : same1 x y = true) : x = y := by
  unfold same1 at h
  split at h <;> simp_all
theorem sameL_eq {f : SV → SV → Bool} (hf : ∀ x y, f x y = true → x = y) : ∀ {l k : List SV}, sameL f l k = true → l = k
  | [], [], _ => rfl
  | [], _ :: _, h => by cases h
  | _ :: _, [], h => by cases h
  | x :: l, y :: k, h => by
    simp only [sameL, Bool.and_eq_true] at h
    rw [hf x y h.1, sameL_eq hf h.2]
theorem same2_eq {x y : SV} (h : same2 x y = true) : x = y := by
  unfold same2 at h
  split at h
  · simp only [Bool.and_eq_true, Nat.beq_eq] at h
    rw [h.1.1, sameL_eq (fun _ _ => same1_eq) h.1.2, sameL_eq (fun _ _ => same1_eq) h.2]
  · exact same1_eq h
theorem sameA_eq {x y : SV} (h : sameA x y = true) : x = y := by
  unfold sameA at h
  split at h
  · rw [sameL_eq (fun _ _ => same2_eq) h]
  · exact same2_eq h
theorem same3_eq {x y : SV} (h : same3 x y = true) : x = y := by
  unfold same3 at h
  split at h
  · rw [sameL_eq (fun _ _ => sameA_eq) h]
  · exact sameA_eq h
theorem sameT_eq : ∀ {x y : Tr SV}, sameT x y = true → x = y
  | .lf, .lf, _ => rfl
  | .nd none l r, .nd none l' r', h => by
    simp only [sameT, Bool.and_eq_true] at h
    rw [sameT_eq h.1, sameT_eq h.2]
  | .nd (some x) l r, .nd (some y) l' r', h => by
    simp only [sameT, Bool.and_eq_true] at h
    rw [same3_eq h.1.1, sameT_eq h.1.2, sameT_eq h.2]
  | .lf, .nd _ _ _, h => by simp [sameT] at h
  | .nd _ _ _, .lf, h => by simp [sameT] at h
  | .nd none _ _, .nd (some _) _ _, h => by simp [sameT] at h
  | .nd (some _) _ _, .nd none _ _, h => by simp [sameT] at h
theorem sameE_eq : ∀ {l k : List (List Int × SV × Nat)}, sameE l k = true → l = k
  | [], [], _ => rfl
  | [], _ :: _, h => by cases h
  | _ :: _, [], h => by cases h
  | (a, x, b) :: l, (a', y, b') :: k, h => by
    simp only [sameE, Bool.and_eq_true, Nat.beq_eq, decide_eq_true_eq] at h
    rw [h.1.1.1, same3_eq h.1.1.2, h.1.2, sameE_eq h.2]
theorem sameB_eq {x y : Option CB} (h : sameB x y = true) : x = y := by
  unfold sameB at h
  split at h
  · simp only [Bool.and_eq_true, Nat.beq_eq, beq_iff_eq] at h
    rw [h.1.1.1.1.1, h.1.1.1.1.2, h.1.1.1.2, sameL_eq (fun _ _ => same2_eq) h.1.1.2, sameT_eq h.1.2, h.2]
  · simp only [Bool.and_eq_true, Nat.beq_eq, beq_iff_eq, decide_eq_true_eq] at h
    rw [h.1.1.1, h.1.1.2, sameE_eq h.1.2, h.2]
  · rfl
  · cases h
theorem subTr_lf : ∀ {x : Tr CB}, subTr x .lf = true → ∀ i, x.get i = none
  | .lf, _, _ => rfl
  | .nd v l r, h, i => by
    simp only [subTr, Bool.and_eq_true, Option.isNone_iff_eq_none] at h
    obtain ⟨⟨h1, h2⟩, h3⟩ := h
    simp only [Tr.get_nd]
    split
    · exact h1
    · split
      · exact subTr_lf h2 _
      · exact subTr_lf h3 _
theorem subTr_get : ∀ {x y : Tr CB}, subTr x y = true → ∀ i c, x.get i = some c → y.get i = some c
  | .lf, _, _, i, c, hc => by simp [Tr.get_lf] at hc
  | .nd v l r, .lf, h, i, c, hc => by rw [subTr_lf h i] at hc; cases hc
  | .nd v l r, .nd v' l' r', h, i, c, hc => by
    simp only [subTr, Bool.and_eq_true] at h
    obtain ⟨⟨h1, h2⟩, h3⟩ := h
    simp only [Tr.get_nd] at hc ⊢
    split at hc
    · rename_i e
      rw [if_pos e]
      subst hc
      exact (sameB_eq h1).symm
    · rename_i e
      rw [if_neg e]
      split at hc
      · rename_i e; rw [if_pos e]; exact subTr_get h2 _ _ hc
      · rename_i e; rw [if_neg e]; exact subTr_get h3 _ _ hc
structure KnownOk (P : Program) (K : Known) : Prop where
  ents : ∀ e ∈ K.ents, Calls2 P e.f e.args e.n e.m e.q
  closed : ∀ c ∈ K.closed, ACall P c.1 [] (.val c.2)
  sums : ∀ f g, K.sums f = some g → ∀ args n m q, g args n m = some q → Calls2 P f args n m q
theorem cwp_closed {f : FuncId} {v : Value} (h : ACall P f [] (.val v)) (n : Nat) (m : Mem) : CWp P f [] n m fun y n' m' => y = .d (.val v) ∧ n' = n ∧ m' = m :=
  ⟨h.callable, fun W0 R0 E w vs M hsz hrep => by
    refine (h.calls E.ro w vs M.rlt (by simpa using hsz) (by simp)).mono ?_
    rintro e w' ⟨u, rfl, hb, hr⟩
    let E2 : Env := { E with ro := fun b => E.ro b ∨ (w.heap.size ≤ b ∧ b < w'.heap.size) }
    have hE : E.le E2 := ⟨fun _ h => .inl h, fun _ h => h, fun _ _ => rfl⟩
    have hUlt : ∀ b, W0.U b → b < w.heap.size := fun b hb => Nat.lt_of_lt_of_le (W0.lt b hb) M.below.size
    have hro : ∀ b, E.ro b → w'.heap[b]? = w.heap[b]? := fun b hb' => hb.block b (M.rlt b hb')
    refine ⟨u, E2, n, m, .d (.val v), rfl, ⟨M.below.trans (kept_of hb hUlt), fun b hb => .inl (M.ro0 b hb), fun b hb' => ?_, fun b hb' => ?_, M.dom, M.live, fun i b hi => (M.mem i b hi).keep hE hro (hb.block _ (M.mem i b hi).lt), M.base, fun i b hi => ?_, M.inj⟩, hE, hro, .d _ _ hr, rfl, rfl, rfl⟩
    · rcases hb' with h1 | h1
      · exact M.ro1 b h1
      · exact .inr fun h2 => by have := hUlt b h2; omega
    · rcases hb' with h1 | h1
      · exact Nat.lt_of_lt_of_le (M.rlt b h1) hb.size
      · exact h1.2
    · refine (M.frz i b hi).trans ⟨fun h => .inl h, fun h1 => ?_⟩
      rcases h1 with h1 | h1
      · exact h1
      · have h3 : (E.home i).blk < w.heap.size := (M.mem i b hi).lt
        have h4 : w.heap.size ≤ (E.home i).blk := h1.1
        omega⟩
theorem findC_mem {f : FuncId} : ∀ {l : List (FuncId × Value)} {v : Value}, findC f l = some v → (f, v) ∈ l
  | [], _, h => by cases h
  | (g, u) :: l, v, h => by
    simp only [findC, beq_nat, cond_eq_ite, decide_eq_true_eq] at h
    split at h
    · rename_i e; subst e; cases h; exact List.mem_cons_self
    · exact List.mem_cons_of_mem _ (findC_mem h)
theorem findE_mem {n : Nat} : ∀ {l : List Ent} {e : Ent}, findE n l = some e → e ∈ l ∧ e.n = n
  | [], _, h => by cases h
  | g :: l, e, h => by
    simp only [findE, beq_nat, cond_eq_ite, decide_eq_true_eq] at h
    split at h
    · rename_i e; cases h; exact ⟨List.mem_cons_self, e⟩
    · exact ⟨List.mem_cons_of_mem _ (findE_mem h).1, (findE_mem h).2⟩
theorem noLoop_get : ∀ {x : Tr CB}, noLoop x = true → ∀ i st pe k sl ps a b, x.get i ≠ some (.loop st pe k sl ps a b)
  | .lf, _, _, _, _, _, _, _, _, _ => by simp [Tr.get_lf]
  | .nd v l r, h, i, st, pe, k, sl, ps, a, b => by
    simp only [noLoop, Bool.and_eq_true] at h
    obtain ⟨⟨h1, h2⟩, h3⟩ := h
    simp only [Tr.get_nd]
    split
    · intro e; rw [e] at h1; simp at h1
    · split
      · exact noLoop_get h2 _ _ _ _ _ _ _ _
      · exact noLoop_get h3 _ _ _ _ _ _ _ _
theorem top_get {α : Type} (t : Tr α) : t.get 0 = t.top := by cases t <;> rfl
theorem left_get {α : Type} (t : Tr α) (i : Nat) (h0 : i ≠ 0) (h : i % 2 = 1) : t.get i = t.left.get (i / 2) := by
  cases t with
  | lf => rfl
  | nd v l r => rw [Tr.get_nd, if_neg h0, if_pos h]; rfl
theorem right_get {α : Type} (t : Tr α) (i : Nat) (h0 : i ≠ 0) (h : ¬ i % 2 = 1) : t.get i = t.right.get (i / 2 - 1) := by
  cases t with
  | lf => rfl
  | nd v l r => rw [Tr.get_nd, if_neg h0, if_neg h]; rfl
theorem frameT_get {α : Type} : ∀ (m m0 mq : Tr α) (i : Nat), (frameT m m0 mq).get i = pk (m.get i) (m0.get i) (mq.get i)
  | .lf, m0, mq, i => by
    simp only [frameT, Tr.get_lf, pk]
    split <;> rfl
  | .nd v l r, m0, mq, i => by
    simp only [frameT]
    rw [Tr.get_nd]
    by_cases h0 : i = 0
    · subst h0
      rw [if_pos rfl, top_get, top_get, top_get]
      rfl
    · rw [if_neg h0]
      by_cases h : i % 2 = 1
      · rw [if_pos h, frameT_get l, left_get _ i h0 h, left_get m0 i h0 h, left_get mq i h0 h]
        rfl
      · rw [if_neg h, frameT_get r, right_get _ i h0 h, right_get m0 i h0 h, right_get mq i h0 h]
        rfl
theorem cwp_more {f : FuncId} {args : List SV} {n : Nat} {m0 m : Tr CB} {q : Rs} (h : CWp P f args n (mOf m0) (ResIs q)) (hm : ∀ i b, mOf m0 i = some b → mOf m i = some b) : CWp P f args n (mOf m) (ResIs ⟨q.y, q.n, frameT m m0 q.m⟩) :=
  ⟨h.callable, fun W0 R0 E w vs M h1 h2 => by
    let W1 : Fix := { w := w, U := fun b => b < w.heap.size ∧ ∀ i c, mOf m0 i = some c → (E.home i).blk ≠ b, lt := fun _ h => h.1, g := fun _ => undef }
    have hU : ∀ b, W0.U b → W1.U b := fun b hb => ⟨Nat.lt_of_lt_of_le (W0.lt b hb) M.below.size, fun i c hi e => M.base i c (hm i c hi) (e ▸ hb)⟩
    have hUn : ∀ i b, mOf m i = some b → mOf m0 i = none → W1.U (E.home i).blk := fun i b hi hn => ⟨(M.mem i b hi).lt, fun j c hj => M.inj j i c b (hm j c hj) hi fun e => by rw [e, hn] at hj; cases hj⟩
    have M1 : MS W1 E.ro (· < n) (mOf m0) E w := ⟨Kept.refl _ _, fun _ h => h, fun _ h => .inl h, M.rlt, M.dom, fun i b hi => M.live i b (hm i b hi), fun i b hi => M.mem i b (hm i b hi), fun i b hi h => h.2 i b hi rfl, fun i b hi => M.frz i b (hm i b hi), fun i j b c hi hj hn => M.inj i j b c (hm i b hi) (hm j c hj) hn⟩
    refine (h.calls W1 E.ro E w vs M1 h1 h2).mono ?_
    rintro e w' ⟨v, E', n', m', y, rfl, M2, hE, hw, hv, rfl, rfl, rfl⟩
    have hro : ∀ b, E'.ro b → E.ro b ∨ ¬ W1.U b := M2.ro1
    have cases_ : ∀ i b, mOf (frameT m m0 q.m) i = some b → mOf q.m i = some b ∨ (mOf m i = some b ∧ mOf m0 i = none) := fun i b hb => by
      simp only [mOf, frameT_get] at hb ⊢
      unfold pk at hb
      split at hb
      · exact .inl hb
      · rename_i h0
        split at hb
        · rename_i c hc
          exact .inr ⟨by rw [hc]; exact hb, by rw [h0]; rfl⟩
        · exact .inl hb
    refine ⟨v, E', q.n, mOf (frameT m m0 q.m), q.y, rfl, ⟨M.below.trans (M2.below.mono hU), fun b hb => hE.ro b (M.ro0 b hb), fun b hb => ?_, M2.rlt, M2.dom, fun i b hi => ?_, fun i b hi => ?_, fun i b hi => ?_, fun i b hi => ?_, fun i j b c hi hj hn => ?_⟩, hE, hw, hv, rfl, rfl, rfl⟩
    · rcases hro b hb with h3 | h3
      · exact M.ro1 b h3
      · exact .inr fun h4 => h3 (hU b h4)
    · rcases cases_ i b hi with h3 | ⟨h3, _⟩
      · exact M2.live i b h3
      · exact hE.dom i (M.live i b h3)
    · rcases cases_ i b hi with h3 | ⟨h3, hn⟩
      · exact M2.mem i b h3
      · rw [hE.home i (M.live i b h3)]
        exact (M.mem i b h3).keep hE hw (M2.below.block _ (hUn i b h3 hn))
    · rcases cases_ i b hi with h3 | ⟨h3, _⟩
      · exact fun h4 => M2.base i b h3 (hU _ h4)
      · rw [hE.home i (M.live i b h3)]
        exact M.base i b h3
    · rcases cases_ i b hi with h3 | ⟨h3, hn⟩
      · exact M2.frz i b h3
      · rw [hE.home i (M.live i b h3)]
        refine (M.frz i b h3).trans ⟨fun h => hE.ro _ h, fun h => ?_⟩
        rcases hro _ h with h4 | h4
        · exact h4
        · exact absurd (hUn i b h3 hn) h4
    · rcases cases_ i b hi with h3 | ⟨h3, hn3⟩
      · rcases cases_ j c hj with h4 | ⟨h4, hn4⟩
        · exact M2.inj i j b c h3 h4 hn
        · rw [hE.home j (M.live j c h4)]
          exact fun e => M2.base i b h3 (e ▸ hUn j c h4 hn4)
      · rcases cases_ j c hj with h4 | ⟨h4, hn4⟩
        · rw [hE.home i (M.live i b h3)]
          exact fun e => M2.base j c h4 (e ▸ hUn i b h3 hn3)
        · rw [hE.home i (M.live i b h3), hE.home j (M.live j c h4)]
          exact M.inj i j b c h3 h4 hn⟩
theorem callK_sound (hT : TabOk P T) (hK : KnownOk P K) (hN : NoGor P) (hR : SoundR P R) {f : FuncId} {args : List SV} {n : Nat} {m : Tr CB} {q : Rs} (h : callK P T K R f args n m = some q) : Calls2 P f args n m q := by
  unfold callK at h
  split at h
  · rename_i v hv
    split at h
    · cases h
      exact ⟨cwp_closed (hK.closed _ (findC_mem hv)) n (mOf m), Nat.le_refl _, Recs.refl _⟩
    · cases h
  · split at h
    · rename_i g hg
      exact hK.sums f g hg args n m q h
    split at h
    · rename_i e he
      obtain ⟨h1, h2⟩ := findE_mem he
      cases hc : (Nat.beq e.f f && sameL same3 args e.args && subTr e.m m && noLoop e.m) with
      | false => rw [hc] at h; exact callFn_sound hT hN hR h
      | true =>
        rw [hc] at h
        cases h
        simp only [Bool.and_eq_true, Nat.beq_eq] at hc
        obtain ⟨⟨⟨c1, c2⟩, c3⟩, c4⟩ := hc
        have hg := subTr_get c3
        have hm : ∀ i b, mOf e.m i = some b → mOf m i = some b := fun i b hb => by
          simp only [mOf, Option.map_eq_some_iff] at hb ⊢
          obtain ⟨c, hc, rfl⟩ := hb
          exact ⟨c, hg i c hc, rfl⟩
        have H := hK.ents e h1
        rw [c1, h2, ← sameL_eq (fun _ _ => same3_eq) c2] at H
        refine ⟨cwp_more H.call hm, H.n, fun id st pe k sl ps x y hh => ⟨st, pe, ?_⟩⟩
        rw [frameT_get]
        cases h0 : e.m.get id with
        | none => simp only [pk, hh]
        | some c =>
          have := hg id c h0
          rw [hh] at this
          cases this
          exact absurd h0 (noLoop_get c4 id st pe k sl ps x y)
    · exact callFn_sound hT hN hR h
theorem Calls2.less {f : FuncId} {args : List SV} {n : Nat} {m : Tr CB} {q q' : Rs} (h : Calls2 P f args n m q) (hy : q'.y = q.y) (hn : q'.n = q.n) (hm : ∀ i b, mOf q'.m i = some b → mOf q.m i = some b) (hr : Recs m q'.m) : Calls2 P f args n m q' := by
  refine ⟨⟨h.call.callable, fun W0 R0 E w vs M h1 h2 => (h.call.calls W0 R0 E w vs M h1 h2).mono ?_⟩, by rw [hn]; exact h.n, hr⟩
  rintro e w' ⟨v, E', n', m', y, rfl, M2, hE, hk, hv, rfl, rfl, rfl⟩
  exact ⟨v, E', q'.n, mOf q'.m, q'.y, rfl, ⟨M2.below, M2.ro0, M2.ro1, M2.rlt, fun i hi => by rw [hn]; exact M2.dom i hi, fun i b hi => M2.live i b (hm i b hi), fun i b hi => M2.mem i b (hm i b hi), fun i b hi => M2.base i b (hm i b hi), fun i b hi => M2.frz i b (hm i b hi), fun i j b c hi hj hne => M2.inj i j b c (hm i b hi) (hm j c hj) hne⟩, hE, hk, by rw [hy]; exact hv, rfl, rfl, rfl⟩
def StepIs (P : Program) (r : Option Nat) (ns n : Nat) (s : St) (o : Oper) (q : Rs) : Prop := StepI P r ns n s o fun n2 s2 => n2 = q.n ∧ s2 = ⟨setSlot s.slots o.dst q.y, mOf q.m⟩
structure Does (P : Program) (ns : Nat) (ev : Operand → Option SV) (s : CS) (o : Oper) (q : Rs) : Prop where
  step : ∀ (r : Option Nat) (s' : St), s'.mem = mOf s.mem → (∀ x v, ev x = some v → opd ns s' x = some v) → StepIs P r ns s.n s' o q
  n : s.n ≤ q.n
  recs : Recs s.mem q.m
theorem doOp_sound (hT : TabOk P T) (hZ : ZTabOk T Z) (hQ : QTabOk P Q) (hM : MTabOk P M) (hK : KnownOk P K) (hN : NoGor P) (hR : SoundR P R) {ev : Operand → Option SV} {s : CS} {o : Oper} {q : Rs} (h : doOp P T Z Q M K R ev s o = some q) : Does P ns ev s o q := by
  unfold doOp at h
  split at h
  · rename_i hc
    have hdf := calleeC_plain hc
    cases hw : isW o.op with
    | true =>
      rw [hw] at h
      simp only [cond_true] at h
      split at h
      · rename_i x m' hx
        cases h
        have hrec : Recs s.mem m' := xW_recs hx
        refine ⟨fun r s' hm hev W0 R0 B E a w hi hs hd K1 Q' hK1 => ?_, Nat.le_succ _, hrec⟩
        obtain ⟨⟨E', w', h1, h2⟩, _⟩ := xW_run hT hZ hM hs hm (nid := s.n) (by omega) (fun x v hx => hs.opd (hev x v hx)) hx
        refine oper_in hdf ?_
        unfold Oper.wp
        rcases h2 with ⟨v, hr, hv⟩ | ⟨hr, hu⟩
        · rw [hr]
          exact hK1 _ _ E' _ w' ⟨rfl, rfl⟩ ((h1.weak (D' := (· < s.n + 1)) fun i hi => by omega).put hd hv)
        · rw [hr]
          have := (h1.weak (D' := (· < s.n + 1)) fun i hi => by omega).put hd (Rep.und (E := E') (w := w') undef)
          exact hK1 _ _ E' _ w' ⟨rfl, by rw [hu]⟩ this
      · cases h
    | false =>
      rw [hw] at h
      simp only [cond_false] at h
      split at h
      · rename_i x hx
        cases h
        refine ⟨fun r s' hm hev W0 R0 B E a w hi hs hd K1 Q' hK1 => ?_, Nat.le_refl _, Recs.refl _⟩
        refine oper_in hdf (PureStep.wp (P := P) (s := s') (x := x) (fun W0 R0 D E a w hs => xR_run hT hQ hM (fun x v hx => hs.opd (hev x v hx)) (fun i b hi => hs.mem i b (by rw [hm]; exact hi)) hx) hs hd fun a' hs' => ?_)
        exact hK1 _ ⟨setSlot s'.slots o.dst x, mOf s.mem⟩ E _ w ⟨rfl, rfl⟩ (by rw [hm] at hs'; exact hs')
      · cases h
  · rename_i f l hc
    have h1 := callK_sound hT hK hN hR h
    refine ⟨fun r s' hm hev => ?_, h1.n, h1.recs⟩
    have h2 := stepI_call (r := r) (n := s.n) (calleeC_fn hev hc) (by rw [hm]; exact h1.call)
    exact fun W0 R0 B E a w hi hs hd K1 Q' hK1 => h2 W0 R0 B E a w hi hs hd K1 Q' fun n2 s2 E' a' w' ⟨y, m2, ⟨e1, e2, e3⟩, e4⟩ hs2 => hK1 n2 s2 E' a' w' ⟨e2, by rw [e4, e1, e3]⟩ hs2
  · rename_i id l hc
    have h1 := callYl_sound hR h
    refine ⟨fun r s' hm hev => ?_, h1.n, h1.recs⟩
    have h2 := h1.call r ns s' o hm (calleeC_yl hev hc)
    exact fun W0 R0 B E a w hi hs hd K1 Q' hK1 => h2 W0 R0 B E a w hi hs hd K1 Q' fun n2 s2 E' a' w' ⟨y, m2, ⟨e1, e2, e3⟩, e4⟩ hs2 => hK1 n2 s2 E' a' w' ⟨e2, by rw [e4, e1, e3]⟩ hs2
  · cases h
end Go.Proofs.Ytdkneonokbakjaa.Eng

noncomputable section
namespace Go.Proofs.Ytdkneonokbakjaa.Eng
open Go.RowKit
variable {P : Program} {T : Tab} {Z : ZTab} {Q : QTab} {M : MTab} {K : Known} {R : Runner} {r : Option Nat} {ns : Nat}
theorem sOf_dst {s : CS} {ops : Array Oper} {o : Oper} {b : Bool} (hns : okN ns = true) (hg : guardS ops ns s.den o = some b) (x : SV) : sOf (putD s.sl o.dst x) = setSlot (sOf s.sl) o.dst x :=
  sOf_putD fun i hi => Nat.lt_trans (guardS_dst hg i hi) (okN_lt hns)
theorem doOps_sound (hT : TabOk P T) (hZ : ZTabOk T Z) (hQ : QTabOk P Q) (hM : MTabOk P M) (hK : KnownOk P K) (hN : NoGor P) (hR : SoundR P R) (hns : okN ns = true) {ops : Array Oper} : ∀ (l : List Oper) (s : CS) {s' : CS}, doOps P T Z Q M K R ns ops l s = some s' →
    s.n ≤ s'.n ∧ Recs s.mem s'.mem ∧ ∀ {W0 : Fix} {R0 : Nat → Prop} {B : Nat} {E : Env} {a : Act} {w : World} {Q : Exit → Act → World → Prop}, InAct r W0 R0 B → Sim W0 R0 ns (· < s.n) s.den E a w → (∀ E' a' w', Sim W0 R0 ns (· < s'.n) s'.den E' a' w' → Q .normal a' w') → wpListIn (fen (rOf W0 r)) 0 P ops Q l a w
  | [], s, s', h => by
    cases h
    exact ⟨Nat.le_refl _, Recs.refl _, fun _ hs hQ => hQ _ _ _ hs⟩
  | o :: l, s, s', h => by
    simp only [doOps, doF_eq, gF_eq] at h
    split at h
    · rename_i hg
      split at h
      · rename_i q hq
        have h1 := doOp_sound hT hZ hQ hM hK hN hR (ns := ns) hq
        obtain ⟨i1, i2, i3⟩ := doOps_sound hT hZ hQ hM hK hN hR hns l _ h
        refine ⟨Nat.le_trans h1.n i1, h1.recs.trans i2, fun {W0 R0 B E a w Q} hi hs hQ => wpListIn_step fun K hK => ?_⟩
        rw [guard_ok hs hg, if_pos rfl]
        refine h1.step r s.den rfl (fun x v hx => hx) _ _ _ _ _ _ hi hs (guardS_dst hg) K _ fun n2 s2 E' a' w' hG hs2 => hK _ _ (i3 (E := E') hi ?_ hQ)
        obtain ⟨rfl, rfl⟩ := hG
        simp only [CS.den, sOf_dst hns hg]
        exact hs2
      · cases h
    · rename_i hg
      obtain ⟨i1, i2, i3⟩ := doOps_sound hT hZ hQ hM hK hN hR hns l _ h
      refine ⟨i1, i2, fun {W0 R0 B E a w Q} hi hs hQ => wpListIn_step fun K hK => ?_⟩
      rw [guard_ok hs hg, if_neg (by simp)]
      refine ⟨fun f _ => fen_fn _ f, hK _ _ (i3 (E := E) hi ?_ hQ)⟩
      simp only [CS.den, sOf_dst hns hg]
      exact hs.put (guardS_dst hg) rep_no
    · cases h
theorem evR_slots {L : List Nat} {f : Nat → SV} {s : St} (h : ∀ t ∈ L, s.slots t = f t) : ∀ x v, evR L ns f x = some v → opd ns s x = some v := fun x v hx => by
  cases x with
  | tmp t =>
    simp only [evR] at hx
    cases hc : (memN L t && Nat.ble (t + 1) ns) with
    | false => rw [hc] at hx; cases hx
    | true =>
      rw [hc] at hx
      rw [Bool.and_eq_true, memN_iff, Nat.ble_eq] at hc
      cases hx
      simp only [opd, if_pos (show t < ns from hc.2), h t hc.1]
  | const c => exact hx
  | global => cases hx
  | func => exact hx
theorem memC_sub {m : Tr CB} : ∀ {l : List Nat} {i : Nat} {b : Blk}, mOf (memC m l) i = some b → i ∈ l ∧ mOf m i = some b
  | [], i, b, h => by simp [memC, mOf, Tr.get_lf] at h
  | j :: l, i, b, h => by
    simp only [memC] at h
    cases hc : Nat.ble j 10000000 with
    | false => rw [hc] at h; exact ⟨List.mem_cons_of_mem _ (memC_sub h).1, (memC_sub h).2⟩
    | true =>
      rw [hc] at h
      simp only [cond_true, mOf_put (lt_deep hc), setMem] at h
      by_cases e : i = j
      · rw [if_pos e] at h
        subst e
        exact ⟨List.mem_cons_self, h⟩
      · rw [if_neg e] at h
        exact ⟨List.mem_cons_of_mem _ (memC_sub h).1, (memC_sub h).2⟩
structure EnOk (P : Program) (T : Tab) (Z : ZTab) (Q : QTab) (M : MTab) (K : Known) (R : Runner) (ns : Nat) (ops : Array Oper) (o : Oper) (e : En) : Prop where
  k : match e.k with
    | .off => guardS ops ns e.s.den o = some false ∧ e.s' = ⟨e.s.n, putD e.s.sl o.dst (.tup []), e.s.mem⟩
    | .pure x ids => guardS ops ns e.s.den o = some true ∧ plainP (evR (slotsOf o.op) ns (sOf e.s.sl)) o.op = true ∧ xR T Q M (memC e.s.mem ids) (evR (slotsOf o.op) ns (sOf e.s.sl)) o.op = some x ∧ e.s' = ⟨e.s.n, putD e.s.sl o.dst x, e.s.mem⟩
    | .exact y => guardS ops ns e.s.den o = some true ∧ ∃ q, doOp P T Z Q M K R (evR (slotsOf o.op) ns (sOf e.s.sl)) e.s o = some q ∧ y = q.y ∧ e.s' = ⟨q.n, putD e.s.sl o.dst q.y, q.m⟩
inductive Chain (P : Program) (T : Tab) (Z : ZTab) (Q : QTab) (M : MTab) (K : Known) (R : Runner) (ns : Nat) (ops : Array Oper) : List Oper → List En → CS → CS → Prop
  | nil (s) : Chain P T Z Q M K R ns ops [] [] s s
  | cons {o l e es sF} : EnOk P T Z Q M K R ns ops o e → Chain P T Z Q M K R ns ops l es e.s' sF → Chain P T Z Q M K R ns ops (o :: l) (e :: es) e.s sF
theorem drOps_chain {ops : Array Oper} : ∀ (l : List Oper) (s : CS) {es : List En} {sF : CS}, drOps P T Z Q M K R ns ops l s = some (es, sF) → Chain P T Z Q M K R ns ops l es s sF
  | [], s, es, sF, h => by cases h; exact .nil s
  | o :: l, s, es, sF, h => by
    simp only [drOps, doF_eq, gF_eq, pureF_eq] at h
    split at h
    · rename_i hg
      split at h
      · rename_i es' s2 hr
        cases h
        exact .cons (e := ⟨.off, s, _⟩) ⟨hg, rfl⟩ (drOps_chain l _ hr)
      · cases h
    · rename_i hg
      cases hp : plainS o.op with
      | true =>
        rw [hp] at h
        simp only [cond_true] at h
        split at h
        · rename_i x hx
          split at h
          · rename_i es' s2 hr
            cases h
            exact .cons (e := ⟨.pure x _, s, _⟩) ⟨hg, plainS_P hp _, hx, rfl⟩ (drOps_chain l _ hr)
          · cases h
        · cases h
      | false =>
        rw [hp] at h
        simp only [cond_false] at h
        split at h
        · rename_i q hq
          split at h
          · rename_i es' s2 hr
            cases h
            exact .cons (e := ⟨.exact q.y, s, _⟩) ⟨hg, q, hq, rfl, rfl⟩ (drOps_chain l _ hr)
          · cases h
        · cases h
    · cases h
def stAt (es : List En) (sF : CS) (k : Nat) : CS := match es[k]? with
  | some e => e.s
  | none => sF
theorem chain_len {ops : Array Oper} {l : List Oper} {es : List En} {s sF : CS} (h : Chain P T Z Q M K R ns ops l es s sF) : es.length = l.length := by
  induction h with
  | nil => rfl
  | cons _ _ ih => simp [ih]
theorem chain_zero {ops : Array Oper} {l : List Oper} {es : List En} {s sF : CS} (h : Chain P T Z Q M K R ns ops l es s sF) : stAt es sF 0 = s := by
  cases h with
  | nil => rfl
  | cons => rfl
theorem chain_at {ops : Array Oper} {l : List Oper} {es : List En} {s sF : CS} (h : Chain P T Z Q M K R ns ops l es s sF) : ∀ (k : Nat) o, l[k]? = some o → ∃ e, es[k]? = some e ∧ EnOk P T Z Q M K R ns ops o e ∧ stAt es sF k = e.s ∧ stAt es sF (k + 1) = e.s' := by
  induction h with
  | nil => intro k o hk; simp at hk
  | @cons o l e es sF he hc ih =>
    intro k o' hk
    match k with
    | 0 =>
      simp only [List.getElem?_cons_zero, Option.some.injEq] at hk
      subst hk
      exact ⟨e, rfl, he, rfl, chain_zero hc⟩
    | k + 1 =>
      obtain ⟨e', h1, h2, h3, h4⟩ := ih k o' (by simpa using hk)
      exact ⟨e', by simpa using h1, h2, h3, h4⟩
theorem chain_end {ops : Array Oper} {l : List Oper} {es : List En} {s sF : CS} (h : Chain P T Z Q M K R ns ops l es s sF) : stAt es sF l.length = sF := by
  unfold stAt
  rw [List.getElem?_eq_none (by rw [chain_len h]; omega)]
def kdOf (es : List En) (k : Nat) : Kd := match es[k]? with
  | some e => match e.k with
    | .off => .off
    | .pure x ids => .pure x ids
    | .exact y => .exact y e.s'.n (mOf e.s'.mem)
  | none => .off
theorem okAfter_spec {i : Nat} {a : En} : ∀ {bs : List Nat} {es : List En}, okAfter i a bs es = true → es.length ≤ bs.length → ∀ (q : Nat) e, es[q]? = some e → ∃ b, bs[q]? = some b ∧ pairOk b i a e = true
  | [], [], _, _, q, e, h => by simp at h
  | [], _ :: _, _, hl, _, _, _ => by simp at hl
  | _ :: _, [], _, _, q, e, h => by simp at h
  | b :: bs, e :: es, h, hl, q, f, hq => by
    simp only [okAfter, Bool.and_eq_true] at h
    match q with
    | 0 =>
      simp only [List.getElem?_cons_zero, Option.some.injEq] at hq
      subst hq
      exact ⟨b, rfl, h.1⟩
    | q + 1 =>
      have := okAfter_spec h.2 (by simpa using hl) q f (by simpa using hq)
      simpa using this
theorem okEs_spec : ∀ {i0 : Nat} {bs : List Nat} {es : List En}, okEs i0 bs es = true → es.length ≤ bs.length → ∀ (p q : Nat) e f, p < q → es[p]? = some e → es[q]? = some f → ∃ b, bs[q]? = some b ∧ pairOk b (i0 + p) e f = true
  | _, [], [], _, _, p, q, e, f, _, h, _ => by simp at h
  | _, [], _ :: _, _, hl, _, _, _, _, _, _, _ => by simp at hl
  | _, _ :: _, [], _, _, p, q, e, f, _, h, _ => by simp at h
  | i0, b :: bs, e :: es, h, hl, p, q, g, f, hpq, hp, hq => by
    simp only [okEs, Bool.and_eq_true] at h
    obtain ⟨q, rfl⟩ : ∃ q', q = q' + 1 := ⟨q - 1, by omega⟩
    simp only [List.getElem?_cons_succ] at hq ⊢
    match p with
    | 0 =>
      simp only [List.getElem?_cons_zero, Option.some.injEq] at hp
      subst hp
      exact okAfter_spec h.1 (by simpa using hl) q f hq
    | p + 1 =>
      have := okEs_spec h.2 (by simpa using hl) p q g f (by omega) (by simpa using hp) hq
      rw [show i0 + (p + 1) = i0 + 1 + p by omega]
      exact this
theorem anyEx_of : ∀ {es : List En} {k : Nat} {e : En} {y : SV}, es[k]? = some e → e.k = .exact y → anyEx es = true
  | [], k, _, _, h, _ => by simp at h
  | f :: es, 0, e, y, h, hk => by
    simp only [List.getElem?_cons_zero, Option.some.injEq] at h
    subst h
    simp only [anyEx, hk]
  | f :: es, k + 1, e, y, h, hk => by
    simp only [anyEx]
    split
    · rfl
    · exact anyEx_of (by simpa using h) hk
theorem stAfter_spec {i : Nat} {a : Nat × Nat} : ∀ {bs : List Nat} {es : List (Nat × Nat)}, stAfter i a bs es = true → es.length ≤ bs.length → ∀ (q : Nat) e, es[q]? = some e → ∃ b, bs[q]? = some b ∧ (b.testBit i = true ∨ (a.2 &&& (e.1 ||| e.2)) ||| (a.1 &&& e.2) = 0)
  | [], [], _, _, q, e, h => by simp at h
  | [], _ :: _, _, hl, _, _, _ => by simp at hl
  | _ :: _, [], _, _, q, e, h => by simp at h
  | b :: bs, e :: es, h, hl, q, f, hq => by
    simp only [stAfter, Bool.and_eq_true, Bool.or_eq_true] at h
    match q with
    | 0 =>
      simp only [List.getElem?_cons_zero, Option.some.injEq] at hq
      subst hq
      exact ⟨b, rfl, h.1.imp id fun h => by simpa [zeroN] using h⟩
    | q + 1 =>
      have := stAfter_spec h.2 (by simpa using hl) q f (by simpa using hq)
      simpa using this
theorem stAll_spec : ∀ {i0 : Nat} {bs : List Nat} {es : List (Nat × Nat)}, stAll i0 bs es = true → es.length ≤ bs.length → ∀ (p q : Nat) e f, p < q → es[p]? = some e → es[q]? = some f → ∃ b, bs[q]? = some b ∧ (b.testBit (i0 + p) = true ∨ (e.2 &&& (f.1 ||| f.2)) ||| (e.1 &&& f.2) = 0)
  | _, [], [], _, _, p, q, e, f, _, h, _ => by simp at h
  | _, [], _ :: _, _, hl, _, _, _, _, _, _, _ => by simp at hl
  | _, _ :: _, [], _, _, p, q, e, f, _, h, _ => by simp at h
  | i0, b :: bs, e :: es, h, hl, p, q, g, f, hpq, hp, hq => by
    simp only [stAll, Bool.and_eq_true] at h
    obtain ⟨q, rfl⟩ : ∃ q', q = q' + 1 := ⟨q - 1, by omega⟩
    simp only [List.getElem?_cons_succ] at hq ⊢
    match p with
    | 0 =>
      simp only [List.getElem?_cons_zero, Option.some.injEq] at hp
      subst hp
      exact stAfter_spec h.1 (by simpa using hl) q f hq
    | p + 1 =>
      have := stAll_spec h.2 (by simpa using hl) p q g f (by omega) (by simpa using hp) hq
      rw [show i0 + (p + 1) = i0 + 1 + p by omega]
      exact this
theorem ancs_len : ∀ (l : List Oper) (acc : List Nat), (ancs l acc).length = acc.length + l.length
  | [], acc => rfl
  | o :: l, acc => by simp only [ancs, ancs_len l]; simp; omega
theorem kd_ex {es : List En} {k : Nat} (h : (kdOf es k).ex = true) : ∃ e y, es[k]? = some e ∧ e.k = .exact y := by
  unfold kdOf at h
  split at h
  · rename_i e he
    split at h
    · cases h
    · cases h
    · rename_i y hy; exact ⟨e, y, he, hy⟩
  · cases h
theorem kd_pure {es : List En} {k : Nat} {x : SV} {ids : List Nat} (h : kdOf es k = .pure x ids) : ∃ e, es[k]? = some e ∧ e.k = .pure x ids := by
  unfold kdOf at h
  split at h
  · rename_i e he
    split at h
    · cases h
    · rename_i hk; cases h; exact ⟨e, he, hk⟩
    · cases h
  · cases h
theorem draw_of (hT : TabOk P T) (hZ : ZTabOk T Z) (hQ : QTabOk P Q) (hM : MTabOk P M) (hK : KnownOk P K) (hN : NoGor P) (hR : SoundR P R) (hns : okN ns = true) {l : List Oper} {es : List En} {s sF : CS} (h : Chain P T Z Q M K R ns l.toArray l es s sF) (hst : stOk l.toArray = true) (hok : okDyn (ancs l []) es = true) :
    Draw P r ns l (fun k => (stAt es sF k).den) (fun k => (stAt es sF k).n) (kdOf es) := by
  have hlen := chain_len h
  have at_ : ∀ (k : Nat), k < l.length → ∃ o e, l[k]? = some o ∧ es[k]? = some e ∧ EnOk P T Z Q M K R ns l.toArray o e ∧ stAt es sF k = e.s ∧ stAt es sF (k + 1) = e.s' := fun k hk => by
    obtain ⟨e, h1, h2, h3, h4⟩ := chain_at h k _ (List.getElem?_eq_getElem hk)
    exact ⟨_, e, List.getElem?_eq_getElem hk, h1, h2, h3, h4⟩
  unfold stOk at hst
  rw [Bool.and_eq_true] at hst
  have bit : ∀ {i k b : Nat}, (ancs l [])[k]? = some b → b.testBit i = true → Anc l i k := fun {i k b} hb hbt => by
    refine ancs_ok l [] [] rfl rfl (fun k i hk => by simp at hk) k i ?_
    rw [List.getD_eq_getElem?_getD, hb]
    simpa using hbt
  have anc : ∀ i k e f, i < k → es[i]? = some e → es[k]? = some f → (∃ y, e.k = .exact y) ∨ (∃ y, f.k = .exact y) → ∃ b, (ancs l [])[k]? = some b ∧ pairOk b i e f = true := fun i k e f hik hi hk hx => by
    have hany : anyEx es = true := by
      rcases hx with ⟨y, hy⟩ | ⟨y, hy⟩
      · exact anyEx_of hi hy
      · exact anyEx_of hk hy
    unfold okDyn at hok
    rw [hany] at hok
    have := okEs_spec (okEs3_ok hok) (by rw [ancs_len, hlen]; simp) i k e f hik hi hk
    simpa using this
  refine ⟨fun k o hk => ?_, fun k hk => ?_, fun k hk => ?_, fun k o hk hd => ?_, fun k o x ids hk hd => ?_, fun k o y n' m' hk hd => ?_, fun i k oi ok t hik hi hk ht => ?_, fun i k hik hk hi he => ?_, fun i k x ids hik hk hi he => ?_, fun i k x ids hik hk hi he => ?_⟩
  · obtain ⟨e, h1, h2, h3, h4⟩ := chain_at h k o hk
    simp only [h3, h4, kdOf, h1]
    have hk2 := h2.k
    cases hek : e.k with
    | off => rw [hek] at hk2; simp only at hk2 ⊢; rw [hk2.2]; simp only [CS.den, sOf_dst hns hk2.1]; rfl
    | pure x ids => rw [hek] at hk2; simp only at hk2 ⊢; rw [hk2.2.2.2]; simp only [CS.den, sOf_dst hns hk2.1]; rfl
    | exact y => rw [hek] at hk2; simp only at hk2 ⊢; obtain ⟨hg, q, hq, rfl, hs⟩ := hk2; rw [hs]; simp only [CS.den, sOf_dst hns hg]; rfl
  · obtain ⟨o, e, _, h1, h2, h3, h4⟩ := at_ k hk
    simp only [h3, h4, kdOf, h1]
    have hk2 := h2.k
    cases hek : e.k with
    | off => rw [hek] at hk2; simp only at hk2 ⊢; rw [hk2.2]; rfl
    | pure x ids => rw [hek] at hk2; simp only at hk2 ⊢; rw [hk2.2.2.2]; rfl
    | exact y => rfl
  · obtain ⟨o, e, _, h1, h2, h3, h4⟩ := at_ k hk
    simp only [h3, h4, kdOf, h1]
    have hk2 := h2.k
    cases hek : e.k with
    | off => rw [hek] at hk2; simp only at hk2 ⊢; rw [hk2.2]; exact ⟨rfl, Nat.le_refl _⟩
    | pure x ids => rw [hek] at hk2; simp only at hk2 ⊢; rw [hk2.2.2.2]; exact ⟨rfl, Nat.le_refl _⟩
    | exact y =>
      rw [hek] at hk2
      simp only at hk2 ⊢
      obtain ⟨hg, q, hq, rfl, hs⟩ := hk2
      refine ⟨rfl, ?_⟩
      rw [hs]
      exact (doOp_sound hT hZ hQ hM hK hN hR (ns := ns) hq).n
  · obtain ⟨e, h1, h2, h3, h4⟩ := chain_at h k o hk
    simp only [h3]
    simp only [kdOf, h1] at hd
    have hk2 := h2.k
    cases hek : e.k with
    | off => rw [hek] at hk2; exact hk2.1
    | pure x ids => rw [hek] at hd; cases hd
    | exact y => rw [hek] at hd; cases hd
  · obtain ⟨e, h1, h2, h3, h4⟩ := chain_at h k o hk
    simp only [h3]
    simp only [kdOf, h1] at hd
    have hk2 := h2.k
    cases hek : e.k with
    | off => rw [hek] at hd; cases hd
    | exact y => rw [hek] at hd; cases hd
    | pure x' ids' =>
      rw [hek] at hd hk2
      cases hd
      simp only at hk2
      obtain ⟨hg, hp, hx, hs⟩ := hk2
      refine ⟨hg, fun s' hsl hme => PureStep.ro (fun c e' => ?_) fun W0 R0 D E a w hsim => ?_⟩
      · unfold plainP at hp
        split at hp
        · rename_i hc; exact calleeC_plain hc c e'
        · cases hp
      · exact xR_run hT hQ hM (fun y v hv => hsim.opd (evR_slots (s := s') hsl y v hv)) (fun i b hi => by
          obtain ⟨q1, q2⟩ := memC_sub hi
          exact hsim.mem i b ((hme i q1).trans q2)) hx
  · obtain ⟨e, h1, h2, h3, h4⟩ := chain_at h k o hk
    simp only [h3]
    simp only [kdOf, h1] at hd
    have hk2 := h2.k
    cases hek : e.k with
    | off => rw [hek] at hd; cases hd
    | pure x ids => rw [hek] at hd; cases hd
    | exact y' =>
      rw [hek] at hd hk2
      cases hd
      simp only at hk2
      obtain ⟨hg, q, hq, rfl, hs⟩ := hk2
      refine ⟨hg, fun s' hsl hme => ?_⟩
      have h5 := (doOp_sound hT hZ hQ hM hK hN hR (ns := ns) hq).step r s' hme (evR_slots (s := s') hsl)
      rw [hs]
      exact h5
  · have a1 : (l.toArray.toList.map fun o => (maskL (guardSlot l.toArray o ++ slotsOf o.op), maskL o.dst.toList))[i]? = some (maskL (guardSlot l.toArray oi ++ slotsOf oi.op), maskL oi.dst.toList) := by simp [hi]
    have a2 : (l.toArray.toList.map fun o => (maskL (guardSlot l.toArray o ++ slotsOf o.op), maskL o.dst.toList))[k]? = some (maskL (guardSlot l.toArray ok ++ slotsOf ok.op), maskL ok.dst.toList) := by simp [hk]
    obtain ⟨b, hb, h5⟩ := stAll_spec hst.2 (by rw [ancs_len]; simp) i k _ _ hik a1 a2
    rcases h5 with h5 | h6
    · exact bit hb (by simpa using h5)
    · exfalso
      obtain ⟨h7, h8⟩ := or_zero h6
      rcases ht with ⟨ht, h9⟩ | ⟨ht, h9⟩
      · refine and_bit h7 (x := t) (maskL_mem (by simp [ht])) ?_
        rw [Nat.testBit_or, Bool.or_eq_true]
        rcases h9 with h9 | h9 | h9
        · exact .inr (maskL_mem (by simp [h9]))
        · exact .inl (maskL_mem (List.mem_append_left _ h9))
        · exact .inl (maskL_mem (List.mem_append_right _ h9))
      · refine and_bit h8 (x := t) (maskL_mem ?_) (maskL_mem (by simp [ht]))
        rcases h9 with h9 | h9
        · exact List.mem_append_left _ h9
        · exact List.mem_append_right _ h9
  · obtain ⟨e, y, h1, h2⟩ := kd_ex hi
    obtain ⟨f, z, g1, g2⟩ := kd_ex he
    obtain ⟨b, hb, h5⟩ := anc i k e f hik h1 g1 (.inl ⟨y, h2⟩)
    unfold pairOk at h5
    rw [h2, g2] at h5
    exact bit hb h5
  · obtain ⟨e, y, h1, h2⟩ := kd_ex hi
    obtain ⟨f, g1, g2⟩ := kd_pure he
    obtain ⟨b, hb, h5⟩ := anc i k e f hik h1 g1 (.inl ⟨y, h2⟩)
    unfold pairOk at h5
    rw [h2, g2, Bool.or_eq_true] at h5
    refine h5.imp (fun h5 => bit hb h5) fun h5 j hj => ?_
    have h6 := sameB_eq (List.all_eq_true.1 h5 j hj)
    obtain ⟨o, e', _, q1, _, q3, q4⟩ := at_ i (by omega)
    rw [h1] at q1
    cases q1
    simp only [q3, q4, CS.den, mOf, h6]
  · obtain ⟨e, h1, h2⟩ := kd_pure hi
    obtain ⟨f, y, g1, g2⟩ := kd_ex he
    obtain ⟨b, hb, h5⟩ := anc i k e f hik h1 g1 (.inr ⟨y, g2⟩)
    unfold pairOk at h5
    rw [h2, g2, Bool.or_eq_true] at h5
    refine h5.imp (fun h5 => bit hb h5) fun h5 j hj => ?_
    have h6 := sameB_eq (List.all_eq_true.1 h5 j hj)
    obtain ⟨o, e', _, q1, _, q3, q4⟩ := at_ k hk
    rw [g1] at q1
    cases q1
    simp only [q3, q4, CS.den, mOf, h6]
theorem chain_mono (hT : TabOk P T) (hZ : ZTabOk T Z) (hQ : QTabOk P Q) (hM : MTabOk P M) (hK : KnownOk P K) (hN : NoGor P) (hR : SoundR P R) {ops : Array Oper} {l : List Oper} {es : List En} {s sF : CS} (h : Chain P T Z Q M K R ns ops l es s sF) : s.n ≤ sF.n ∧ Recs s.mem sF.mem := by
  induction h with
  | nil => exact ⟨Nat.le_refl _, Recs.refl _⟩
  | @cons o l e es sF he hc ih =>
    have hk := he.k
    have h0 : e.s.n ≤ e.s'.n ∧ Recs e.s.mem e.s'.mem := by
      cases hek : e.k with
      | off => rw [hek] at hk; simp only at hk; rw [hk.2]; exact ⟨Nat.le_refl _, Recs.refl _⟩
      | pure x ids => rw [hek] at hk; simp only at hk; rw [hk.2.2.2]; exact ⟨Nat.le_refl _, Recs.refl _⟩
      | exact y =>
        rw [hek] at hk
        simp only at hk
        obtain ⟨hg, q, hq, rfl, hs⟩ := hk
        have := doOp_sound hT hZ hQ hM hK hN hR (ns := ns) hq
        rw [hs]
        exact ⟨this.n, this.recs⟩
    exact ⟨Nat.le_trans h0.1 ih.1, h0.2.trans ih.2⟩
end Go.Proofs.Ytdkneonokbakjaa.Eng

noncomputable section
namespace Go.Proofs.Ytdkneonokbakjaa.Eng
open Go.RowKit
variable {P : Program} {T : Tab} {Z : ZTab} {Q : QTab} {M : MTab} {K : Known} {R : Runner} {r : Option Nat} {ns : Nat}
theorem Is.here {e : Exit} {s : CS} : Is e s e s.n s.den := ⟨rfl, rfl, rfl⟩
theorem runs_no {c : Code} {s : CS} {e : Exit} (h : AWi P r ns c s.n s.den (Is e s)) : Runs P r ns .no c s e s := ⟨h, Nat.le_refl _, Recs.refl _⟩
theorem Runs.left {c : Code} {k : Nat → St → Prop} {s s1 : CS} {e : Exit} (h1 : Runs P r ns .no c s e s1) (he : e ≠ .normal) : AWi P r ns c s.n s.den (thenP k (Is e s1)) :=
  AWi.mono h1.walk fun e2 _ _ ⟨a, b, c⟩ => by subst a; cases e2 <;> first | exact absurd rfl he | exact ⟨rfl, b, c⟩
theorem Runs.on {c : Code} {k : Nat → St → Prop} {Q : Post} {s s1 : CS} (h1 : Runs P r ns .no c s .normal s1) (h : k s1.n s1.den) : AWi P r ns c s.n s.den (thenP k Q) :=
  AWi.mono h1.walk fun e2 _ _ ⟨a, b, c⟩ => by subst a; subst b; subst c; exact h
theorem hasRec_spec {m : Tr CB} (h : hasRec m r = true) : ∀ id, r = some id → ∃ st pe k sl ps x y z, mOf m id = some (.loop st pe k sl ps x y z) := fun id e => by
  subst e
  unfold hasRec at h
  split at h
  · rename_i e; cases e
  · rename_i i e
    cases e
    split at h
    · rename_i st pe k sl ps x y hg
      exact ⟨_, _, _, _, _, _, _, _, mOf_get hg⟩
    · cases h
theorem rangeX_sound (hT : TabOk P T) (hN : NoGor P) (hR : SoundR P R) {s s' : CS} {f : FuncId} {us vs : List SV} {ps : Array Tmp} {x y : Code} {g : Operand} {e : Exit} (hg : opd ns s.den g = some (.fn f us vs)) (h : rangeX P T R r ns s f us vs ps x y = some (e, s')) : Runs P r ns .no (.rangeFunc g ps x y) s e s' := by
  unfold rangeX at h
  cases hc : (free s.mem s.n && hasRec s.mem r) with
  | false => rw [hc] at h; cases h
  | true =>
    rw [hc] at h
    simp only [cond_true] at h
    rw [Bool.and_eq_true] at hc
    obtain ⟨c1, c2⟩ := hc
    obtain ⟨hlt, hnone⟩ := free_spec c1
    split at h
    · rename_i q hq
      have h1 := callFn_sound hT hN hR hq
      obtain ⟨st', pe', hg'⟩ := h1.recs s.n .ready none ns s.sl ps x y (by rw [get_putM hlt, if_pos rfl])
      split at h
      · rename_i st pe _ _ _ _ _ hg2
        rw [hg'] at hg2
        cases hg2
        have hrec : Recs s.mem (putM q.m s.n (some (.loop .exhausted pe' ns s.sl ps x y))) := ((Recs.new c1).trans h1.recs).trans (Recs.upd hg' hlt _ _)
        have key : st' ≠ .busy → afterX pe' ⟨q.n, s.sl, putM q.m s.n (some (.loop .exhausted pe' ns s.sl ps x y))⟩ = some (e, s') → Runs P r ns .no (.rangeFunc g ps x y) s e s' := fun hst ha => by
          have hs' : s' = ⟨q.n, s.sl, putM q.m s.n (some (.loop .exhausted pe' ns s.sl ps x y))⟩ := by
            unfold afterX at ha
            split at ha <;> first | (cases ha; rfl) | cases ha
          refine ⟨AWi.rangeFunc hg (hasRec_spec c2) ?_, by rw [hs']; exact Nat.le_trans (Nat.le_succ _) h1.n, by rw [hs']; exact hrec⟩
          have h2 := h1.call
          rw [mOf_put hlt] at h2
          refine h2.mono ?_
          rintro y2 n2 m2 ⟨rfl, rfl, rfl⟩
          refine ⟨st', pe', mOf_get hg', hst, ?_⟩
          have e1 : (⟨(s.den).slots, setMem (mOf q.m) s.n (some (.loop .exhausted pe' ns (s.den).slots ps x y false))⟩ : St) = s'.den := by
            rw [hs']
            simp only [CS.den, mOf_put hlt]
            rfl
          have e2 : q.n = s'.n := by rw [hs']
          show afterP _ q.n ⟨(s.den).slots, setMem (mOf q.m) s.n (some (.loop .exhausted pe' ns (s.den).slots ps x y false))⟩ pe'
          rw [e1, e2]
          unfold afterX at ha
          split at ha
          · cases ha; exact Is.here
          · cases ha; exact Is.here
          · cases ha; exact Is.here
          · cases ha; exact Is.here
          · cases ha
        cases st' with
        | busy => cases h
        | ready => exact key (by simp) h
        | done => exact key (by simp) h
        | exhausted => exact key (by simp) h
      · cases h
    · cases h
theorem bodyC_sound (hT : TabOk P T) (hZ : ZTabOk T Z) (hQ : QTabOk P Q) (hM : MTabOk P M) (hK : KnownOk P K) (hN : NoGor P) (hm : P.follows .mixedOrders = true) (hR : SoundR P R) {c : Code} {s s' : CS} {e : Exit} (hns : okN ns = true) (h : bodyC P T Z Q M K R r ns c s = some (e, s')) : Runs P r ns .no c s e s' := by
  unfold bodyC at h
  split at h
  · cases h; exact runs_no (AWi.skip Is.here)
  · rename_i id ops draw
    unfold bReg at h
    cases draw with
    | true =>
      simp only [cond_true] at h
      split at h
      · rename_i es sF hd
        cases hc : (stOk ops && okDyn (ancs ops.toList []) es) with
        | false => rw [hc] at h; cases h
        | true =>
          rw [hc] at h
          cases h
          rw [Bool.and_eq_true] at hc
          have hch := drOps_chain _ _ hd
          have hops : ops = ops.toList.toArray := by simp
          have hch' : Chain P T Z Q M K R ns ops.toList.toArray ops.toList es s s' := by rw [← hops]; exact hch
          have hD := draw_of (r := r) hT hZ hQ hM hK hN hR hns hch' (by rw [← hops]; exact hc.1) hc.2
          obtain ⟨m1, m2⟩ := chain_mono hT hZ hQ hM hK hN hR hch
          refine ⟨?_, m1, m2⟩
          have h1 := AWi.drawsI (r := r) (id := id) hm (by rw [← hops]; have := hc.1; unfold stOk at this; rw [Bool.and_eq_true] at this; exact this.1) hD (Q := Is .normal s') (by
            simp only [chain_end hch]
            exact Is.here)
          simp only [chain_zero hch] at h1
          rw [← hops] at h1
          exact h1
      · cases h
    | false =>
      simp only [cond_false] at h
      split at h
      · rename_i sF hd
        cases h
        obtain ⟨i1, i2, i3⟩ := doOps_sound (r := r) hT hZ hQ hM hK hN hR hns _ _ hd
        refine ⟨fun W0 R0 B E a w hi hs => ?_, i1, i2⟩
        have hops : ops = ops.toList.toArray := by simp
        rw [hops]
        refine wpIn_region_lit ?_
        rw [← hops]
        exact i3 hi hs fun E' a' w' h1 => ⟨_, _, E', W0, Ext.refl _, hi, h1, Is.here⟩
      · cases h
  · rename_i x y
    unfold onNormal at h
    split at h
    · rename_i e1 s1 h1
      have k1 := hR r ns .no x s e1 s1 hns h1
      split at h
      · have k2 := hR r ns .no y s1 e s' hns h
        exact ⟨AWi.seq (k1.on k2.walk), Nat.le_trans k1.n k2.n, k1.recs.trans k2.recs⟩
      · rename_i hne
        cases h
        exact ⟨AWi.seq (k1.left fun e => hne e), k1.n, k1.recs⟩
    · cases h
  · rename_i cc x y
    unfold bCond at h
    split at h
    · rename_i t ht
      cases t with
      | true =>
        rw [if_pos rfl] at h
        have k1 := hR r ns .no x s e s' hns h
        exact ⟨AWi.cond ht (fun _ => k1.walk) (fun h => by cases h), k1.n, k1.recs⟩
      | false =>
        rw [if_neg (by simp)] at h
        have k1 := hR r ns .no y s e s' hns h
        exact ⟨AWi.cond ht (fun h => by cases h) (fun _ => k1.walk), k1.n, k1.recs⟩
    · cases h
  · rename_i id x
    unfold bBlock at h
    split at h
    · rename_i e1 s1 h1
      have k1 := hR r ns .no x s e1 s1 hns h1
      have fin : (∀ e2, e2 = e1 → blockP id (Is e s') e2 s1.n s1.den) → s1 = s' → Runs P r ns .no (.block id x) s e s' := fun hb hs => by
        subst hs
        refine ⟨AWi.block (AWi.mono k1.walk fun e2 _ _ ⟨a, b, c⟩ => ?_), k1.n, k1.recs⟩
        subst b; subst c
        exact hb e2 a
      split at h
      · rename_i j
        cases hj : Nat.beq j id with
        | true =>
          rw [hj] at h
          cases h
          rw [Nat.beq_eq] at hj
          exact fin (fun e2 he => by subst he; simp only [blockP, if_pos hj]; exact Is.here) rfl
        | false =>
          rw [hj] at h
          cases h
          have hne : j ≠ id := fun e => by subst e; simp at hj
          exact fin (fun e2 he => by subst he; simp only [blockP, if_neg hne]; exact Is.here) rfl
      · rename_i hne
        cases h
        exact fin (fun e2 he => by subst he; cases e2 <;> first | exact Is.here | exact absurd rfl (hne _)) rfl
    · cases h
  · rename_i x
    have k1 := hR r ns (.lp x) x s e s' hns h
    exact ⟨AWi.loopL k1.walk, k1.n, k1.recs⟩
  · rename_i g ps x y
    unfold bRange at h
    split at h
    · rename_i f us vs hg
      exact rangeX_sound hT hN hR hg h
    · cases h
  · cases h; exact runs_no (AWi.exit Is.here)
  · cases h; exact runs_no (AWi.goto Is.here)
  · cases h; exact runs_no (AWi.label Is.here)
  · cases h; exact runs_no (AWi.ret Is.here)
  · rename_i x
    have k1 := hR r ns (.sc x) x s e s' hns h
    exact ⟨AWi.scope k1.walk, k1.n, k1.recs⟩
  · cases h
theorem bodyR_sound (hT : TabOk P T) (hZ : ZTabOk T Z) (hQ : QTabOk P Q) (hM : MTabOk P M) (hK : KnownOk P K) (hN : NoGor P) (hm : P.follows .mixedOrders = true) (hR : SoundR P R) : SoundR P (bodyR P T Z Q M K R) := by
  intro r ns cx c s e s' hns h
  unfold bodyR at h
  split at h
  · exact bodyC_sound hT hZ hQ hM hK hN hm hR hns h
  · rename_i c0
    split at h
    · rename_i e1 s1 h1
      have k1 := hR r ns .no c s e1 s1 hns h1
      split at h
      · rename_i l
        split at h
        · rename_i rest hf
          have k2 := hR r ns (.sc c0) rest s1 e s' hns h
          refine ⟨AWs.of (AWi.mono k1.walk fun e2 _ _ ⟨a, b, c⟩ => ?_), Nat.le_trans k1.n k2.n, k1.recs.trans k2.recs⟩
          subst a; subst b; subst c
          simp only [scopeP, hf]
          exact k2.walk
        · rename_i hf
          cases h
          refine ⟨AWs.of (AWi.mono k1.walk fun e2 _ _ ⟨a, b, c⟩ => ?_), k1.n, k1.recs⟩
          subst a; subst b; subst c
          simp only [scopeP, hf]
          exact Is.here
      · rename_i hne
        cases h
        refine ⟨AWs.of (AWi.mono k1.walk fun e2 _ _ ⟨a, b, c⟩ => ?_), k1.n, k1.recs⟩
        subst a; subst b; subst c
        cases e2 <;> first | exact Is.here | exact absurd rfl (hne _)
    · cases h
  · rename_i c0
    split at h
    · rename_i e1 s1 h1
      have k1 := hR r ns .no c s e1 s1 hns h1
      split at h
      · have k2 := hR r ns (.lp c0) c0 s1 e s' hns h
        exact ⟨AWl.of (k1.on k2.walk), Nat.le_trans k1.n k2.n, k1.recs.trans k2.recs⟩
      · rename_i hne
        cases h
        exact ⟨AWl.of (k1.left fun e => hne e), k1.n, k1.recs⟩
    · cases h
theorem runR_sound (hT : TabOk P T) (hZ : ZTabOk T Z) (hQ : QTabOk P Q) (hM : MTabOk P M) (hK : KnownOk P K) (hN : NoGor P) (hm : P.follows .mixedOrders = true) : ∀ n, SoundR P (runR P T Z Q M K n)
  | 0 => fun _ _ _ _ _ _ _ _ h => by rw [runR_zero] at h; cases h
  | n + 1 => by rw [runR_succ]; exact bodyR_sound hT hZ hQ hM hK hN hm (runR_sound hT hZ hQ hM hK hN hm n)
theorem closed_call (hT : TabOk P T) (hZ : ZTabOk T Z) (hQ : QTabOk P Q) (hM : MTabOk P M) (hK : KnownOk P K) (hN : NoGor P) (hm : P.follows .mixedOrders = true) {f : FuncId} {n : Nat} {b : Bool} (h : (callFn P T (runR P T Z Q M K n) f [] 0 .lf).map (·.y) = some (.d (.val (.bool b)))) : ACall P f [] (.val (.bool b)) := by
  rw [Option.map_eq_some_iff] at h
  obtain ⟨q, hq, hy⟩ := h
  have h1 := (callFn_sound hT hN (runR_sound hT hZ hQ hM hK hN hm n) hq).call
  refine ⟨h1.callable, fun ro w vs hro hsz hrep => ?_⟩
  let W1 : Fix := fixOf w
  let E : Env := ⟨ro, fun _ => False, fun _ => ⟨0, 0, 0⟩⟩
  have M0 : MS W1 ro (· < 0) (mOf .lf) E w := ⟨Kept.refl _ _, fun _ h => h, fun _ h => .inl h, hro, fun _ h => h.elim, (fun i b hi => by cases hi), (fun i b hi => by cases hi), (fun i b hi => by cases hi), (fun i b hi => by cases hi), fun i j b c hi => by cases hi⟩
  refine (h1.calls W1 ro E w vs M0 (by simpa using hsz) (by simp)).mono ?_
  rintro e w' ⟨v, E', n', m', y, rfl, M2, hE, hk, hv, rfl, rfl, rfl⟩
  refine ⟨v, rfl, M2.below.below, ?_⟩
  rw [hy] at hv
  cases hv with
  | d _ _ hv => cases hv with | val _ h => exact .val _ h
end Go.Proofs.Ytdkneonokbakjaa.Eng

noncomputable section
namespace Go.Proofs.Ytdkneonokbakjaa.Eng
open Go.RowKit
variable {P : Program} {T : Tab} {Z : ZTab} {Q : QTab} {M : MTab} {K : Known}
def chk (P : Program) (T : Tab) (Z : ZTab) (Q : QTab) (M : MTab) (K : Known) (fuel : Nat) (e : Ent) : Bool := match callFn P T (runR P T Z Q M K fuel) e.f e.args e.n e.m with
  | some q => same3 q.y e.q.y && Nat.beq q.n e.q.n && subTr e.q.m q.m && noLoop e.m
  | none => false
theorem chk_ok (hT : TabOk P T) (hZ : ZTabOk T Z) (hQ : QTabOk P Q) (hM : MTabOk P M) (hK : KnownOk P K) (hN : NoGor P) (hm : P.follows .mixedOrders = true) {fuel : Nat} {e : Ent} (h : chk P T Z Q M K fuel e = true) : Calls2 P e.f e.args e.n e.m e.q := by
  unfold chk at h
  split at h
  · rename_i q hq
    simp only [Bool.and_eq_true, Nat.beq_eq] at h
    obtain ⟨⟨⟨h1, h2⟩, h3⟩, h4⟩ := h
    have H := callFn_sound hT hN (runR_sound hT hZ hQ hM hK hN hm fuel) hq
    refine H.less (same3_eq h1).symm h2.symm (fun i b hb => ?_) fun id st pe k sl ps x y hh => absurd hh (noLoop_get h4 id st pe k sl ps x y)
    simp only [mOf, Option.map_eq_some_iff] at hb ⊢
    obtain ⟨c, hc, rfl⟩ := hb
    exact ⟨c, subTr_get h3 i c hc, rfl⟩
  · cases h
def SumsOk (P : Program) (S : Sums) : Prop := ∀ f g, S f = some g → ∀ args n m q, g args n m = some q → Calls2 P f args n m q
theorem known_sums {S : Sums} (h : SumsOk P S) : KnownOk P ⟨[], [], S⟩ := ⟨by simp, by simp, h⟩
theorem known_ent {e : Ent} (h : Calls2 P e.f e.args e.n e.m e.q) (hK : KnownOk P K) : KnownOk P ⟨e :: K.ents, K.closed, K.sums⟩ := ⟨fun x hx => by
  rcases List.mem_cons.1 hx with rfl | hx
  · exact h
  · exact hK.ents x hx, hK.closed, hK.sums⟩
theorem noGor_of (h : P.funcs.toList.all (fun fn => !(fn.name == "runtime.NumGoroutine")) = true) : NoGor P := fun f fn hf => by
  have hm : fn ∈ P.funcs.toList := by rw [Array.mem_toList_iff]; exact Array.mem_of_getElem? hf
  simpa using List.all_eq_true.1 h fn hm
end Go.Proofs.Ytdkneonokbakjaa.Eng

noncomputable section
namespace Go.Proofs.Ytdkneonokbakjaa.Eng
open Go.RowKit
set_option maxRecDepth 100000
def ZT : ZTab := fun _ => none
def QT : QTab := fun t => if t = 81 then some ⟨[.int .i64, .int .i64], 24⟩ else none
def MT : MTab := fun t => if t = 115 then some ⟨3, 2, .d (.val (.int .i64 0)), false, [.i64]⟩ else none
theorem noGor : NoGor Try.prog := noGor_of (by decide +kernel)
theorem mixed : Try.prog.follows .mixedOrders = true := by decide +kernel
theorem ztOk : ZTabOk TB ZT := fun t p h => by cases h
theorem qtOk : QTabOk Try.prog QT := fun t b h => by
  unfold QT at h
  split at h
  · rename_i e
    subst e
    cases h
    refine ⟨?_, by decide +kernel, by decide +kernel, fun xs hx => ?_⟩
    · have he : KL Try.prog 6 23 [.int .i64, .int .i64] 2 := kl_struct2 (d := 5) Try.underlying23 (by decide +kernel) (kl_int Try.underlying2 4) (kl_int Try.underlying2 4) (by decide) (by decide) rfl rfl (by decide +kernel) (by decide +kernel)
      exact kl_array (n := 12) (d := 6) (per := [.int .i64, .int .i64]) Try.underlying81 (by decide +kernel) (by decide +kernel) he
    · have e1 : Try.prog.cellsOf 81 = 24 := by decide +kernel
      simp [Value.formed, Try.underlying81, e1, hx]
  · cases h
theorem mtOk : MTabOk Try.prog MT := fun t i h => by
  unfold MT at h
  split at h
  · rename_i e
    subst e
    cases h
    refine mapOk_int (q := .i64) Try.underlying115 Try.underlying3 rfl rfl ⟨.int .i64 0, fun w => ?_, fun E w => rep_val rfl⟩
    have h := info2
    rw [Option.map_eq_some_iff] at h
    obtain ⟨inf, h1, h2⟩ := h
    simp only [Prod.mk.injEq] at h2
    simp [zeroValue, typeInfo, h1, h2.1]
  · cases h
end Go.Proofs.Ytdkneonokbakjaa.Eng

namespace Go.Proofs.Ytdkneonokbakjaa.Eng
open Go.RowKit
def mi : MapI := ⟨3, 2, .d (.val (.int .i64 0)), false, [.i64]⟩
set_option maxRecDepth 100000 in
set_option maxHeartbeats 4000000 in
theorem least_w {m : Mem} {wid : Nat} {cells : List SV} {f : Bool} {p : Nat} {lo : Int} (hm : m wid = some (.box 83 cells f)) (hc : cells[6 + p * 2]? = some (.d (iD lo))) (hp : p < 12) (n : Nat) :
    CWp Try.prog 68 [.ptr wid 0 0, .d (iD p)] n m fun y n' m' => n ≤ n' ∧ n' ≤ n + 20 ∧ y = .d (iD lo) ∧ m' = m := by
  have hl : 6 + p * 2 < cells.length := (List.getElem?_eq_some_iff.1 hc).1
  have g1 : List.take 1 (List.drop (6 + p * 2) cells) = [.d (iD lo)] := by
    rw [List.drop_eq_getElem_cons hl, List.take_succ_cons, List.take_zero]
    rw [List.getElem?_eq_getElem hl] at hc
    rw [Option.some.inj hc]
  have g2 : 6 + p * 2 + 1 ≤ cells.length := by omega
  have g3 : (p : Int) < 12 := by omega
  refine cwpK tabOk Try.func68 rfl rfl (show 2 ≤ _ by decide) rfl fun _ => ?_; simp only [Try.ntmps68]
  repeat (first | (with_reducible first | refine AWi.seqK fun _ => ?_ | refine AWi.blockK fun _ => ?_ | refine KI.go ?_) | ((first | refine AWi.region tabOk ?_ | refine AWi.condK fun _ _ => ?_ | refine AWi.draws tabOk rfl (by kernel_rfl) (by kernel_rfl) ?_); simp [-getElem?_pos, z0, z1, z2, hm, g1, g2, g3]) | ((first | refine AWi.ret ?_ | refine AWi.skip ?_ | refine AWi.exit ?_); try simp only [thenP]) | (with_reducible refine BB.go ?_; simp only [blockP, thenP, reduceIte]) | (with_reducible refine And.intro (okLog_c (by simp [footOf, guardSlot, slotsOf, idsRead, looks, idsOf, idsOf1, idsWritten, colF]; kernel_rfl)) ?_))
  exact RI.ret rfl ⟨by omega, by omega, rfl, rfl⟩
def keepE (cells : List SV) (len : Int) (q : List Int × SV × Nat) : Bool := match q.1 with
  | [p] => match cells[6 + p.toNat * 2]? with
    | some (.d (.val (.int _ lo))) => decide (lo ≤ len)
    | _ => true
  | _ => true
def curE (cells : List SV) (len : Int) (es : List (List Int × SV × Nat)) (seen : List Nat) : List (List Int × SV × Nat) := es.filter fun q => !(seen.contains q.2.2) || keepE cells len q
def passL (cells : List SV) (len : Int) (es : List (List Int × SV × Nat)) : List (List Int × SV × Nat) := es.filter (keepE cells len)
theorem curE_all {cells : List SV} {len : Int} {es : List (List Int × SV × Nat)} {seen : List Nat} (h : ∀ q ∈ curE cells len es seen, q.2.2 ∈ seen) : curE cells len es seen = passL cells len es := by
  unfold curE passL
  refine List.filter_congr fun q hq => ?_
  by_cases hs : q.2.2 ∈ seen
  · simp [hs]
  · have : q ∈ curE cells len es seen := List.mem_filter.2 ⟨hq, by simp [hs]⟩
    exact absurd (h q this) hs
theorem born_eq {es : List (List Int × SV × Nat)} : (es.map (·.2.2)).Nodup → ∀ {p q : List Int × SV × Nat}, p ∈ es → q ∈ es → p.2.2 = q.2.2 → p = q := by
  induction es with
  | nil => intro _ p q hp; simp at hp
  | cons x es ih =>
    intro hn p q hp hq h
    rw [List.map_cons, List.nodup_cons] at hn
    rcases List.mem_cons.1 hp with e1 | hp'
    · rcases List.mem_cons.1 hq with e2 | hq'
      · rw [e1, e2]
      · subst e1; exact (hn.1 (List.mem_map.2 ⟨q, hq', h.symm⟩)).elim
    · rcases List.mem_cons.1 hq with e2 | hq'
      · subst e2; exact (hn.1 (List.mem_map.2 ⟨p, hp', h⟩)).elim
      · exact ih hn.2 hp' hq' h
theorem key_eq {es : List (List Int × SV × Nat)} : (es.map (·.1)).Nodup → ∀ {p q : List Int × SV × Nat}, p ∈ es → q ∈ es → p.1 = q.1 → p = q := by
  induction es with
  | nil => intro _ p q hp; simp at hp
  | cons x es ih =>
    intro hn p q hp hq h
    rw [List.map_cons, List.nodup_cons] at hn
    rcases List.mem_cons.1 hp with e1 | hp'
    · rcases List.mem_cons.1 hq with e2 | hq'
      · rw [e1, e2]
      · subst e1; exact (hn.1 (List.mem_map.2 ⟨q, hq', h.symm⟩)).elim
    · rcases List.mem_cons.1 hq with e2 | hq'
      · subst e2; exact (hn.1 (List.mem_map.2 ⟨p, hp', h⟩)).elim
      · exact ih hn.2 hp' hq' h
theorem curE_keep {cells : List SV} {len : Int} {es : List (List Int × SV × Nat)} {seen : List Nat} {q : List Int × SV × Nat} (hn2 : (es.map (·.2.2)).Nodup) (hq : q ∈ es) (h : keepE cells len q = true) : curE cells len es (q.2.2 :: seen) = curE cells len es seen := by
  unfold curE
  refine List.filter_congr fun p hp => ?_
  by_cases e : p.2.2 = q.2.2
  · rw [born_eq hn2 hp hq e, h]; simp
  · simp [e]
theorem curE_drop {cells : List SV} {len : Int} {es : List (List Int × SV × Nat)} {seen : List Nat} {q : List Int × SV × Nat} (hn1 : (es.map (·.1)).Nodup) (hn2 : (es.map (·.2.2)).Nodup) (hq : q ∈ es) (h : keepE cells len q = false) : (curE cells len es seen).filter (fun p => p.1 ≠ q.1) = curE cells len es (q.2.2 :: seen) := by
  unfold curE
  rw [List.filter_filter]
  refine List.filter_congr fun p hp => ?_
  by_cases e : p = q
  · subst e; simp [h]
  · have e1 : p.1 ≠ q.1 := fun x => e (key_eq hn1 hp hq x)
    have e2 : p.2.2 ≠ q.2.2 := fun x => e (born_eq hn2 hp hq x)
    simp [e1, e2]
theorem nodup_filter_map {α β : Type} {f : α → β} {p : α → Bool} {l : List α} (h : (l.map f).Nodup) : ((l.filter p).map f).Nodup := h.sublist (List.Sublist.map f List.filter_sublist)
theorem seen_le {es : List (List Int × SV × Nat)} {seen : List Nat} (hs : seen.Nodup) (h : ∀ b ∈ seen, b ∈ es.map (·.2.2)) : seen.length ≤ es.length := by
  have := List.Nodup.length_le_of_subset hs (fun b hb => h b hb)
  simpa using this
set_option maxRecDepth 100000 in
set_option maxHeartbeats 8000000 in
theorem pass_w {m : Mem} {wid id clock : Nat} {cells : List SV} {f : Bool} {es : List (List Int × SV × Nat)} (hm : m wid = some (.box 83 cells f)) (hid : m id = some (mapB mi es clock)) (hne : wid ≠ id) {n : Nat} (hw : wid < n) (hi : id < n)
    (hk : ∀ q ∈ es, ∃ (p : Nat) (lo : Int), p < 12 ∧ q.1 = [(p : Int)] ∧ cells[6 + p * 2]? = some (.d (iD lo))) (hn1 : (es.map (·.1)).Nodup) (hn2 : (es.map (·.2.2)).Nodup) (hb : ∀ q ∈ es, q.2.2 < clock) (len : Int) :
    CWp Try.prog 79 [.ptr wid 0 0, .mp id, .d (iD len)] n m fun y n' m' => n ≤ n' ∧ n' ≤ n + 20 + 60 * es.length ∧ y = .tup [] ∧ ∀ j, j < n → m' j = if j = id then some (mapB mi (passL cells len es) clock) else m j := by
  refine cwpK tabOk Try.func79 rfl rfl (show 3 ≤ _ by decide) rfl fun _ => ?_; simp only [Try.ntmps79]
  repeat (first | (with_reducible first | refine AWi.seqK fun _ => ?_ | refine AWi.blockK fun _ => ?_ | refine KI.go ?_) | ((first | refine AWi.region tabOk ?_ | refine AWi.condK fun _ _ => ?_ | refine AWi.draws tabOk rfl (by kernel_rfl) (by kernel_rfl) ?_); simp [-getElem?_pos, z0, z1, z2, hid]) | ((first | refine AWi.ret ?_ | refine AWi.skip ?_ | refine AWi.exit ?_); try simp only [thenP]) | (with_reducible refine BB.go ?_; simp only [blockP, thenP, reduceIte]) | (with_reducible refine And.intro (okLog_c (by simp [footOf, guardSlot, slotsOf, idsRead, looks, idsOf, idsOf1, idsWritten, colF]; kernel_rfl)) ?_))
  refine ExecI.range (mid := id) (clock := clock) (es := es.map fun q => (keyVal mi.agg mi.kk q.1, q.2)) (f := false) (by simp) rfl Try.underlying115 (by simp) (by simpa using hid) ?_
  simp
  repeat (first | (with_reducible first | refine AWi.seqK fun _ => ?_ | refine AWi.blockK fun _ => ?_ | refine KI.go ?_) | ((first | refine AWi.region tabOk ?_ | refine AWi.condK fun _ _ => ?_ | refine AWi.draws tabOk rfl (by kernel_rfl) (by kernel_rfl) ?_); simp [-getElem?_pos, z0, z1, z2, hid]) | ((first | refine AWi.ret ?_ | refine AWi.skip ?_ | refine AWi.exit ?_); try simp only [thenP]) | (with_reducible refine BB.go ?_; simp only [blockP, thenP, reduceIte]) | (with_reducible refine And.intro (okLog_c (by simp [footOf, guardSlot, slotsOf, idsRead, looks, idsOf, idsOf1, idsWritten, colF]; kernel_rfl)) ?_))
  refine AWi.loopK (fun seen nn s => n + 2 ≤ nn ∧ nn ≤ n + 2 + 60 * seen.length ∧ seen.Nodup ∧ (∀ b ∈ seen, b ∈ es.map (·.2.2)) ∧ s.slots 0 = .ptr wid 0 0 ∧ s.slots 1 = .mp id ∧ s.slots 2 = .d (iD len) ∧ s.slots 8 = .ptr (n + 1) 0 0 ∧ (∀ j, j < n → s.mem j = if j = id then some (mapB mi (curE cells len es seen) clock) else m j) ∧ s.mem (n + 1) = some (.iter id clock clock seen false)) (fun seen => es.length - seen.length) ([] : List Nat) ?_ ?_
  · refine ⟨by omega, by simp, List.nodup_nil, by simp, by simp, by simp, by simp, by simp, fun j hj => ?_, by simp⟩
    have e0 : curE cells len es [] = es := by unfold curE; exact List.filter_eq_self.2 fun q _ => by simp
    simp only [e0]
    by_cases h : j = id
    · subst h; simp [show ¬ j = n + 1 by omega, hid]
    · simp [h, show ¬ j = n + 1 by omega]
  rintro seen nn s ⟨h1, h2, h3, h4, s0, s1, s2, s8, hmem, hit⟩ kk
  have hmid : s.mem id = some (mapB mi (curE cells len es seen) clock) := by rw [hmem id hi, if_pos rfl]
  have hsub : ∀ q ∈ curE cells len es seen, q ∈ es := fun q hq => (List.mem_filter.1 hq).1
  repeat (first | (with_reducible first | refine AWi.seqK fun _ => ?_ | refine AWi.blockK fun _ => ?_ | refine KI.go ?_) | ((first | refine AWi.region tabOk ?_ | refine AWi.condK fun _ _ => ?_ | refine AWi.draws tabOk rfl (by kernel_rfl) (by kernel_rfl) ?_); simp [-getElem?_pos, z0, z1, z2, s0, s1, s2, s8]) | ((first | refine AWi.ret ?_ | refine AWi.skip ?_ | refine AWi.exit ?_); try simp only [thenP]) | (with_reducible refine BB.go ?_; simp only [blockP, thenP, reduceIte]) | (with_reducible refine And.intro (okLog_c (by simp [footOf, guardSlot, slotsOf, idsRead, looks, idsOf, idsOf1, idsWritten, colF]; kernel_rfl)) ?_))
  refine ExecI.next (id := n + 1) (mid := id) (since := clock) (last := clock) (clock := clock) (seen := seen) (es := (curE cells len es seen).map fun q => (keyVal mi.agg mi.kk q.1, q.2)) (by simp) rfl (by simp [s8]) hit hmid (fun q hq => ?_) (Nat.le_refl _) (fun q hq => ?_) (fun hall => ?_) fun q hq hqs => ?_
  · obtain ⟨p, hp, rfl⟩ := List.mem_map.1 hq
    exact hb p (hsub p hp)
  · obtain ⟨p, hp, rfl⟩ := List.mem_map.1 hq
    obtain ⟨k, lo, _, hk2, _⟩ := hk p (hsub p hp)
    simp [hk2, mi, keyVal, keyOk, Value.oneCell']
  · simp
    repeat (first | (with_reducible first | refine AWi.seqK fun _ => ?_ | refine AWi.blockK fun _ => ?_ | refine KI.go ?_) | ((first | refine AWi.region tabOk ?_ | refine AWi.condK fun _ _ => ?_ | refine AWi.draws tabOk rfl (by kernel_rfl) (by kernel_rfl) ?_); simp [-getElem?_pos, z0, z1, z2, s0, s1, s2, s8]) | ((first | refine AWi.ret ?_ | refine AWi.skip ?_ | refine AWi.exit ?_); try simp only [thenP]) | (with_reducible refine BB.go ?_; simp only [blockP, thenP, reduceIte]) | (with_reducible refine And.intro (okLog_c (by simp [footOf, guardSlot, slotsOf, idsRead, looks, idsOf, idsOf1, idsWritten, colF]; kernel_rfl)) ?_))
    refine RI.normal rfl ⟨by omega, ?_, rfl, fun j hj => ?_⟩
    · have := seen_le h3 h4
      omega
    · have := curE_all (cells := cells) (len := len) (es := es) (seen := seen) fun p hp => hall (keyVal mi.agg mi.kk p.1, p.2) (List.mem_map.2 ⟨p, hp, rfl⟩)
      rw [← this]
      exact hmem j hj
  · obtain ⟨p, hp, rfl⟩ := List.mem_map.1 hq
    have hpe := hsub p hp
    obtain ⟨k, lo, hk1, hk2, hk3⟩ := hk p hpe
    have hkeyS : keyS (keyVal mi.agg mi.kk p.1) = .d (iD (k : Int)) := by simp [hk2, mi, keyVal, keyS]
    have hkeyO : keyOk (keyVal mi.agg mi.kk p.1) = true := by simp [hk2, mi, keyVal, keyOk, Value.oneCell']
    have hnd : (p.2.2 :: seen).Nodup := List.nodup_cons.2 ⟨hqs, h3⟩
    have hin : ∀ b ∈ p.2.2 :: seen, b ∈ es.map (·.2.2) := fun b hb => by
      rcases List.mem_cons.1 hb with rfl | hb
      · exact List.mem_map.2 ⟨p, hpe, rfl⟩
      · exact h4 b hb
    have hlen := seen_le hnd hin
    simp only [List.length_cons] at hlen
    have hni : ¬ id = n + 1 := by omega
    simp only [hkeyS]
    simp
    repeat (first | (with_reducible first | refine AWi.seqK fun _ => ?_ | refine AWi.blockK fun _ => ?_ | refine KI.go ?_) | ((first | refine AWi.region tabOk ?_ | refine AWi.condK fun _ _ => ?_ | refine AWi.draws tabOk rfl (by kernel_rfl) (by kernel_rfl) ?_); simp [-getElem?_pos, z0, z1, z2, s0, s1, s2, s8]) | ((first | refine AWi.ret ?_ | refine AWi.skip ?_ | refine AWi.exit ?_); try simp only [thenP]) | (with_reducible refine BB.go ?_; simp only [blockP, thenP, reduceIte]) | (with_reducible refine And.intro (okLog_c (by simp [footOf, guardSlot, slotsOf, idsRead, looks, idsOf, idsOf1, idsWritten, colF]; kernel_rfl)) ?_))
    have hnd2 : ((List.map (fun q => (keyVal mi.agg mi.kk q.1, q.2)) (curE cells len es seen)).map (·.2.2)).Nodup := by
      rw [List.map_map]
      exact nodup_filter_map (f := fun q : List Int × SV × Nat => q.2.2) hn2
    refine ExecI.entry (id := n + 1) (mid := id) (since := clock) (last := clock) (clock := clock) (seen := seen) (es := (curE cells len es seen).map fun q => (keyVal mi.agg mi.kk q.1, q.2)) (f := false) (g := false) (keyVal mi.agg mi.kk p.1, p.2) (by simp) rfl (by simp [s8]) (by simp) (by simp [hni, hmid]) rfl hq hnd2 hkeyO ?_
    simp only [hkeyS]
    simp
    repeat (first | (with_reducible first | refine AWi.seqK fun _ => ?_ | refine AWi.blockK fun _ => ?_ | refine KI.go ?_) | ((first | refine AWi.region tabOk ?_ | refine AWi.condK fun _ _ => ?_ | refine AWi.draws tabOk rfl (by kernel_rfl) (by kernel_rfl) ?_); simp [-getElem?_pos, z0, z1, z2, s0, s1, s2, s8]) | ((first | refine AWi.ret ?_ | refine AWi.skip ?_ | refine AWi.exit ?_); try simp only [thenP]) | (with_reducible refine BB.go ?_; simp only [blockP, thenP, reduceIte]) | (with_reducible refine And.intro (okLog_c (by simp [footOf, guardSlot, slotsOf, idsRead, looks, idsOf, idsOf1, idsWritten, colF]; kernel_rfl)) ?_))
    have hwm : setMem s.mem (n + 1) (some (.iter id clock clock (p.2.2 :: seen) false)) wid = some (.box 83 cells f) := by
      simp [show ¬ wid = n + 1 by omega, hmem wid hw, hne, hm]
    refine ExecI.callC (least_w hwm hk3 hk1 _) rfl (by simp [calleeS, evList]) ?_
    rintro y n' m' ⟨q1, q2, rfl, rfl⟩
    by_cases g : len < lo
    · have hkf : keepE cells len p = false := by simp [keepE, hk2, hk3]; omega
      obtain ⟨jj, j1, j2⟩ := erase_key (q := p) hp (nodup_filter_map hn1)
      rw [curE_drop hn1 hn2 hpe hkf] at j2
      simp [-getElem?_pos, z0, z1, z2, s0, s1, s2, s8, g]
      repeat (first | (with_reducible first | refine AWi.seqK fun _ => ?_ | refine AWi.blockK fun _ => ?_ | refine KI.go ?_) | ((first | refine AWi.region tabOk ?_ | refine AWi.condK fun _ _ => ?_ | refine AWi.draws tabOk rfl (by kernel_rfl) (by kernel_rfl) ?_); simp [-getElem?_pos, z0, z1, z2, s0, s1, s2, s8, g]) | ((first | refine AWi.ret ?_ | refine AWi.skip ?_ | refine AWi.exit ?_); try simp only [thenP]) | (with_reducible refine BB.go ?_; simp only [blockP, thenP, reduceIte]) | (with_reducible refine And.intro (okLog_c (by simp [footOf, guardSlot, slotsOf, idsRead, looks, idsOf, idsOf1, idsWritten, colF]; kernel_rfl)) ?_))
      refine ExecI.delete mtOk (i := mi) (id := id) (clock := clock) (es := curE cells len es seen) (kv := .d (iD (k : Int))) (l := [(k : Int)]) (j := jj) (by simp) rfl rfl (by simp [s1]) (by simp [hni, hmid]) (by simp) (by simp [keyOf, intsOf, mi]) ?_ (by rw [← hk2]; exact j1) ?_
      · refine List.all_eq_true.2 fun x hx => ?_
        obtain ⟨k', _, _, hx2, _⟩ := hk x (hsub x hx)
        simp [hx2, mi]
      rw [j2]
      simp
      repeat (first | (with_reducible first | refine AWi.seqK fun _ => ?_ | refine AWi.blockK fun _ => ?_ | refine KI.go ?_) | ((first | refine AWi.region tabOk ?_ | refine AWi.condK fun _ _ => ?_ | refine AWi.draws tabOk rfl (by kernel_rfl) (by kernel_rfl) ?_); simp [-getElem?_pos, z0, z1, z2, s0, s1, s2, s8]) | ((first | refine AWi.ret ?_ | refine AWi.skip ?_ | refine AWi.exit ?_); try simp only [thenP]) | (with_reducible refine BB.go ?_; simp only [blockP, thenP, reduceIte]) | (with_reducible refine And.intro (okLog_c (by simp [footOf, guardSlot, slotsOf, idsRead, looks, idsOf, idsOf1, idsWritten, colF]; kernel_rfl)) ?_))
      refine LI.go (p.2.2 :: seen) ⟨by omega, by simp; omega, hnd, hin, by simp [s0], by simp [s1], by simp [s2], by simp [s8], fun j hj => ?_, by simp [Ne.symm hni]⟩ (by simp; omega)
      by_cases h : j = id
      · subst h; simp
      · simp [h, show ¬ j = n + 1 by omega, hmem j hj]
    · have hkt : keepE cells len p = true := by simp [keepE, hk2, hk3]; omega
      have e0 := curE_keep (cells := cells) (len := len) (seen := seen) hn2 hpe hkt
      simp [-getElem?_pos, z0, z1, z2, s0, s1, s2, s8, g]
      repeat (first | (with_reducible first | refine AWi.seqK fun _ => ?_ | refine AWi.blockK fun _ => ?_ | refine KI.go ?_) | ((first | refine AWi.region tabOk ?_ | refine AWi.condK fun _ _ => ?_ | refine AWi.draws tabOk rfl (by kernel_rfl) (by kernel_rfl) ?_); simp [-getElem?_pos, z0, z1, z2, s0, s1, s2, s8, g]) | ((first | refine AWi.ret ?_ | refine AWi.skip ?_ | refine AWi.exit ?_); try simp only [thenP]) | (with_reducible refine BB.go ?_; simp only [blockP, thenP, reduceIte]) | (with_reducible refine And.intro (okLog_c (by simp [footOf, guardSlot, slotsOf, idsRead, looks, idsOf, idsOf1, idsWritten, colF]; kernel_rfl)) ?_))
      refine LI.go (p.2.2 :: seen) ⟨by omega, by simp; omega, hnd, hin, by simp [s0], by simp [s1], by simp [s2], by simp [s8], fun j hj => ?_, by simp⟩ (by simp; omega)
      simp [show ¬ j = n + 1 by omega, hmem j hj, e0]
end Go.Proofs.Ytdkneonokbakjaa.Eng
