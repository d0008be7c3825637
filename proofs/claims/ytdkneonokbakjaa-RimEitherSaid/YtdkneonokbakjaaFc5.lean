/-
  A part of the texts that the claim builds on: see the last one.
-/
import Derived.Test.YtdkneonokbakjaaFc4
import Derived.StillTail
set_option linter.unusedSimpArgs false
set_option linter.unusedVariables false
noncomputable section
namespace Go.Proofs.Ytdkneonokbakjaa.Eng
open Go.RowKit
variable {P : Program} {T : Tab} {Z : ZTab} {Q : QTab} {M : MTab} {K : Known} {R : Runner} {r : Option Nat} {ns : Nat}
def Is (e : Exit) (s' : CS) : Post := fun e2 n2 s2 => e2 = e ∧ n2 = s'.n ∧ s2 = s'.den
def WalkX (P : Program) (r : Option Nat) (ns : Nat) (c : Code) (n : Nat) (s : St) (Q : Post) : Ctx → Prop
  | .no => AWi P r ns c n s Q
  | .sc c0 => AWs P r ns c0 c n s Q
  | .lp c0 => AWl P r ns c0 c n s Q
structure Runs (P : Program) (r : Option Nat) (ns : Nat) (cx : Ctx) (c : Code) (s : CS) (e : Exit) (s' : CS) : Prop where
  walk : WalkX P r ns c s.n s.den (Is e s') cx
  n : s.n ≤ s'.n
  recs : Recs s.mem s'.mem
def SoundR (P : Program) (R : Runner) : Prop := ∀ r ns cx c s e s', okN ns = true → R r ns cx c s = some (e, s') → Runs P r ns cx c s e s'
def NoGor (P : Program) : Prop := ∀ (f : FuncId) fn, P.funcs[f]? = some fn → (fn.name == "runtime.NumGoroutine") = false
theorem okN_lt {n : Nat} (h : okN n = true) : n < 2 ^ deep := lt_deep h
def ResIs (q : Rs) : SV → Nat → Mem → Prop := fun y n' m' => y = q.y ∧ n' = q.n ∧ m' = mOf q.m
structure Calls2 (P : Program) (f : FuncId) (args : List SV) (n : Nat) (m : Tr CB) (q : Rs) : Prop where
  call : CWp P f args n (mOf m) (ResIs q)
  n : n ≤ q.n
  recs : Recs m q.m
theorem callFn_sound (hT : TabOk P T) (hN : NoGor P) (hR : SoundR P R) {f : FuncId} {args : List SV} {n : Nat} {m : Tr CB} {q : Rs} (h : callFn P T R f args n m = some q) : Calls2 P f args n m q := by
  unfold callFn at h
  rw [getA_eq] at h
  split at h
  · cases h
  rename_i fn hf
  split at h
  · cases h
  rename_i c hb
  cases hc : (Nat.ble args.length fn.ntmps && okN fn.ntmps && resOk fn.results.toList fn.ntmps) with
  | false => rw [hc] at h; cases h
  | true =>
    rw [hc] at h
    simp only [cond_true] at h
    simp only [Bool.and_eq_true] at hc
    obtain ⟨⟨c1, c2⟩, c3⟩ := hc
    have hl := Nat.le_of_ble_eq_true c1
    have hlt := okN_lt c2
    have fin : ∀ (e : Exit) (s' : CS) (xs : List SV), R none fn.ntmps .no c ⟨n, startT args 0 .lf, m⟩ = some (e, s') → (e = .normal ∨ e = .ret) → resSlots T s'.den fn.results.toList = some xs → q = ⟨retV xs, s'.n, s'.mem⟩ → Calls2 P f args n m q := by
      intro e s' xs hr he hx hq
      subst hq
      have h1 := hR none fn.ntmps .no c _ e s' c2 hr
      refine ⟨cwp_of hT hf (hN f fn hf) hb hl c3 ?_, h1.n, h1.recs⟩
      have h2 : AWi P none fn.ntmps c _ _ _ := h1.walk
      simp only [CS.den, sOf_start args (by omega)] at h2
      refine h2.mono ?_
      rintro e2 n2 s2 ⟨rfl, rfl, rfl⟩
      exact ⟨he, xs, hx, rfl, rfl, rfl⟩
    split at h
    · rename_i s' hr
      split at h
      · rename_i xs hx
        cases h
        exact fin _ s' xs hr (.inl rfl) hx rfl
      · cases h
    · rename_i s' hr
      split at h
      · rename_i xs hx
        cases h
        exact fin _ s' xs hr (.inr rfl) hx rfl
      · cases h
    · cases h
theorem Recs.upd {m : Tr CB} {id : Nat} {st : LoopState} {pe : Option Code} {k : Nat} {sl : Tr SV} {ps : Array Tmp} {x y : Code} (h : m.get id = some (.loop st pe k sl ps x y)) (hid : id < 2 ^ deep) (st' : LoopState) (pe' : Option Code) : Recs m (putM m id (some (.loop st' pe' k sl ps x y))) := fun i st2 pe2 k2 sl2 ps2 x2 y2 hh => by
  rw [putM, Tr.get_put deep m id hid]
  by_cases e : i = id
  · subst e
    rw [h] at hh
    cases hh
    exact ⟨st', pe', by rw [if_pos rfl]⟩
  · exact ⟨st2, pe2, by rw [if_neg e]; exact hh⟩
theorem get_putM {m : Tr CB} {i : Nat} {x : Option CB} (h : i < 2 ^ deep) (k : Nat) : (putM m i x).get k = if k = i then x else m.get k := Tr.get_put deep m i h k
structure Yields2 (P : Program) (id : Nat) (xs : List SV) (n : Nat) (m : Tr CB) (q : Rs) : Prop where
  call : YCall P (.yield id) xs n (mOf m) (ResIs q)
  n : n ≤ q.n
  recs : Recs m q.m
theorem callYl_sound (hR : SoundR P R) {id : Nat} {xs : List SV} {n : Nat} {m : Tr CB} {q : Rs} (h : callYl R id xs n m = some q) : Yields2 P id xs n m q := by
  unfold callYl at h
  split at h
  · rename_i pe k sl ps x y hg
    cases hc : (Nat.beq xs.length ps.size && ps.toList.all (fun t => Nat.ble (t + 1) k) && okN k && okN id) with
    | false => rw [hc] at h; cases h
    | true =>
      rw [hc] at h
      simp only [cond_true] at h
      simp only [Bool.and_eq_true, Nat.beq_eq] at hc
      obtain ⟨⟨⟨c1, c2⟩, c3⟩, c4⟩ := hc
      have hk := okN_lt c3
      have hid := okN_lt c4
      have hps : ∀ p ∈ ps.toList, p < k := fun p hp => Nat.le_of_ble_eq_true (List.all_eq_true.1 c2 p hp)
      split at h
      · rename_i s1 hr1
        have h1 := hR (some id) k .no x _ .normal s1 c3 hr1
        obtain ⟨st1, pe1', hg1⟩ := h1.recs id .ready pe k sl ps x y hg
        split at h
        · rename_i _ _ _ _ _ _ hg1'
          rw [hg1] at hg1'
          cases hg1'
          split at h
          · rename_i e s2 hr2
            have h2 := hR (some id) k .no y _ e s2 c3 hr2
            have hgb : (putM s1.mem id (some (.loop .busy pe1' k sl ps x y))).get id = some (.loop .busy pe1' k sl ps x y) := by rw [get_putM hid, if_pos rfl]
            obtain ⟨st2, pe2, hg2⟩ := h2.recs id _ _ _ _ _ _ _ hgb
            split at h
            · rename_i j pe2' _ _ _ _ _ hj hg2'
              rw [hg2] at hg2'
              cases hg2'
              cases h
              have r1 := Recs.upd hg1 hid .busy pe1'
              have r2 := Recs.upd hg2 hid (if j.isNone then .ready else .done) j
              refine ⟨?_, Nat.le_trans h1.n h2.n, ((h1.recs.trans r1).trans h2.recs).trans r2⟩
              have e1 : mOf m id = some (.loop .ready pe k (sOf sl) ps x y false) := mOf_get hg
              refine YCall.yield e1 c1 (List.all_eq_true.2 fun p hp => by simpa using hps p hp) ?_
              have w1 : AWi P (some id) k x _ _ _ := h1.walk
              simp only [CS.den, sOf_putAll ps.toList xs sl fun p hp => Nat.lt_trans (hps p hp) hk] at w1
              refine w1.mono ?_
              rintro e' n1 s1' ⟨rfl, rfl, rfl⟩
              refine ⟨rfl, pe1', mOf_get hg1, ?_⟩
              have w2 : AWi P (some id) k y _ _ _ := h2.walk
              simp only [CS.den, mOf_put hid] at w2
              refine w2.mono ?_
              rintro e' n2 s2' ⟨rfl, rfl, rfl⟩
              refine ⟨j, pe2, hj, mOf_get hg2, rfl, rfl, ?_⟩
              simp only [CS.den, mOf_put hid]
              rfl
            · cases h
          · cases h
        · cases h
      · cases h
  · cases h
theorem evList_mono {ev ev' : Operand → Option SV} (h : ∀ x v, ev x = some v → ev' x = some v) : ∀ {l : List Operand} {vs : List SV}, evList ev l = some vs → evList ev' l = some vs
  | [], _, e => e
  | x :: l, vs, e => by
    simp only [evList] at e ⊢
    split at e
    · rename_i v r h1 h2
      cases e
      rw [h x v h1, evList_mono h h2]
    · cases e
theorem calleeC_fn {ev : Operand → Option SV} {s : St} (h : ∀ x v, ev x = some v → opd ns s x = some v) {op : Op} {f : FuncId} {l : List SV} (hc : calleeC ev op = .fn f l) : calleeS ns s op = some (f, l) := by
  unfold calleeC at hc
  split at hc
  · rename_i c
    split at hc
    · cases hc
    · rename_i g hcal
      split at hc
      · rename_i l' hl
        cases hc
        simp only [calleeS, hcal, evList_mono h hl]
      · cases hc
    · rename_i t hcal
      split at hc
      · rename_i g us vs l' h1 hl
        cases hc
        simp only [calleeS, hcal, h _ _ h1, evList_mono h hl]
      · cases hc
      · cases hc
    · cases hc
  · cases hc
  · cases hc
theorem calleeC_yl {ev : Operand → Option SV} {s : St} (h : ∀ x v, ev x = some v → opd ns s x = some v) {op : Op} {id : Nat} {l : List SV} (hc : calleeC ev op = .yl id l) : calleeV ns s op = some (.yield id, l) := by
  unfold calleeC at hc
  split at hc
  · rename_i c
    split at hc
    · cases hc
    · split at hc <;> cases hc
    · rename_i t hcal
      split at hc
      · cases hc
      · rename_i i l' h1 hl
        cases hc
        simp only [calleeV, hcal, h _ _ h1, evList_mono h hl]
      · cases hc
    · cases hc
  · cases hc
  · cases hc
theorem calleeC_plain {ev : Operand → Option SV} {o : Oper} (hc : calleeC ev o.op = .plain) : ∀ c, o.op ≠ .defer c := fun c e => by
  rw [e] at hc
  cases hc
theorem same1_eq {x y : SV} (h : same1 x y = true) : x = y := by
  unfold same1 at h
  split at h <;> simp_all
theorem sameL_eq {f : SV → SV → Bool} (hf : ∀ x y, f x y = true → x = y) : ∀ {l k : List SV}, sameL f l k = true → l = k
  | [], [], _ => rfl
  | [], _ :: _, h => by cases h
  | _ :: _, [], h => by cases h
  | x :: l, y :: k, h => by
    simp only [sameL, Bool.and_eq_true] at h
    rw [hf x y h.1, sameL_eq hf h.2]
theorem same2_eq {x y : SV} (h : same2 x y = true) : x = y := by
  unfold same2 at h
  split at h
  · simp only [Bool.and_eq_true, Nat.beq_eq] at h
    rw [h.1.1, sameL_eq (fun _ _ => same1_eq) h.1.2, sameL_eq (fun _ _ => same1_eq) h.2]
  · exact same1_eq h
theorem sameA_eq {x y : SV} (h : sameA x y = true) : x = y := by
  unfold sameA at h
  split at h
  · rw [sameL_eq (fun _ _ => same2_eq) h]
  · exact same2_eq h
theorem same3_eq {x y : SV} (h : same3 x y = true) : x = y := by
  unfold same3 at h
  split at h
  · rw [sameL_eq (fun _ _ => sameA_eq) h]
  · exact sameA_eq h
theorem sameT_eq : ∀ {x y : Tr SV}, sameT x y = true → x = y
  | .lf, .lf, _ => rfl
  | .nd none l r, .nd none l' r', h => by
    simp only [sameT, Bool.and_eq_true] at h
    rw [sameT_eq h.1, sameT_eq h.2]
  | .nd (some x) l r, .nd (some y) l' r', h => by
    simp only [sameT, Bool.and_eq_true] at h
    rw [same3_eq h.1.1, sameT_eq h.1.2, sameT_eq h.2]
  | .lf, .nd _ _ _, h => by simp [sameT] at h
  | .nd _ _ _, .lf, h => by simp [sameT] at h
  | .nd none _ _, .nd (some _) _ _, h => by simp [sameT] at h
  | .nd (some _) _ _, .nd none _ _, h => by simp [sameT] at h
theorem sameE_eq : ∀ {l k : List (List Int × SV × Nat)}, sameE l k = true → l = k
  | [], [], _ => rfl
  | [], _ :: _, h => by cases h
  | _ :: _, [], h => by cases h
  | (a, x, b) :: l, (a', y, b') :: k, h => by
    simp only [sameE, Bool.and_eq_true, Nat.beq_eq, decide_eq_true_eq] at h
    rw [h.1.1.1, same3_eq h.1.1.2, h.1.2, sameE_eq h.2]
theorem sameB_eq {x y : Option CB} (h : sameB x y = true) : x = y := by
  unfold sameB at h
  split at h
  · simp only [Bool.and_eq_true, Nat.beq_eq, beq_iff_eq] at h
    rw [h.1.1.1.1.1, h.1.1.1.1.2, h.1.1.1.2, sameL_eq (fun _ _ => same2_eq) h.1.1.2, sameT_eq h.1.2, h.2]
  · simp only [Bool.and_eq_true, Nat.beq_eq, beq_iff_eq, decide_eq_true_eq] at h
    rw [h.1.1.1, h.1.1.2, sameE_eq h.1.2, h.2]
  · rfl
  · cases h
theorem subTr_lf : ∀ {x : Tr CB}, subTr x .lf = true → ∀ i, x.get i = none
  | .lf, _, _ => rfl
  | .nd v l r, h, i => by
    simp only [subTr, Bool.and_eq_true, Option.isNone_iff_eq_none] at h
    obtain ⟨⟨h1, h2⟩, h3⟩ := h
    simp only [Tr.get_nd]
    split
    · exact h1
    · split
      · exact subTr_lf h2 _
      · exact subTr_lf h3 _
theorem subTr_get : ∀ {x y : Tr CB}, subTr x y = true → ∀ i c, x.get i = some c → y.get i = some c
  | .lf, _, _, i, c, hc => by simp [Tr.get_lf] at hc
  | .nd v l r, .lf, h, i, c, hc => by rw [subTr_lf h i] at hc; cases hc
  | .nd v l r, .nd v' l' r', h, i, c, hc => by
    simp only [subTr, Bool.and_eq_true] at h
    obtain ⟨⟨h1, h2⟩, h3⟩ := h
    simp only [Tr.get_nd] at hc ⊢
    split at hc
    · rename_i e
      rw [if_pos e]
      subst hc
      exact (sameB_eq h1).symm
    · rename_i e
      rw [if_neg e]
      split at hc
      · rename_i e; rw [if_pos e]; exact subTr_get h2 _ _ hc
      · rename_i e; rw [if_neg e]; exact subTr_get h3 _ _ hc
structure KnownOk (P : Program) (K : Known) : Prop where
  ents : ∀ e ∈ K.ents, Calls2 P e.f e.args e.n e.m e.q
  closed : ∀ c ∈ K.closed, ACall P c.1 [] (.val c.2)
  sums : ∀ f g, K.sums f = some g → ∀ args n m q, g args n m = some q → Calls2 P f args n m q
theorem cwp_closed {f : FuncId} {v : Value} (h : ACall P f [] (.val v)) (n : Nat) (m : Mem) : CWp P f [] n m fun y n' m' => y = .d (.val v) ∧ n' = n ∧ m' = m :=
  ⟨h.callable, fun W0 R0 E w vs M hsz hrep => by
    refine (h.calls E.ro w vs M.rlt (by simpa using hsz) (by simp)).mono ?_
    rintro e w' ⟨u, rfl, hb, hr⟩
    let E2 : Env := { E with ro := fun b => E.ro b ∨ (w.heap.size ≤ b ∧ b < w'.heap.size) }
    have hE : E.le E2 := ⟨fun _ h => .inl h, fun _ h => h, fun _ _ => rfl⟩
    have hUlt : ∀ b, W0.U b → b < w.heap.size := fun b hb => Nat.lt_of_lt_of_le (W0.lt b hb) M.below.size
    have hro : ∀ b, E.ro b → w'.heap[b]? = w.heap[b]? := fun b hb' => hb.block b (M.rlt b hb')
    refine ⟨u, E2, n, m, .d (.val v), rfl, ⟨M.below.trans (kept_of hb hUlt), fun b hb => .inl (M.ro0 b hb), fun b hb' => ?_, fun b hb' => ?_, M.dom, M.live, fun i b hi => (M.mem i b hi).keep hE hro (hb.block _ (M.mem i b hi).lt), M.base, fun i b hi => ?_, M.inj⟩, hE, hro, .d _ _ hr, rfl, rfl, rfl⟩
    · rcases hb' with h1 | h1
      · exact M.ro1 b h1
      · exact .inr fun h2 => by have := hUlt b h2; omega
    · rcases hb' with h1 | h1
      · exact Nat.lt_of_lt_of_le (M.rlt b h1) hb.size
      · exact h1.2
    · refine (M.frz i b hi).trans ⟨fun h => .inl h, fun h1 => ?_⟩
      rcases h1 with h1 | h1
      · exact h1
      · have h3 : (E.home i).blk < w.heap.size := (M.mem i b hi).lt
        have h4 : w.heap.size ≤ (E.home i).blk := h1.1
        omega⟩
theorem findC_mem {f : FuncId} : ∀ {l : List (FuncId × Value)} {v : Value}, findC f l = some v → (f, v) ∈ l
  | [], _, h => by cases h
  | (g, u) :: l, v, h => by
    simp only [findC, beq_nat, cond_eq_ite, decide_eq_true_eq] at h
    split at h
    · rename_i e; subst e; cases h; exact List.mem_cons_self
    · exact List.mem_cons_of_mem _ (findC_mem h)
theorem findE_mem {n : Nat} : ∀ {l : List Ent} {e : Ent}, findE n l = some e → e ∈ l ∧ e.n = n
  | [], _, h => by cases h
  | g :: l, e, h => by
    simp only [findE, beq_nat, cond_eq_ite, decide_eq_true_eq] at h
    split at h
    · rename_i e; cases h; exact ⟨List.mem_cons_self, e⟩
    · exact ⟨List.mem_cons_of_mem _ (findE_mem h).1, (findE_mem h).2⟩
theorem noLoop_get : ∀ {x : Tr CB}, noLoop x = true → ∀ i st pe k sl ps a b, x.get i ≠ some (.loop st pe k sl ps a b)
  | .lf, _, _, _, _, _, _, _, _, _ => by simp [Tr.get_lf]
  | .nd v l r, h, i, st, pe, k, sl, ps, a, b => by
    simp only [noLoop, Bool.and_eq_true] at h
    obtain ⟨⟨h1, h2⟩, h3⟩ := h
    simp only [Tr.get_nd]
    split
    · intro e; rw [e] at h1; simp at h1
    · split
      · exact noLoop_get h2 _ _ _ _ _ _ _ _
      · exact noLoop_get h3 _ _ _ _ _ _ _ _
theorem top_get {α : Type} (t : Tr α) : t.get 0 = t.top := by cases t <;> rfl
theorem left_get {α : Type} (t : Tr α) (i : Nat) (h0 : i ≠ 0) (h : i % 2 = 1) : t.get i = t.left.get (i / 2) := by
  cases t with
  | lf => rfl
  | nd v l r => rw [Tr.get_nd, if_neg h0, if_pos h]; rfl
theorem right_get {α : Type} (t : Tr α) (i : Nat) (h0 : i ≠ 0) (h : ¬ i % 2 = 1) : t.get i = t.right.get (i / 2 - 1) := by
  cases t with
  | lf => rfl
  | nd v l r => rw [Tr.get_nd, if_neg h0, if_neg h]; rfl
theorem frameT_get {α : Type} : ∀ (m m0 mq : Tr α) (i : Nat), (frameT m m0 mq).get i = pk (m.get i) (m0.get i) (mq.get i)
  | .lf, m0, mq, i => by
    simp only [frameT, Tr.get_lf, pk]
    split <;> rfl
  | .nd v l r, m0, mq, i => by
    simp only [frameT]
    rw [Tr.get_nd]
    by_cases h0 : i = 0
    · subst h0
      rw [if_pos rfl, top_get, top_get, top_get]
      rfl
    · rw [if_neg h0]
      by_cases h : i % 2 = 1
      · rw [if_pos h, frameT_get l, left_get _ i h0 h, left_get m0 i h0 h, left_get mq i h0 h]
        rfl
      · rw [if_neg h, frameT_get r, right_get _ i h0 h, right_get m0 i h0 h, right_get mq i h0 h]
        rfl
theorem cwp_more {f : FuncId} {args : List SV} {n : Nat} {m0 m : Tr CB} {q : Rs} (h : CWp P f args n (mOf m0) (ResIs q)) (hm : ∀ i b, mOf m0 i = some b → mOf m i = some b) : CWp P f args n (mOf m) (ResIs ⟨q.y, q.n, frameT m m0 q.m⟩) :=
  ⟨h.callable, fun W0 R0 E w vs M h1 h2 => by
    let W1 : Fix := { w := w, U := fun b => b < w.heap.size ∧ ∀ i c, mOf m0 i = some c → (E.home i).blk ≠ b, lt := fun _ h => h.1, g := fun _ => undef }
    have hU : ∀ b, W0.U b → W1.U b := fun b hb => ⟨Nat.lt_of_lt_of_le (W0.lt b hb) M.below.size, fun i c hi e => M.base i c (hm i c hi) (e ▸ hb)⟩
    have hUn : ∀ i b, mOf m i = some b → mOf m0 i = none → W1.U (E.home i).blk := fun i b hi hn => ⟨(M.mem i b hi).lt, fun j c hj => M.inj j i c b (hm j c hj) hi fun e => by rw [e, hn] at hj; cases hj⟩
    have M1 : MS W1 E.ro (· < n) (mOf m0) E w := ⟨Kept.refl _ _, fun _ h => h, fun _ h => .inl h, M.rlt, M.dom, fun i b hi => M.live i b (hm i b hi), fun i b hi => M.mem i b (hm i b hi), fun i b hi h => h.2 i b hi rfl, fun i b hi => M.frz i b (hm i b hi), fun i j b c hi hj hn => M.inj i j b c (hm i b hi) (hm j c hj) hn⟩
    refine (h.calls W1 E.ro E w vs M1 h1 h2).mono ?_
    rintro e w' ⟨v, E', n', m', y, rfl, M2, hE, hw, hv, rfl, rfl, rfl⟩
    have hro : ∀ b, E'.ro b → E.ro b ∨ ¬ W1.U b := M2.ro1
    have cases_ : ∀ i b, mOf (frameT m m0 q.m) i = some b → mOf q.m i = some b ∨ (mOf m i = some b ∧ mOf m0 i = none) := fun i b hb => by
      simp only [mOf, frameT_get] at hb ⊢
      unfold pk at hb
      split at hb
      · exact .inl hb
      · rename_i h0
        split at hb
        · rename_i c hc
          exact .inr ⟨by rw [hc]; exact hb, by rw [h0]; rfl⟩
        · exact .inl hb
    refine ⟨v, E', q.n, mOf (frameT m m0 q.m), q.y, rfl, ⟨M.below.trans (M2.below.mono hU), fun b hb => hE.ro b (M.ro0 b hb), fun b hb => ?_, M2.rlt, M2.dom, fun i b hi => ?_, fun i b hi => ?_, fun i b hi => ?_, fun i b hi => ?_, fun i j b c hi hj hn => ?_⟩, hE, hw, hv, rfl, rfl, rfl⟩
    · rcases hro b hb with h3 | h3
      · exact M.ro1 b h3
      · exact .inr fun h4 => h3 (hU b h4)
    · rcases cases_ i b hi with h3 | ⟨h3, _⟩
      · exact M2.live i b h3
      · exact hE.dom i (M.live i b h3)
    · rcases cases_ i b hi with h3 | ⟨h3, hn⟩
      · exact M2.mem i b h3
      · rw [hE.home i (M.live i b h3)]
        exact (M.mem i b h3).keep hE hw (M2.below.block _ (hUn i b h3 hn))
    · rcases cases_ i b hi with h3 | ⟨h3, _⟩
      · exact fun h4 => M2.base i b h3 (hU _ h4)
      · rw [hE.home i (M.live i b h3)]
        exact M.base i b h3
    · rcases cases_ i b hi with h3 | ⟨h3, hn⟩
      · exact M2.frz i b h3
      · rw [hE.home i (M.live i b h3)]
        refine (M.frz i b h3).trans ⟨fun h => hE.ro _ h, fun h => ?_⟩
        rcases hro _ h with h4 | h4
        · exact h4
        · exact absurd (hUn i b h3 hn) h4
    · rcases cases_ i b hi with h3 | ⟨h3, hn3⟩
      · rcases cases_ j c hj with h4 | ⟨h4, hn4⟩
        · exact M2.inj i j b c h3 h4 hn
        · rw [hE.home j (M.live j c h4)]
          exact fun e => M2.base i b h3 (e ▸ hUn j c h4 hn4)
      · rcases cases_ j c hj with h4 | ⟨h4, hn4⟩
        · rw [hE.home i (M.live i b h3)]
          exact fun e => M2.base j c h4 (e ▸ hUn i b h3 hn3)
        · rw [hE.home i (M.live i b h3), hE.home j (M.live j c h4)]
          exact M.inj i j b c h3 h4 hn⟩
theorem callK_sound (hT : TabOk P T) (hK : KnownOk P K) (hN : NoGor P) (hR : SoundR P R) {f : FuncId} {args : List SV} {n : Nat} {m : Tr CB} {q : Rs} (h : callK P T K R f args n m = some q) : Calls2 P f args n m q := by
  unfold callK at h
  split at h
  · rename_i v hv
    split at h
    · cases h
      exact ⟨cwp_closed (hK.closed _ (findC_mem hv)) n (mOf m), Nat.le_refl _, Recs.refl _⟩
    · cases h
  · split at h
    · rename_i g hg
      exact hK.sums f g hg args n m q h
    split at h
    · rename_i e he
      obtain ⟨h1, h2⟩ := findE_mem he
      cases hc : (Nat.beq e.f f && sameL same3 args e.args && subTr e.m m && noLoop e.m) with
      | false => rw [hc] at h; exact callFn_sound hT hN hR h
      | true =>
        rw [hc] at h
        cases h
        simp only [Bool.and_eq_true, Nat.beq_eq] at hc
        obtain ⟨⟨⟨c1, c2⟩, c3⟩, c4⟩ := hc
        have hg := subTr_get c3
        have hm : ∀ i b, mOf e.m i = some b → mOf m i = some b := fun i b hb => by
          simp only [mOf, Option.map_eq_some_iff] at hb ⊢
          obtain ⟨c, hc, rfl⟩ := hb
          exact ⟨c, hg i c hc, rfl⟩
        have H := hK.ents e h1
        rw [c1, h2, ← sameL_eq (fun _ _ => same3_eq) c2] at H
        refine ⟨cwp_more H.call hm, H.n, fun id st pe k sl ps x y hh => ⟨st, pe, ?_⟩⟩
        rw [frameT_get]
        cases h0 : e.m.get id with
        | none => simp only [pk, hh]
        | some c =>
          have := hg id c h0
          rw [hh] at this
          cases this
          exact absurd h0 (noLoop_get c4 id st pe k sl ps x y)
    · exact callFn_sound hT hN hR h
theorem Calls2.less {f : FuncId} {args : List SV} {n : Nat} {m : Tr CB} {q q' : Rs} (h : Calls2 P f args n m q) (hy : q'.y = q.y) (hn : q'.n = q.n) (hm : ∀ i b, mOf q'.m i = some b → mOf q.m i = some b) (hr : Recs m q'.m) : Calls2 P f args n m q' := by
  refine ⟨⟨h.call.callable, fun W0 R0 E w vs M h1 h2 => (h.call.calls W0 R0 E w vs M h1 h2).mono ?_⟩, by rw [hn]; exact h.n, hr⟩
  rintro e w' ⟨v, E', n', m', y, rfl, M2, hE, hk, hv, rfl, rfl, rfl⟩
  exact ⟨v, E', q'.n, mOf q'.m, q'.y, rfl, ⟨M2.below, M2.ro0, M2.ro1, M2.rlt, fun i hi => by rw [hn]; exact M2.dom i hi, fun i b hi => M2.live i b (hm i b hi), fun i b hi => M2.mem i b (hm i b hi), fun i b hi => M2.base i b (hm i b hi), fun i b hi => M2.frz i b (hm i b hi), fun i j b c hi hj hne => M2.inj i j b c (hm i b hi) (hm j c hj) hne⟩, hE, hk, by rw [hy]; exact hv, rfl, rfl, rfl⟩
def StepIs (P : Program) (r : Option Nat) (ns n : Nat) (s : St) (o : Oper) (q : Rs) : Prop := StepI P r ns n s o fun n2 s2 => n2 = q.n ∧ s2 = ⟨setSlot s.slots o.dst q.y, mOf q.m⟩
structure Does (P : Program) (ns : Nat) (ev : Operand → Option SV) (s : CS) (o : Oper) (q : Rs) : Prop where
  step : ∀ (r : Option Nat) (s' : St), s'.mem = mOf s.mem → (∀ x v, ev x = some v → opd ns s' x = some v) → StepIs P r ns s.n s' o q
  n : s.n ≤ q.n
  recs : Recs s.mem q.m
theorem doOp_sound (hT : TabOk P T) (hZ : ZTabOk T Z) (hQ : QTabOk P Q) (hM : MTabOk P M) (hK : KnownOk P K) (hN : NoGor P) (hR : SoundR P R) {ev : Operand → Option SV} {s : CS} {o : Oper} {q : Rs} (h : doOp P T Z Q M K R ev s o = some q) : Does P ns ev s o q := by
  unfold doOp at h
  split at h
  · rename_i hc
    have hdf := calleeC_plain hc
    cases hw : isW o.op with
    | true =>
      rw [hw] at h
      simp only [cond_true] at h
      split at h
      · rename_i x m' hx
        cases h
        have hrec : Recs s.mem m' := xW_recs hx
        refine ⟨fun r s' hm hev W0 R0 B E a w hi hs hd K1 Q' hK1 => ?_, Nat.le_succ _, hrec⟩
        obtain ⟨⟨E', w', h1, h2⟩, _⟩ := xW_run hT hZ hM hs hm (nid := s.n) (by omega) (fun x v hx => hs.opd (hev x v hx)) hx
        refine oper_in hdf ?_
        unfold Oper.wp
        rcases h2 with ⟨v, hr, hv⟩ | ⟨hr, hu⟩
        · rw [hr]
          exact hK1 _ _ E' _ w' ⟨rfl, rfl⟩ ((h1.weak (D' := (· < s.n + 1)) fun i hi => by omega).put hd hv)
        · rw [hr]
          have := (h1.weak (D' := (· < s.n + 1)) fun i hi => by omega).put hd (Rep.und (E := E') (w := w') undef)
          exact hK1 _ _ E' _ w' ⟨rfl, by rw [hu]⟩ this
      · cases h
    | false =>
      rw [hw] at h
      simp only [cond_false] at h
      split at h
      · rename_i x hx
        cases h
        refine ⟨fun r s' hm hev W0 R0 B E a w hi hs hd K1 Q' hK1 => ?_, Nat.le_refl _, Recs.refl _⟩
        refine oper_in hdf (PureStep.wp (P := P) (s := s') (x := x) (fun W0 R0 D E a w hs => xR_run hT hQ hM (fun x v hx => hs.opd (hev x v hx)) (fun i b hi => hs.mem i b (by rw [hm]; exact hi)) hx) hs hd fun a' hs' => ?_)
        exact hK1 _ ⟨setSlot s'.slots o.dst x, mOf s.mem⟩ E _ w ⟨rfl, rfl⟩ (by rw [hm] at hs'; exact hs')
      · cases h
  · rename_i f l hc
    have h1 := callK_sound hT hK hN hR h
    refine ⟨fun r s' hm hev => ?_, h1.n, h1.recs⟩
    have h2 := stepI_call (r := r) (n := s.n) (calleeC_fn hev hc) (by rw [hm]; exact h1.call)
    exact fun W0 R0 B E a w hi hs hd K1 Q' hK1 => h2 W0 R0 B E a w hi hs hd K1 Q' fun n2 s2 E' a' w' ⟨y, m2, ⟨e1, e2, e3⟩, e4⟩ hs2 => hK1 n2 s2 E' a' w' ⟨e2, by rw [e4, e1, e3]⟩ hs2
  · rename_i id l hc
    have h1 := callYl_sound hR h
    refine ⟨fun r s' hm hev => ?_, h1.n, h1.recs⟩
    have h2 := h1.call r ns s' o hm (calleeC_yl hev hc)
    exact fun W0 R0 B E a w hi hs hd K1 Q' hK1 => h2 W0 R0 B E a w hi hs hd K1 Q' fun n2 s2 E' a' w' ⟨y, m2, ⟨e1, e2, e3⟩, e4⟩ hs2 => hK1 n2 s2 E' a' w' ⟨e2, by rw [e4, e1, e3]⟩ hs2
  · cases h
end Go.Proofs.Ytdkneonokbakjaa.Eng

noncomputable section
namespace Go.Proofs.Ytdkneonokbakjaa.Eng
open Go.RowKit
variable {P : Program} {T : Tab} {Z : ZTab} {Q : QTab} {M : MTab} {K : Known} {R : Runner} {r : Option Nat} {ns : Nat}
theorem sOf_dst {s : CS} {ops : Array Oper} {o : Oper} {b : Bool} (hns : okN ns = true) (hg : guardS ops ns s.den o = some b) (x : SV) : sOf (putD s.sl o.dst x) = setSlot (sOf s.sl) o.dst x :=
  sOf_putD fun i hi => Nat.lt_trans (guardS_dst hg i hi) (okN_lt hns)
theorem doOps_sound (hT : TabOk P T) (hZ : ZTabOk T Z) (hQ : QTabOk P Q) (hM : MTabOk P M) (hK : KnownOk P K) (hN : NoGor P) (hR : SoundR P R) (hns : okN ns = true) {ops : Array Oper} : ∀ (l : List Oper) (s : CS) {s' : CS}, doOps P T Z Q M K R ns ops l s = some s' →
    s.n ≤ s'.n ∧ Recs s.mem s'.mem ∧ ∀ {W0 : Fix} {R0 : Nat → Prop} {B : Nat} {E : Env} {a : Act} {w : World} {Q : Exit → Act → World → Prop}, InAct r W0 R0 B → Sim W0 R0 ns (· < s.n) s.den E a w → (∀ E' a' w', Sim W0 R0 ns (· < s'.n) s'.den E' a' w' → Q .normal a' w') → wpListIn (fen (rOf W0 r)) 0 P ops Q l a w
  | [], s, s', h => by
    cases h
    exact ⟨Nat.le_refl _, Recs.refl _, fun _ hs hQ => hQ _ _ _ hs⟩
  | o :: l, s, s', h => by
    simp only [doOps, doF_eq, gF_eq] at h
    split at h
    · rename_i hg
      split at h
      · rename_i q hq
        have h1 := doOp_sound hT hZ hQ hM hK hN hR (ns := ns) hq
        obtain ⟨i1, i2, i3⟩ := doOps_sound hT hZ hQ hM hK hN hR hns l _ h
        refine ⟨Nat.le_trans h1.n i1, h1.recs.trans i2, fun {W0 R0 B E a w Q} hi hs hQ => wpListIn_step fun K hK => ?_⟩
        rw [guard_ok hs hg, if_pos rfl]
        refine h1.step r s.den rfl (fun x v hx => hx) _ _ _ _ _ _ hi hs (guardS_dst hg) K _ fun n2 s2 E' a' w' hG hs2 => hK _ _ (i3 (E := E') hi ?_ hQ)
        obtain ⟨rfl, rfl⟩ := hG
        simp only [CS.den, sOf_dst hns hg]
        exact hs2
      · cases h
    · rename_i hg
      obtain ⟨i1, i2, i3⟩ := doOps_sound hT hZ hQ hM hK hN hR hns l _ h
      refine ⟨i1, i2, fun {W0 R0 B E a w Q} hi hs hQ => wpListIn_step fun K hK => ?_⟩
      rw [guard_ok hs hg, if_neg (by simp)]
      refine ⟨fun f _ => fen_fn _ f, hK _ _ (i3 (E := E) hi ?_ hQ)⟩
      simp only [CS.den, sOf_dst hns hg]
      exact hs.put (guardS_dst hg) rep_no
    · cases h
theorem evR_slots {L : List Nat} {f : Nat → SV} {s : St} (h : ∀ t ∈ L, s.slots t = f t) : ∀ x v, evR L ns f x = some v → opd ns s x = some v := fun x v hx => by
  cases x with
  | tmp t =>
    simp only [evR] at hx
    cases hc : (memN L t && Nat.ble (t + 1) ns) with
    | false => rw [hc] at hx; cases hx
    | true =>
      rw [hc] at hx
      rw [Bool.and_eq_true, memN_iff, Nat.ble_eq] at hc
      cases hx
      simp only [opd, if_pos (show t < ns from hc.2), h t hc.1]
  | const c => exact hx
  | global => cases hx
  | func => exact hx
theorem memC_sub {m : Tr CB} : ∀ {l : List Nat} {i : Nat} {b : Blk}, mOf (memC m l) i = some b → i ∈ l ∧ mOf m i = some b
  | [], i, b, h => by simp [memC, mOf, Tr.get_lf] at h
  | j :: l, i, b, h => by
    simp only [memC] at h
    cases hc : Nat.ble j 10000000 with
    | false => rw [hc] at h; exact ⟨List.mem_cons_of_mem _ (memC_sub h).1, (memC_sub h).2⟩
    | true =>
      rw [hc] at h
      simp only [cond_true, mOf_put (lt_deep hc), setMem] at h
      by_cases e : i = j
      · rw [if_pos e] at h
        subst e
        exact ⟨List.mem_cons_self, h⟩
      · rw [if_neg e] at h
        exact ⟨List.mem_cons_of_mem _ (memC_sub h).1, (memC_sub h).2⟩
structure EnOk (P : Program) (T : Tab) (Z : ZTab) (Q : QTab) (M : MTab) (K : Known) (R : Runner) (ns : Nat) (ops : Array Oper) (o : Oper) (e : En) : Prop where
  k : match e.k with
    | .off => guardS ops ns e.s.den o = some false ∧ e.s' = ⟨e.s.n, putD e.s.sl o.dst (.tup []), e.s.mem⟩
    | .pure x ids => guardS ops ns e.s.den o = some true ∧ plainP (evR (slotsOf o.op) ns (sOf e.s.sl)) o.op = true ∧ xR T Q M (memC e.s.mem ids) (evR (slotsOf o.op) ns (sOf e.s.sl)) o.op = some x ∧ e.s' = ⟨e.s.n, putD e.s.sl o.dst x, e.s.mem⟩
    | .exact y => guardS ops ns e.s.den o = some true ∧ ∃ q, doOp P T Z Q M K R (evR (slotsOf o.op) ns (sOf e.s.sl)) e.s o = some q ∧ y = q.y ∧ e.s' = ⟨q.n, putD e.s.sl o.dst q.y, q.m⟩
inductive Chain (P : Program) (T : Tab) (Z : ZTab) (Q : QTab) (M : MTab) (K : Known) (R : Runner) (ns : Nat) (ops : Array Oper) : List Oper → List En → CS → CS → Prop
  | nil (s) : Chain P T Z Q M K R ns ops [] [] s s
  | cons {o l e es sF} : EnOk P T Z Q M K R ns ops o e → Chain P T Z Q M K R ns ops l es e.s' sF → Chain P T Z Q M K R ns ops (o :: l) (e :: es) e.s sF
theorem drOps_chain {ops : Array Oper} : ∀ (l : List Oper) (s : CS) {es : List En} {sF : CS}, drOps P T Z Q M K R ns ops l s = some (es, sF) → Chain P T Z Q M K R ns ops l es s sF
  | [], s, es, sF, h => by cases h; exact .nil s
  | o :: l, s, es, sF, h => by
    simp only [drOps, doF_eq, gF_eq, pureF_eq] at h
    split at h
    · rename_i hg
      split at h
      · rename_i es' s2 hr
        cases h
        exact .cons (e := ⟨.off, s, _⟩) ⟨hg, rfl⟩ (drOps_chain l _ hr)
      · cases h
    · rename_i hg
      cases hp : plainS o.op with
      | true =>
        rw [hp] at h
        simp only [cond_true] at h
        split at h
        · rename_i x hx
          split at h
          · rename_i es' s2 hr
            cases h
            exact .cons (e := ⟨.pure x _, s, _⟩) ⟨hg, plainS_P hp _, hx, rfl⟩ (drOps_chain l _ hr)
          · cases h
        · cases h
      | false =>
        rw [hp] at h
        simp only [cond_false] at h
        split at h
        · rename_i q hq
          split at h
          · rename_i es' s2 hr
            cases h
            exact .cons (e := ⟨.exact q.y, s, _⟩) ⟨hg, q, hq, rfl, rfl⟩ (drOps_chain l _ hr)
          · cases h
        · cases h
    · cases h
def stAt (es : List En) (sF : CS) (k : Nat) : CS := match es[k]? with
  | some e => e.s
  | none => sF
theorem chain_len {ops : Array Oper} {l : List Oper} {es : List En} {s sF : CS} (h : Chain P T Z Q M K R ns ops l es s sF) : es.length = l.length := by
  induction h with
  | nil => rfl
  | cons _ _ ih => simp [ih]
theorem chain_zero {ops : Array Oper} {l : List Oper} {es : List En} {s sF : CS} (h : Chain P T Z Q M K R ns ops l es s sF) : stAt es sF 0 = s := by
  cases h with
  | nil => rfl
  | cons => rfl
theorem chain_at {ops : Array Oper} {l : List Oper} {es : List En} {s sF : CS} (h : Chain P T Z Q M K R ns ops l es s sF) : ∀ (k : Nat) o, l[k]? = some o → ∃ e, es[k]? = some e ∧ EnOk P T Z Q M K R ns ops o e ∧ stAt es sF k = e.s ∧ stAt es sF (k + 1) = e.s' := by
  induction h with
  | nil => intro k o hk; simp at hk
  | @cons o l e es sF he hc ih =>
    intro k o' hk
    match k with
    | 0 =>
      simp only [List.getElem?_cons_zero, Option.some.injEq] at hk
      subst hk
      exact ⟨e, rfl, he, rfl, chain_zero hc⟩
    | k + 1 =>
      obtain ⟨e', h1, h2, h3, h4⟩ := ih k o' (by simpa using hk)
      exact ⟨e', by simpa using h1, h2, h3, h4⟩
theorem chain_end {ops : Array Oper} {l : List Oper} {es : List En} {s sF : CS} (h : Chain P T Z Q M K R ns ops l es s sF) : stAt es sF l.length = sF := by
  unfold stAt
  rw [List.getElem?_eq_none (by rw [chain_len h]; omega)]
def kdOf (es : List En) (k : Nat) : Kd := match es[k]? with
  | some e => match e.k with
    | .off => .off
    | .pure x ids => .pure x ids
    | .exact y => .exact y e.s'.n (mOf e.s'.mem)
  | none => .off
theorem okAfter_spec {i : Nat} {a : En} : ∀ {bs : List Nat} {es : List En}, okAfter i a bs es = true → es.length ≤ bs.length → ∀ (q : Nat) e, es[q]? = some e → ∃ b, bs[q]? = some b ∧ pairOk b i a e = true
  | [], [], _, _, q, e, h => by simp at h
  | [], _ :: _, _, hl, _, _, _ => by simp at hl
  | _ :: _, [], _, _, q, e, h => by simp at h
  | b :: bs, e :: es, h, hl, q, f, hq => by
    simp only [okAfter, Bool.and_eq_true] at h
    match q with
    | 0 =>
      simp only [List.getElem?_cons_zero, Option.some.injEq] at hq
      subst hq
      exact ⟨b, rfl, h.1⟩
    | q + 1 =>
      have := okAfter_spec h.2 (by simpa using hl) q f (by simpa using hq)
      simpa using this
theorem okEs_spec : ∀ {i0 : Nat} {bs : List Nat} {es : List En}, okEs i0 bs es = true → es.length ≤ bs.length → ∀ (p q : Nat) e f, p < q → es[p]? = some e → es[q]? = some f → ∃ b, bs[q]? = some b ∧ pairOk b (i0 + p) e f = true
  | _, [], [], _, _, p, q, e, f, _, h, _ => by simp at h
  | _, [], _ :: _, _, hl, _, _, _, _, _, _, _ => by simp at hl
  | _, _ :: _, [], _, _, p, q, e, f, _, h, _ => by simp at h
  | i0, b :: bs, e :: es, h, hl, p, q, g, f, hpq, hp, hq => by
    simp only [okEs, Bool.and_eq_true] at h
    obtain ⟨q, rfl⟩ : ∃ q', q = q' + 1 := ⟨q - 1, by omega⟩
    simp only [List.getElem?_cons_succ] at hq ⊢
    match p with
    | 0 =>
      simp only [List.getElem?_cons_zero, Option.some.injEq] at hp
      subst hp
      exact okAfter_spec h.1 (by simpa using hl) q f hq
    | p + 1 =>
      have := okEs_spec h.2 (by simpa using hl) p q g f (by omega) (by simpa using hp) hq
      rw [show i0 + (p + 1) = i0 + 1 + p by omega]
      exact this
theorem anyEx_of : ∀ {es : List En} {k : Nat} {e : En} {y : SV}, es[k]? = some e → e.k = .exact y → anyEx es = true
  | [], k, _, _, h, _ => by simp at h
  | f :: es, 0, e, y, h, hk => by
    simp only [List.getElem?_cons_zero, Option.some.injEq] at h
    subst h
    simp only [anyEx, hk]
  | f :: es, k + 1, e, y, h, hk => by
    simp only [anyEx]
    split
    · rfl
    · exact anyEx_of (by simpa using h) hk
theorem stAfter_spec {i : Nat} {a : Nat × Nat} : ∀ {bs : List Nat} {es : List (Nat × Nat)}, stAfter i a bs es = true → es.length ≤ bs.length → ∀ (q : Nat) e, es[q]? = some e → ∃ b, bs[q]? = some b ∧ (b.testBit i = true ∨ (a.2 &&& (e.1 ||| e.2)) ||| (a.1 &&& e.2) = 0)
  | [], [], _, _, q, e, h => by simp at h
  | [], _ :: _, _, hl, _, _, _ => by simp at hl
  | _ :: _, [], _, _, q, e, h => by simp at h
  | b :: bs, e :: es, h, hl, q, f, hq => by
    simp only [stAfter, Bool.and_eq_true, Bool.or_eq_true] at h
    match q with
    | 0 =>
      simp only [List.getElem?_cons_zero, Option.some.injEq] at hq
      subst hq
      exact ⟨b, rfl, h.1.imp id fun h => by simpa [zeroN] using h⟩
    | q + 1 =>
      have := stAfter_spec h.2 (by simpa using hl) q f (by simpa using hq)
      simpa using this
theorem stAll_spec : ∀ {i0 : Nat} {bs : List Nat} {es : List (Nat × Nat)}, stAll i0 bs es = true → es.length ≤ bs.length → ∀ (p q : Nat) e f, p < q → es[p]? = some e → es[q]? = some f → ∃ b, bs[q]? = some b ∧ (b.testBit (i0 + p) = true ∨ (e.2 &&& (f.1 ||| f.2)) ||| (e.1 &&& f.2) = 0)
  | _, [], [], _, _, p, q, e, f, _, h, _ => by simp at h
  | _, [], _ :: _, _, hl, _, _, _, _, _, _, _ => by simp at hl
  | _, _ :: _, [], _, _, p, q, e, f, _, h, _ => by simp at h
  | i0, b :: bs, e :: es, h, hl, p, q, g, f, hpq, hp, hq => by
    simp only [stAll, Bool.and_eq_true] at h
    obtain ⟨q, rfl⟩ : ∃ q', q = q' + 1 := ⟨q - 1, by omega⟩
    simp only [List.getElem?_cons_succ] at hq ⊢
    match p with
    | 0 =>
      simp only [List.getElem?_cons_zero, Option.some.injEq] at hp
      subst hp
      exact stAfter_spec h.1 (by simpa using hl) q f hq
    | p + 1 =>
      have := stAll_spec h.2 (by simpa using hl) p q g f (by omega) (by simpa using hp) hq
      rw [show i0 + (p + 1) = i0 + 1 + p by omega]
      exact this
theorem ancs_len : ∀ (l : List Oper) (acc : List Nat), (ancs l acc).length = acc.length + l.length
  | [], acc => rfl
  | o :: l, acc => by simp only [ancs, ancs_len l]; simp; omega
theorem kd_ex {es : List En} {k : Nat} (h : (kdOf es k).ex = true) : ∃ e y, es[k]? = some e ∧ e.k = .exact y := by
  unfold kdOf at h
  split at h
  · rename_i e he
    split at h
    · cases h
    · cases h
    · rename_i y hy; exact ⟨e, y, he, hy⟩
  · cases h
theorem kd_pure {es : List En} {k : Nat} {x : SV} {ids : List Nat} (h : kdOf es k = .pure x ids) : ∃ e, es[k]? = some e ∧ e.k = .pure x ids := by
  unfold kdOf at h
  split at h
  · rename_i e he
    split at h
    · cases h
    · rename_i hk; cases h; exact ⟨e, he, hk⟩
    · cases h
  · cases h
theorem draw_of (hT : TabOk P T) (hZ : ZTabOk T Z) (hQ : QTabOk P Q) (hM : MTabOk P M) (hK : KnownOk P K) (hN : NoGor P) (hR : SoundR P R) (hns : okN ns = true) {l : List Oper} {es : List En} {s sF : CS} (h : Chain P T Z Q M K R ns l.toArray l es s sF) (hst : stOk l.toArray = true) (hok : okDyn (ancs l []) es = true) :
    Draw P r ns l (fun k => (stAt es sF k).den) (fun k => (stAt es sF k).n) (kdOf es) := by
  have hlen := chain_len h
  have at_ : ∀ (k : Nat), k < l.length → ∃ o e, l[k]? = some o ∧ es[k]? = some e ∧ EnOk P T Z Q M K R ns l.toArray o e ∧ stAt es sF k = e.s ∧ stAt es sF (k + 1) = e.s' := fun k hk => by
    obtain ⟨e, h1, h2, h3, h4⟩ := chain_at h k _ (List.getElem?_eq_getElem hk)
    exact ⟨_, e, List.getElem?_eq_getElem hk, h1, h2, h3, h4⟩
  unfold stOk at hst
  rw [Bool.and_eq_true] at hst
  have bit : ∀ {i k b : Nat}, (ancs l [])[k]? = some b → b.testBit i = true → Anc l i k := fun {i k b} hb hbt => by
    refine ancs_ok l [] [] rfl rfl (fun k i hk => by simp at hk) k i ?_
    rw [List.getD_eq_getElem?_getD, hb]
    simpa using hbt
  have anc : ∀ i k e f, i < k → es[i]? = some e → es[k]? = some f → (∃ y, e.k = .exact y) ∨ (∃ y, f.k = .exact y) → ∃ b, (ancs l [])[k]? = some b ∧ pairOk b i e f = true := fun i k e f hik hi hk hx => by
    have hany : anyEx es = true := by
      rcases hx with ⟨y, hy⟩ | ⟨y, hy⟩
      · exact anyEx_of hi hy
      · exact anyEx_of hk hy
    unfold okDyn at hok
    rw [hany] at hok
    have := okEs_spec (okEs3_ok hok) (by rw [ancs_len, hlen]; simp) i k e f hik hi hk
    simpa using this
  refine ⟨fun k o hk => ?_, fun k hk => ?_, fun k hk => ?_, fun k o hk hd => ?_, fun k o x ids hk hd => ?_, fun k o y n' m' hk hd => ?_, fun i k oi ok t hik hi hk ht => ?_, fun i k hik hk hi he => ?_, fun i k x ids hik hk hi he => ?_, fun i k x ids hik hk hi he => ?_⟩
  · obtain ⟨e, h1, h2, h3, h4⟩ := chain_at h k o hk
    simp only [h3, h4, kdOf, h1]
    have hk2 := h2.k
    cases hek : e.k with
    | off => rw [hek] at hk2; simp only at hk2 ⊢; rw [hk2.2]; simp only [CS.den, sOf_dst hns hk2.1]; rfl
    | pure x ids => rw [hek] at hk2; simp only at hk2 ⊢; rw [hk2.2.2.2]; simp only [CS.den, sOf_dst hns hk2.1]; rfl
    | exact y => rw [hek] at hk2; simp only at hk2 ⊢; obtain ⟨hg, q, hq, rfl, hs⟩ := hk2; rw [hs]; simp only [CS.den, sOf_dst hns hg]; rfl
  · obtain ⟨o, e, _, h1, h2, h3, h4⟩ := at_ k hk
    simp only [h3, h4, kdOf, h1]
    have hk2 := h2.k
    cases hek : e.k with
    | off => rw [hek] at hk2; simp only at hk2 ⊢; rw [hk2.2]; rfl
    | pure x ids => rw [hek] at hk2; simp only at hk2 ⊢; rw [hk2.2.2.2]; rfl
    | exact y => rfl
  · obtain ⟨o, e, _, h1, h2, h3, h4⟩ := at_ k hk
    simp only [h3, h4, kdOf, h1]
    have hk2 := h2.k
    cases hek : e.k with
    | off => rw [hek] at hk2; simp only at hk2 ⊢; rw [hk2.2]; exact ⟨rfl, Nat.le_refl _⟩
    | pure x ids => rw [hek] at hk2; simp only at hk2 ⊢; rw [hk2.2.2.2]; exact ⟨rfl, Nat.le_refl _⟩
    | exact y =>
      rw [hek] at hk2
      simp only at hk2 ⊢
      obtain ⟨hg, q, hq, rfl, hs⟩ := hk2
      refine ⟨rfl, ?_⟩
      rw [hs]
      exact (doOp_sound hT hZ hQ hM hK hN hR (ns := ns) hq).n
  · obtain ⟨e, h1, h2, h3, h4⟩ := chain_at h k o hk
    simp only [h3]
    simp only [kdOf, h1] at hd
    have hk2 := h2.k
    cases hek : e.k with
    | off => rw [hek] at hk2; exact hk2.1
    | pure x ids => rw [hek] at hd; cases hd
    | exact y => rw [hek] at hd; cases hd
  · obtain ⟨e, h1, h2, h3, h4⟩ := chain_at h k o hk
    simp only [h3]
    simp only [kdOf, h1] at hd
    have hk2 := h2.k
    cases hek : e.k with
    | off => rw [hek] at hd; cases hd
    | exact y => rw [hek] at hd; cases hd
    | pure x' ids' =>
      rw [hek] at hd hk2
      cases hd
      simp only at hk2
      obtain ⟨hg, hp, hx, hs⟩ := hk2
      refine ⟨hg, fun s' hsl hme => PureStep.ro (fun c e' => ?_) fun W0 R0 D E a w hsim => ?_⟩
      · unfold plainP at hp
        split at hp
        · rename_i hc; exact calleeC_plain hc c e'
        · cases hp
      · exact xR_run hT hQ hM (fun y v hv => hsim.opd (evR_slots (s := s') hsl y v hv)) (fun i b hi => by
          obtain ⟨q1, q2⟩ := memC_sub hi
          exact hsim.mem i b ((hme i q1).trans q2)) hx
  · obtain ⟨e, h1, h2, h3, h4⟩ := chain_at h k o hk
    simp only [h3]
    simp only [kdOf, h1] at hd
    have hk2 := h2.k
    cases hek : e.k with
    | off => rw [hek] at hd; cases hd
    | pure x ids => rw [hek] at hd; cases hd
    | exact y' =>
      rw [hek] at hd hk2
      cases hd
      simp only at hk2
      obtain ⟨hg, q, hq, rfl, hs⟩ := hk2
      refine ⟨hg, fun s' hsl hme => ?_⟩
      have h5 := (doOp_sound hT hZ hQ hM hK hN hR (ns := ns) hq).step r s' hme (evR_slots (s := s') hsl)
      rw [hs]
      exact h5
  · have a1 : (l.toArray.toList.map fun o => (maskL (guardSlot l.toArray o ++ slotsOf o.op), maskL o.dst.toList))[i]? = some (maskL (guardSlot l.toArray oi ++ slotsOf oi.op), maskL oi.dst.toList) := by simp [hi]
    have a2 : (l.toArray.toList.map fun o => (maskL (guardSlot l.toArray o ++ slotsOf o.op), maskL o.dst.toList))[k]? = some (maskL (guardSlot l.toArray ok ++ slotsOf ok.op), maskL ok.dst.toList) := by simp [hk]
    obtain ⟨b, hb, h5⟩ := stAll_spec hst.2 (by rw [ancs_len]; simp) i k _ _ hik a1 a2
    rcases h5 with h5 | h6
    · exact bit hb (by simpa using h5)
    · exfalso
      obtain ⟨h7, h8⟩ := or_zero h6
      rcases ht with ⟨ht, h9⟩ | ⟨ht, h9⟩
      · refine and_bit h7 (x := t) (maskL_mem (by simp [ht])) ?_
        rw [Nat.testBit_or, Bool.or_eq_true]
        rcases h9 with h9 | h9 | h9
        · exact .inr (maskL_mem (by simp [h9]))
        · exact .inl (maskL_mem (List.mem_append_left _ h9))
        · exact .inl (maskL_mem (List.mem_append_right _ h9))
      · refine and_bit h8 (x := t) (maskL_mem ?_) (maskL_mem (by simp [ht]))
        rcases h9 with h9 | h9
        · exact List.mem_append_left _ h9
        · exact List.mem_append_right _ h9
  · obtain ⟨e, y, h1, h2⟩ := kd_ex hi
    obtain ⟨f, z, g1, g2⟩ := kd_ex he
    obtain ⟨b, hb, h5⟩ := anc i k e f hik h1 g1 (.inl ⟨y, h2⟩)
    unfold pairOk at h5
    rw [h2, g2] at h5
    exact bit hb h5
  · obtain ⟨e, y, h1, h2⟩ := kd_ex hi
    obtain ⟨f, g1, g2⟩ := kd_pure he
    obtain ⟨b, hb, h5⟩ := anc i k e f hik h1 g1 (.inl ⟨y, h2⟩)
    unfold pairOk at h5
    rw [h2, g2, Bool.or_eq_true] at h5
    refine h5.imp (fun h5 => bit hb h5) fun h5 j hj => ?_
    have h6 := sameB_eq (List.all_eq_true.1 h5 j hj)
    obtain ⟨o, e', _, q1, _, q3, q4⟩ := at_ i (by omega)
    rw [h1] at q1
    cases q1
    simp only [q3, q4, CS.den, mOf, h6]
  · obtain ⟨e, h1, h2⟩ := kd_pure hi
    obtain ⟨f, y, g1, g2⟩ := kd_ex he
    obtain ⟨b, hb, h5⟩ := anc i k e f hik h1 g1 (.inr ⟨y, g2⟩)
    unfold pairOk at h5
    rw [h2, g2, Bool.or_eq_true] at h5
    refine h5.imp (fun h5 => bit hb h5) fun h5 j hj => ?_
    have h6 := sameB_eq (List.all_eq_true.1 h5 j hj)
    obtain ⟨o, e', _, q1, _, q3, q4⟩ := at_ k hk
    rw [g1] at q1
    cases q1
    simp only [q3, q4, CS.den, mOf, h6]
theorem chain_mono (hT : TabOk P T) (hZ : ZTabOk T Z) (hQ : QTabOk P Q) (hM : MTabOk P M) (hK : KnownOk P K) (hN : NoGor P) (hR : SoundR P R) {ops : Array Oper} {l : List Oper} {es : List En} {s sF : CS} (h : Chain P T Z Q M K R ns ops l es s sF) : s.n ≤ sF.n ∧ Recs s.mem sF.mem := by
  induction h with
  | nil => exact ⟨Nat.le_refl _, Recs.refl _⟩
  | @cons o l e es sF he hc ih =>
    have hk := he.k
    have h0 : e.s.n ≤ e.s'.n ∧ Recs e.s.mem e.s'.mem := by
      cases hek : e.k with
      | off => rw [hek] at hk; simp only at hk; rw [hk.2]; exact ⟨Nat.le_refl _, Recs.refl _⟩
      | pure x ids => rw [hek] at hk; simp only at hk; rw [hk.2.2.2]; exact ⟨Nat.le_refl _, Recs.refl _⟩
      | exact y =>
        rw [hek] at hk
        simp only at hk
        obtain ⟨hg, q, hq, rfl, hs⟩ := hk
        have := doOp_sound hT hZ hQ hM hK hN hR (ns := ns) hq
        rw [hs]
        exact ⟨this.n, this.recs⟩
    exact ⟨Nat.le_trans h0.1 ih.1, h0.2.trans ih.2⟩
end Go.Proofs.Ytdkneonokbakjaa.Eng

noncomputable section
namespace Go.Proofs.Ytdkneonokbakjaa.Eng
open Go.RowKit
variable {P : Program} {T : Tab} {Z : ZTab} {Q : QTab} {M : MTab} {K : Known} {R : Runner} {r : Option Nat} {ns : Nat}
theorem Is.here {e : Exit} {s : CS} : Is e s e s.n s.den := ⟨rfl, rfl, rfl⟩
theorem runs_no {c : Code} {s : CS} {e : Exit} (h : AWi P r ns c s.n s.den (Is e s)) : Runs P r ns .no c s e s := ⟨h, Nat.le_refl _, Recs.refl _⟩
theorem Runs.left {c : Code} {k : Nat → St → Prop} {s s1 : CS} {e : Exit} (h1 : Runs P r ns .no c s e s1) (he : e ≠ .normal) : AWi P r ns c s.n s.den (thenP k (Is e s1)) :=
  AWi.mono h1.walk fun e2 _ _ ⟨a, b, c⟩ => by subst a; cases e2 <;> first | exact absurd rfl he | exact ⟨rfl, b, c⟩
theorem Runs.on {c : Code} {k : Nat → St → Prop} {Q : Post} {s s1 : CS} (h1 : Runs P r ns .no c s .normal s1) (h : k s1.n s1.den) : AWi P r ns c s.n s.den (thenP k Q) :=
  AWi.mono h1.walk fun e2 _ _ ⟨a, b, c⟩ => by subst a; subst b; subst c; exact h
theorem hasRec_spec {m : Tr CB} (h : hasRec m r = true) : ∀ id, r = some id → ∃ st pe k sl ps x y z, mOf m id = some (.loop st pe k sl ps x y z) := fun id e => by
  subst e
  unfold hasRec at h
  split at h
  · rename_i e; cases e
  · rename_i i e
    cases e
    split at h
    · rename_i st pe k sl ps x y hg
      exact ⟨_, _, _, _, _, _, _, _, mOf_get hg⟩
    · cases h
theorem rangeX_sound (hT : TabOk P T) (hN : NoGor P) (hR : SoundR P R) {s s' : CS} {f : FuncId} {us vs : List SV} {ps : Array Tmp} {x y : Code} {g : Operand} {e : Exit} (hg : opd ns s.den g = some (.fn f us vs)) (h : rangeX P T R r ns s f us vs ps x y = some (e, s')) : Runs P r ns .no (.rangeFunc g ps x y) s e s' := by
  unfold rangeX at h
  cases hc : (free s.mem s.n && hasRec s.mem r) with
  | false => rw [hc] at h; cases h
  | true =>
    rw [hc] at h
    simp only [cond_true] at h
    rw [Bool.and_eq_true] at hc
    obtain ⟨c1, c2⟩ := hc
    obtain ⟨hlt, hnone⟩ := free_spec c1
    split at h
    · rename_i q hq
      have h1 := callFn_sound hT hN hR hq
      obtain ⟨st', pe', hg'⟩ := h1.recs s.n .ready none ns s.sl ps x y (by rw [get_putM hlt, if_pos rfl])
      split at h
      · rename_i st pe _ _ _ _ _ hg2
        rw [hg'] at hg2
        cases hg2
        have hrec : Recs s.mem (putM q.m s.n (some (.loop .exhausted pe' ns s.sl ps x y))) := ((Recs.new c1).trans h1.recs).trans (Recs.upd hg' hlt _ _)
        have key : st' ≠ .busy → afterX pe' ⟨q.n, s.sl, putM q.m s.n (some (.loop .exhausted pe' ns s.sl ps x y))⟩ = some (e, s') → Runs P r ns .no (.rangeFunc g ps x y) s e s' := fun hst ha => by
          have hs' : s' = ⟨q.n, s.sl, putM q.m s.n (some (.loop .exhausted pe' ns s.sl ps x y))⟩ := by
            unfold afterX at ha
            split at ha <;> first | (cases ha; rfl) | cases ha
          refine ⟨AWi.rangeFunc hg (hasRec_spec c2) ?_, by rw [hs']; exact Nat.le_trans (Nat.le_succ _) h1.n, by rw [hs']; exact hrec⟩
          have h2 := h1.call
          rw [mOf_put hlt] at h2
          refine h2.mono ?_
          rintro y2 n2 m2 ⟨rfl, rfl, rfl⟩
          refine ⟨st', pe', mOf_get hg', hst, ?_⟩
          have e1 : (⟨(s.den).slots, setMem (mOf q.m) s.n (some (.loop .exhausted pe' ns (s.den).slots ps x y false))⟩ : St) = s'.den := by
            rw [hs']
            simp only [CS.den, mOf_put hlt]
            rfl
          have e2 : q.n = s'.n := by rw [hs']
          show afterP _ q.n ⟨(s.den).slots, setMem (mOf q.m) s.n (some (.loop .exhausted pe' ns (s.den).slots ps x y false))⟩ pe'
          rw [e1, e2]
          unfold afterX at ha
          split at ha
          · cases ha; exact Is.here
          · cases ha; exact Is.here
          · cases ha; exact Is.here
          · cases ha; exact Is.here
          · cases ha
        cases st' with
        | busy => cases h
        | ready => exact key (by simp) h
        | done => exact key (by simp) h
        | exhausted => exact key (by simp) h
      · cases h
    · cases h
theorem bodyC_sound (hT : TabOk P T) (hZ : ZTabOk T Z) (hQ : QTabOk P Q) (hM : MTabOk P M) (hK : KnownOk P K) (hN : NoGor P) (hm : P.follows .mixedOrders = true) (hR : SoundR P R) {c : Code} {s s' : CS} {e : Exit} (hns : okN ns = true) (h : bodyC P T Z Q M K R r ns c s = some (e, s')) : Runs P r ns .no c s e s' := by
  unfold bodyC at h
  split at h
  · cases h; exact runs_no (AWi.skip Is.here)
  · rename_i id ops draw
    unfold bReg at h
    cases draw with
    | true =>
      simp only [cond_true] at h
      split at h
      · rename_i es sF hd
        cases hc : (stOk ops && okDyn (ancs ops.toList []) es) with
        | false => rw [hc] at h; cases h
        | true =>
          rw [hc] at h
          cases h
          rw [Bool.and_eq_true] at hc
          have hch := drOps_chain _ _ hd
          have hops : ops = ops.toList.toArray := by simp
          have hch' : Chain P T Z Q M K R ns ops.toList.toArray ops.toList es s s' := by rw [← hops]; exact hch
          have hD := draw_of (r := r) hT hZ hQ hM hK hN hR hns hch' (by rw [← hops]; exact hc.1) hc.2
          obtain ⟨m1, m2⟩ := chain_mono hT hZ hQ hM hK hN hR hch
          refine ⟨?_, m1, m2⟩
          have h1 := AWi.drawsI (r := r) (id := id) hm (by rw [← hops]; have := hc.1; unfold stOk at this; rw [Bool.and_eq_true] at this; exact this.1) hD (Q := Is .normal s') (by
            simp only [chain_end hch]
            exact Is.here)
          simp only [chain_zero hch] at h1
          rw [← hops] at h1
          exact h1
      · cases h
    | false =>
      simp only [cond_false] at h
      split at h
      · rename_i sF hd
        cases h
        obtain ⟨i1, i2, i3⟩ := doOps_sound (r := r) hT hZ hQ hM hK hN hR hns _ _ hd
        refine ⟨fun W0 R0 B E a w hi hs => ?_, i1, i2⟩
        have hops : ops = ops.toList.toArray := by simp
        rw [hops]
        refine wpIn_region_lit ?_
        rw [← hops]
        exact i3 hi hs fun E' a' w' h1 => ⟨_, _, E', W0, Ext.refl _, hi, h1, Is.here⟩
      · cases h
  · rename_i x y
    unfold onNormal at h
    split at h
    · rename_i e1 s1 h1
      have k1 := hR r ns .no x s e1 s1 hns h1
      split at h
      · have k2 := hR r ns .no y s1 e s' hns h
        exact ⟨AWi.seq (k1.on k2.walk), Nat.le_trans k1.n k2.n, k1.recs.trans k2.recs⟩
      · rename_i hne
        cases h
        exact ⟨AWi.seq (k1.left fun e => hne e), k1.n, k1.recs⟩
    · cases h
  · rename_i cc x y
    unfold bCond at h
    split at h
    · rename_i t ht
      cases t with
      | true =>
        rw [if_pos rfl] at h
        have k1 := hR r ns .no x s e s' hns h
        exact ⟨AWi.cond ht (fun _ => k1.walk) (fun h => by cases h), k1.n, k1.recs⟩
      | false =>
        rw [if_neg (by simp)] at h
        have k1 := hR r ns .no y s e s' hns h
        exact ⟨AWi.cond ht (fun h => by cases h) (fun _ => k1.walk), k1.n, k1.recs⟩
    · cases h
  · rename_i id x
    unfold bBlock at h
    split at h
    · rename_i e1 s1 h1
      have k1 := hR r ns .no x s e1 s1 hns h1
      have fin : (∀ e2, e2 = e1 → blockP id (Is e s') e2 s1.n s1.den) → s1 = s' → Runs P r ns .no (.block id x) s e s' := fun hb hs => by
        subst hs
        refine ⟨AWi.block (AWi.mono k1.walk fun e2 _ _ ⟨a, b, c⟩ => ?_), k1.n, k1.recs⟩
        subst b; subst c
        exact hb e2 a
      split at h
      · rename_i j
        cases hj : Nat.beq j id with
        | true =>
          rw [hj] at h
          cases h
          rw [Nat.beq_eq] at hj
          exact fin (fun e2 he => by subst he; simp only [blockP, if_pos hj]; exact Is.here) rfl
        | false =>
          rw [hj] at h
          cases h
          have hne : j ≠ id := fun e => by subst e; simp at hj
          exact fin (fun e2 he => by subst he; simp only [blockP, if_neg hne]; exact Is.here) rfl
      · rename_i hne
        cases h
        exact fin (fun e2 he => by subst he; cases e2 <;> first | exact Is.here | exact absurd rfl (hne _)) rfl
    · cases h
  · rename_i x
    have k1 := hR r ns (.lp x) x s e s' hns h
    exact ⟨AWi.loopL k1.walk, k1.n, k1.recs⟩
  · rename_i g ps x y
    unfold bRange at h
    split at h
    · rename_i f us vs hg
      exact rangeX_sound hT hN hR hg h
    · cases h
  · cases h; exact runs_no (AWi.exit Is.here)
  · cases h; exact runs_no (AWi.goto Is.here)
  · cases h; exact runs_no (AWi.label Is.here)
  · cases h; exact runs_no (AWi.ret Is.here)
  · rename_i x
    have k1 := hR r ns (.sc x) x s e s' hns h
    exact ⟨AWi.scope k1.walk, k1.n, k1.recs⟩
  · cases h
theorem bodyR_sound (hT : TabOk P T) (hZ : ZTabOk T Z) (hQ : QTabOk P Q) (hM : MTabOk P M) (hK : KnownOk P K) (hN : NoGor P) (hm : P.follows .mixedOrders = true) (hR : SoundR P R) : SoundR P (bodyR P T Z Q M K R) := by
  intro r ns cx c s e s' hns h
  unfold bodyR at h
  split at h
  · exact bodyC_sound hT hZ hQ hM hK hN hm hR hns h
  · rename_i c0
    split at h
    · rename_i e1 s1 h1
      have k1 := hR r ns .no c s e1 s1 hns h1
      split at h
      · rename_i l
        split at h
        · rename_i rest hf
          have k2 := hR r ns (.sc c0) rest s1 e s' hns h
          refine ⟨AWs.of (AWi.mono k1.walk fun e2 _ _ ⟨a, b, c⟩ => ?_), Nat.le_trans k1.n k2.n, k1.recs.trans k2.recs⟩
          subst a; subst b; subst c
          simp only [scopeP, hf]
          exact k2.walk
        · rename_i hf
          cases h
          refine ⟨AWs.of (AWi.mono k1.walk fun e2 _ _ ⟨a, b, c⟩ => ?_), k1.n, k1.recs⟩
          subst a; subst b; subst c
          simp only [scopeP, hf]
          exact Is.here
      · rename_i hne
        cases h
        refine ⟨AWs.of (AWi.mono k1.walk fun e2 _ _ ⟨a, b, c⟩ => ?_), k1.n, k1.recs⟩
        subst a; subst b; subst c
        cases e2 <;> first | exact Is.here | exact absurd rfl (hne _)
    · cases h
  · rename_i c0
    split at h
    · rename_i e1 s1 h1
      have k1 := hR r ns .no c s e1 s1 hns h1
      split at h
      · have k2 := hR r ns (.lp c0) c0 s1 e s' hns h
        exact ⟨AWl.of (k1.on k2.walk), Nat.le_trans k1.n k2.n, k1.recs.trans k2.recs⟩
      · rename_i hne
        cases h
        exact ⟨AWl.of (k1.left fun e => hne e), k1.n, k1.recs⟩
    · cases h
theorem runR_sound (hT : TabOk P T) (hZ : ZTabOk T Z) (hQ : QTabOk P Q) (hM : MTabOk P M) (hK : KnownOk P K) (hN : NoGor P) (hm : P.follows .mixedOrders = true) : ∀ n, SoundR P (runR P T Z Q M K n)
  | 0 => fun _ _ _ _ _ _ _ _ h => by rw [runR_zero] at h; cases h
  | n + 1 => by rw [runR_succ]; exact bodyR_sound hT hZ hQ hM hK hN hm (runR_sound hT hZ hQ hM hK hN hm n)
theorem closed_call (hT : TabOk P T) (hZ : ZTabOk T Z) (hQ : QTabOk P Q) (hM : MTabOk P M) (hK : KnownOk P K) (hN : NoGor P) (hm : P.follows .mixedOrders = true) {f : FuncId} {n : Nat} {b : Bool} (h : (callFn P T (runR P T Z Q M K n) f [] 0 .lf).map (·.y) = some (.d (.val (.bool b)))) : ACall P f [] (.val (.bool b)) := by
  rw [Option.map_eq_some_iff] at h
  obtain ⟨q, hq, hy⟩ := h
  have h1 := (callFn_sound hT hN (runR_sound hT hZ hQ hM hK hN hm n) hq).call
  refine ⟨h1.callable, fun ro w vs hro hsz hrep => ?_⟩
  let W1 : Fix := fixOf w
  let E : Env := ⟨ro, fun _ => False, fun _ => ⟨0, 0, 0⟩⟩
  have M0 : MS W1 ro (· < 0) (mOf .lf) E w := ⟨Kept.refl _ _, fun _ h => h, fun _ h => .inl h, hro, fun _ h => h.elim, (fun i b hi => by cases hi), (fun i b hi => by cases hi), (fun i b hi => by cases hi), (fun i b hi => by cases hi), fun i j b c hi => by cases hi⟩
  refine (h1.calls W1 ro E w vs M0 (by simpa using hsz) (by simp)).mono ?_
  rintro e w' ⟨v, E', n', m', y, rfl, M2, hE, hk, hv, rfl, rfl, rfl⟩
  refine ⟨v, rfl, M2.below.below, ?_⟩
  rw [hy] at hv
  cases hv with
  | d _ _ hv => cases hv with | val _ h => exact .val _ h
end Go.Proofs.Ytdkneonokbakjaa.Eng

noncomputable section
namespace Go.Proofs.Ytdkneonokbakjaa.Eng
open Go.RowKit
variable {P : Program} {T : Tab} {Z : ZTab} {Q : QTab} {M : MTab} {K : Known}
def chk (P : Program) (T : Tab) (Z : ZTab) (Q : QTab) (M : MTab) (K : Known) (fuel : Nat) (e : Ent) : Bool := match callFn P T (runR P T Z Q M K fuel) e.f e.args e.n e.m with
  | some q => same3 q.y e.q.y && Nat.beq q.n e.q.n && subTr e.q.m q.m && noLoop e.m
  | none => false
theorem chk_ok (hT : TabOk P T) (hZ : ZTabOk T Z) (hQ : QTabOk P Q) (hM : MTabOk P M) (hK : KnownOk P K) (hN : NoGor P) (hm : P.follows .mixedOrders = true) {fuel : Nat} {e : Ent} (h : chk P T Z Q M K fuel e = true) : Calls2 P e.f e.args e.n e.m e.q := by
  unfold chk at h
  split at h
  · rename_i q hq
    simp only [Bool.and_eq_true, Nat.beq_eq] at h
    obtain ⟨⟨⟨h1, h2⟩, h3⟩, h4⟩ := h
    have H := callFn_sound hT hN (runR_sound hT hZ hQ hM hK hN hm fuel) hq
    refine H.less (same3_eq h1).symm h2.symm (fun i b hb => ?_) fun id st pe k sl ps x y hh => absurd hh (noLoop_get h4 id st pe k sl ps x y)
    simp only [mOf, Option.map_eq_some_iff] at hb ⊢
    obtain ⟨c, hc, rfl⟩ := hb
    exact ⟨c, subTr_get h3 i c hc, rfl⟩
  · cases h
def SumsOk (P : Program) (S : Sums) : Prop := ∀ f g, S f = some g → ∀ args n m q, g args n m = some q → Calls2 P f args n m q
theorem known_sums {S : Sums} (h : SumsOk P S) : KnownOk P ⟨[], [], S⟩ := ⟨by simp, by simp, h⟩
theorem known_ent {e : Ent} (h : Calls2 P e.f e.args e.n e.m e.q) (hK : KnownOk P K) : KnownOk P ⟨e :: K.ents, K.closed, K.sums⟩ := ⟨fun x hx => by
  rcases List.mem_cons.1 hx with rfl | hx
  · exact h
  · exact hK.ents x hx, hK.closed, hK.sums⟩
theorem noGor_of (h : P.funcs.toList.all (fun fn => !(fn.name == "runtime.NumGoroutine")) = true) : NoGor P := fun f fn hf => by
  have hm : fn ∈ P.funcs.toList := by rw [Array.mem_toList_iff]; exact Array.mem_of_getElem? hf
  simpa using List.all_eq_true.1 h fn hm
end Go.Proofs.Ytdkneonokbakjaa.Eng

noncomputable section
namespace Go.Proofs.Ytdkneonokbakjaa.Eng
open Go.RowKit
set_option maxRecDepth 100000
def ZT : ZTab := fun _ => none
def QT : QTab := fun t => if t = 81 then some ⟨[.int .i64, .int .i64], 24⟩ else none
def MT : MTab := fun t => if t = 115 then some ⟨3, 2, .d (.val (.int .i64 0)), false, [.i64]⟩ else none
theorem noGor : NoGor Try.prog := noGor_of (by decide +kernel)
theorem mixed : Try.prog.follows .mixedOrders = true := by decide +kernel
theorem ztOk : ZTabOk TB ZT := fun t p h => by cases h
theorem qtOk : QTabOk Try.prog QT := fun t b h => by
  unfold QT at h
  split at h
  · rename_i e
    subst e
    cases h
    refine ⟨?_, by decide +kernel, by decide +kernel, fun xs hx => ?_⟩
    · have he : KL Try.prog 6 23 [.int .i64, .int .i64] 2 := kl_struct2 (d := 5) Try.underlying23 (by decide +kernel) (kl_int Try.underlying2 4) (kl_int Try.underlying2 4) (by decide) (by decide) rfl rfl (by decide +kernel) (by decide +kernel)
      exact kl_array (n := 12) (d := 6) (per := [.int .i64, .int .i64]) Try.underlying81 (by decide +kernel) (by decide +kernel) he
    · have e1 : Try.prog.cellsOf 81 = 24 := by decide +kernel
      simp [Value.formed, Try.underlying81, e1, hx]
  · cases h
theorem mtOk : MTabOk Try.prog MT := fun t i h => by
  unfold MT at h
  split at h
  · rename_i e
    subst e
    cases h
    refine mapOk_int (q := .i64) Try.underlying115 Try.underlying3 rfl rfl ⟨.int .i64 0, fun w => ?_, fun E w => rep_val rfl⟩
    have h := info2
    rw [Option.map_eq_some_iff] at h
    obtain ⟨inf, h1, h2⟩ := h
    simp only [Prod.mk.injEq] at h2
    simp [zeroValue, typeInfo, h1, h2.1]
  · cases h
end Go.Proofs.Ytdkneonokbakjaa.Eng

namespace Go.Proofs.Ytdkneonokbakjaa.Eng
open Go.RowKit
def mi : MapI := ⟨3, 2, .d (.val (.int .i64 0)), false, [.i64]⟩
set_option maxRecDepth 100000 in
set_option maxHeartbeats 4000000 in
theorem least_w {m : Mem} {wid : Nat} {cells : List SV} {f : Bool} {p : Nat} {lo : Int} (hm : m wid = some (.box 83 cells f)) (hc : cells[6 + p * 2]? = some (.d (iD lo))) (hp : p < 12) (n : Nat) :
    CWp Try.prog 68 [.ptr wid 0 0, .d (iD p)] n m fun y n' m' => n ≤ n' ∧ n' ≤ n + 20 ∧ y = .d (iD lo) ∧ m' = m := by
  have hl : 6 + p * 2 < cells.length := (List.getElem?_eq_some_iff.1 hc).1
  have g1 : List.take 1 (List.drop (6 + p * 2) cells) = [.d (iD lo)] := by
    rw [List.drop_eq_getElem_cons hl, List.take_succ_cons, List.take_zero]
    rw [List.getElem?_eq_getElem hl] at hc
    rw [Option.some.inj hc]
  have g2 : 6 + p * 2 + 1 ≤ cells.length := by omega
  have g3 : (p : Int) < 12 := by omega
  refine cwpK tabOk Try.func68 rfl rfl (show 2 ≤ _ by decide) rfl fun _ => ?_; simp only [Try.ntmps68]
  repeat (first | (with_reducible first | refine AWi.seqK fun _ => ?_ | refine AWi.blockK fun _ => ?_ | refine KI.go ?_) | ((first | refine AWi.region tabOk ?_ | refine AWi.condK fun _ _ => ?_ | refine AWi.draws tabOk rfl (by kernel_rfl) (by kernel_rfl) ?_); simp [-getElem?_pos, z0, z1, z2, hm, g1, g2, g3]) | ((first | refine AWi.ret ?_ | refine AWi.skip ?_ | refine AWi.exit ?_); try simp only [thenP]) | (with_reducible refine BB.go ?_; simp only [blockP, thenP, reduceIte]) | (with_reducible refine And.intro (okLog_c (by simp [footOf, guardSlot, slotsOf, idsRead, looks, idsOf, idsOf1, idsWritten, colF]; kernel_rfl)) ?_))
  exact RI.ret rfl ⟨by omega, by omega, rfl, rfl⟩
def keepE (cells : List SV) (len : Int) (q : List Int × SV × Nat) : Bool := match q.1 with
  | [p] => match cells[6 + p.toNat * 2]? with
    | some (.d (.val (.int _ lo))) => decide (lo ≤ len)
    | _ => true
  | _ => true
def curE (cells : List SV) (len : Int) (es : List (List Int × SV × Nat)) (seen : List Nat) : List (List Int × SV × Nat) := es.filter fun q => !(seen.contains q.2.2) || keepE cells len q
def passL (cells : List SV) (len : Int) (es : List (List Int × SV × Nat)) : List (List Int × SV × Nat) := es.filter (keepE cells len)
theorem curE_all {cells : List SV} {len : Int} {es : List (List Int × SV × Nat)} {seen : List Nat} (h : ∀ q ∈ curE cells len es seen, q.2.2 ∈ seen) : curE cells len es seen = passL cells len es := by
  unfold curE passL
  refine List.filter_congr fun q hq => ?_
  by_cases hs : q.2.2 ∈ seen
  · simp [hs]
  · have : q ∈ curE cells len es seen := List.mem_filter.2 ⟨hq, by simp [hs]⟩
    exact absurd (h q this) hs
theorem born_eq {es : List (List Int × SV × Nat)} : (es.map (·.2.2)).Nodup → ∀ {p q : List Int × SV × Nat}, p ∈ es → q ∈ es → p.2.2 = q.2.2 → p = q := by
  induction es with
  | nil => intro _ p q hp; simp at hp
  | cons x es ih =>
    intro hn p q hp hq h
    rw [List.map_cons, List.nodup_cons] at hn
    rcases List.mem_cons.1 hp with e1 | hp'
    · rcases List.mem_cons.1 hq with e2 | hq'
      · rw [e1, e2]
      · subst e1; exact (hn.1 (List.mem_map.2 ⟨q, hq', h.symm⟩)).elim
    · rcases List.mem_cons.1 hq with e2 | hq'
      · subst e2; exact (hn.1 (List.mem_map.2 ⟨p, hp', h⟩)).elim
      · exact ih hn.2 hp' hq' h
theorem key_eq {es : List (List Int × SV × Nat)} : (es.map (·.1)).Nodup → ∀ {p q : List Int × SV × Nat}, p ∈ es → q ∈ es → p.1 = q.1 → p = q := by
  induction es with
  | nil => intro _ p q hp; simp at hp
  | cons x es ih =>
    intro hn p q hp hq h
    rw [List.map_cons, List.nodup_cons] at hn
    rcases List.mem_cons.1 hp with e1 | hp'
    · rcases List.mem_cons.1 hq with e2 | hq'
      · rw [e1, e2]
      · subst e1; exact (hn.1 (List.mem_map.2 ⟨q, hq', h.symm⟩)).elim
    · rcases List.mem_cons.1 hq with e2 | hq'
      · subst e2; exact (hn.1 (List.mem_map.2 ⟨p, hp', h⟩)).elim
      · exact ih hn.2 hp' hq' h
theorem curE_keep {cells : List SV} {len : Int} {es : List (List Int × SV × Nat)} {seen : List Nat} {q : List Int × SV × Nat} (hn2 : (es.map (·.2.2)).Nodup) (hq : q ∈ es) (h : keepE cells len q = true) : curE cells len es (q.2.2 :: seen) = curE cells len es seen := by
  unfold curE
  refine List.filter_congr fun p hp => ?_
  by_cases e : p.2.2 = q.2.2
  · rw [born_eq hn2 hp hq e, h]; simp
  · simp [e]
theorem curE_drop {cells : List SV} {len : Int} {es : List (List Int × SV × Nat)} {seen : List Nat} {q : List Int × SV × Nat} (hn1 : (es.map (·.1)).Nodup) (hn2 : (es.map (·.2.2)).Nodup) (hq : q ∈ es) (h : keepE cells len q = false) : (curE cells len es seen).filter (fun p => p.1 ≠ q.1) = curE cells len es (q.2.2 :: seen) := by
  unfold curE
  rw [List.filter_filter]
  refine List.filter_congr fun p hp => ?_
  by_cases e : p = q
  · subst e; simp [h]
  · have e1 : p.1 ≠ q.1 := fun x => e (key_eq hn1 hp hq x)
    have e2 : p.2.2 ≠ q.2.2 := fun x => e (born_eq hn2 hp hq x)
    simp [e1, e2]
theorem nodup_filter_map {α β : Type} {f : α → β} {p : α → Bool} {l : List α} (h : (l.map f).Nodup) : ((l.filter p).map f).Nodup := h.sublist (List.Sublist.map f List.filter_sublist)
theorem seen_le {es : List (List Int × SV × Nat)} {seen : List Nat} (hs : seen.Nodup) (h : ∀ b ∈ seen, b ∈ es.map (·.2.2)) : seen.length ≤ es.length := by
  have := List.Nodup.length_le_of_subset hs (fun b hb => h b hb)
  simpa using this
set_option maxRecDepth 100000 in
set_option maxHeartbeats 8000000 in
theorem pass_w {m : Mem} {wid id clock : Nat} {cells : List SV} {f : Bool} {es : List (List Int × SV × Nat)} (hm : m wid = some (.box 83 cells f)) (hid : m id = some (mapB mi es clock)) (hne : wid ≠ id) {n : Nat} (hw : wid < n) (hi : id < n)
    (hk : ∀ q ∈ es, ∃ (p : Nat) (lo : Int), p < 12 ∧ q.1 = [(p : Int)] ∧ cells[6 + p * 2]? = some (.d (iD lo))) (hn1 : (es.map (·.1)).Nodup) (hn2 : (es.map (·.2.2)).Nodup) (hb : ∀ q ∈ es, q.2.2 < clock) (len : Int) :
    CWp Try.prog 79 [.ptr wid 0 0, .mp id, .d (iD len)] n m fun y n' m' => n ≤ n' ∧ n' ≤ n + 20 + 60 * es.length ∧ y = .tup [] ∧ ∀ j, j < n → m' j = if j = id then some (mapB mi (passL cells len es) clock) else m j := by
  refine cwpK tabOk Try.func79 rfl rfl (show 3 ≤ _ by decide) rfl fun _ => ?_; simp only [Try.ntmps79]
  repeat (first | (with_reducible first | refine AWi.seqK fun _ => ?_ | refine AWi.blockK fun _ => ?_ | refine KI.go ?_) | ((first | refine AWi.region tabOk ?_ | refine AWi.condK fun _ _ => ?_ | refine AWi.draws tabOk rfl (by kernel_rfl) (by kernel_rfl) ?_); simp [-getElem?_pos, z0, z1, z2, hid]) | ((first | refine AWi.ret ?_ | refine AWi.skip ?_ | refine AWi.exit ?_); try simp only [thenP]) | (with_reducible refine BB.go ?_; simp only [blockP, thenP, reduceIte]) | (with_reducible refine And.intro (okLog_c (by simp [footOf, guardSlot, slotsOf, idsRead, looks, idsOf, idsOf1, idsWritten, colF]; kernel_rfl)) ?_))
  refine ExecI.range (mid := id) (clock := clock) (es := es.map fun q => (keyVal mi.agg mi.kk q.1, q.2)) (f := false) (by simp) rfl Try.underlying115 (by simp) (by simpa using hid) ?_
  simp
  repeat (first | (with_reducible first | refine AWi.seqK fun _ => ?_ | refine AWi.blockK fun _ => ?_ | refine KI.go ?_) | ((first | refine AWi.region tabOk ?_ | refine AWi.condK fun _ _ => ?_ | refine AWi.draws tabOk rfl (by kernel_rfl) (by kernel_rfl) ?_); simp [-getElem?_pos, z0, z1, z2, hid]) | ((first | refine AWi.ret ?_ | refine AWi.skip ?_ | refine AWi.exit ?_); try simp only [thenP]) | (with_reducible refine BB.go ?_; simp only [blockP, thenP, reduceIte]) | (with_reducible refine And.intro (okLog_c (by simp [footOf, guardSlot, slotsOf, idsRead, looks, idsOf, idsOf1, idsWritten, colF]; kernel_rfl)) ?_))
  refine AWi.loopK (fun seen nn s => n + 2 ≤ nn ∧ nn ≤ n + 2 + 60 * seen.length ∧ seen.Nodup ∧ (∀ b ∈ seen, b ∈ es.map (·.2.2)) ∧ s.slots 0 = .ptr wid 0 0 ∧ s.slots 1 = .mp id ∧ s.slots 2 = .d (iD len) ∧ s.slots 8 = .ptr (n + 1) 0 0 ∧ (∀ j, j < n → s.mem j = if j = id then some (mapB mi (curE cells len es seen) clock) else m j) ∧ s.mem (n + 1) = some (.iter id clock clock seen false)) (fun seen => es.length - seen.length) ([] : List Nat) ?_ ?_
  · refine ⟨by omega, by simp, List.nodup_nil, by simp, by simp, by simp, by simp, by simp, fun j hj => ?_, by simp⟩
    have e0 : curE cells len es [] = es := by unfold curE; exact List.filter_eq_self.2 fun q _ => by simp
    simp only [e0]
    by_cases h : j = id
    · subst h; simp [show ¬ j = n + 1 by omega, hid]
    · simp [h, show ¬ j = n + 1 by omega]
  rintro seen nn s ⟨h1, h2, h3, h4, s0, s1, s2, s8, hmem, hit⟩ kk
  have hmid : s.mem id = some (mapB mi (curE cells len es seen) clock) := by rw [hmem id hi, if_pos rfl]
  have hsub : ∀ q ∈ curE cells len es seen, q ∈ es := fun q hq => (List.mem_filter.1 hq).1
  repeat (first | (with_reducible first | refine AWi.seqK fun _ => ?_ | refine AWi.blockK fun _ => ?_ | refine KI.go ?_) | ((first | refine AWi.region tabOk ?_ | refine AWi.condK fun _ _ => ?_ | refine AWi.draws tabOk rfl (by kernel_rfl) (by kernel_rfl) ?_); simp [-getElem?_pos, z0, z1, z2, s0, s1, s2, s8]) | ((first | refine AWi.ret ?_ | refine AWi.skip ?_ | refine AWi.exit ?_); try simp only [thenP]) | (with_reducible refine BB.go ?_; simp only [blockP, thenP, reduceIte]) | (with_reducible refine And.intro (okLog_c (by simp [footOf, guardSlot, slotsOf, idsRead, looks, idsOf, idsOf1, idsWritten, colF]; kernel_rfl)) ?_))
  refine ExecI.next (id := n + 1) (mid := id) (since := clock) (last := clock) (clock := clock) (seen := seen) (es := (curE cells len es seen).map fun q => (keyVal mi.agg mi.kk q.1, q.2)) (by simp) rfl (by simp [s8]) hit hmid (fun q hq => ?_) (Nat.le_refl _) (fun q hq => ?_) (fun hall => ?_) fun q hq hqs => ?_
  · obtain ⟨p, hp, rfl⟩ := List.mem_map.1 hq
    exact hb p (hsub p hp)
  · obtain ⟨p, hp, rfl⟩ := List.mem_map.1 hq
    obtain ⟨k, lo, _, hk2, _⟩ := hk p (hsub p hp)
    simp [hk2, mi, keyVal, keyOk, Value.oneCell']
  · simp
    repeat (first | (with_reducible first | refine AWi.seqK fun _ => ?_ | refine AWi.blockK fun _ => ?_ | refine KI.go ?_) | ((first | refine AWi.region tabOk ?_ | refine AWi.condK fun _ _ => ?_ | refine AWi.draws tabOk rfl (by kernel_rfl) (by kernel_rfl) ?_); simp [-getElem?_pos, z0, z1, z2, s0, s1, s2, s8]) | ((first | refine AWi.ret ?_ | refine AWi.skip ?_ | refine AWi.exit ?_); try simp only [thenP]) | (with_reducible refine BB.go ?_; simp only [blockP, thenP, reduceIte]) | (with_reducible refine And.intro (okLog_c (by simp [footOf, guardSlot, slotsOf, idsRead, looks, idsOf, idsOf1, idsWritten, colF]; kernel_rfl)) ?_))
    refine RI.normal rfl ⟨by omega, ?_, rfl, fun j hj => ?_⟩
    · have := seen_le h3 h4
      omega
    · have := curE_all (cells := cells) (len := len) (es := es) (seen := seen) fun p hp => hall (keyVal mi.agg mi.kk p.1, p.2) (List.mem_map.2 ⟨p, hp, rfl⟩)
      rw [← this]
      exact hmem j hj
  · obtain ⟨p, hp, rfl⟩ := List.mem_map.1 hq
    have hpe := hsub p hp
    obtain ⟨k, lo, hk1, hk2, hk3⟩ := hk p hpe
    have hkeyS : keyS (keyVal mi.agg mi.kk p.1) = .d (iD (k : Int)) := by simp [hk2, mi, keyVal, keyS]
    have hkeyO : keyOk (keyVal mi.agg mi.kk p.1) = true := by simp [hk2, mi, keyVal, keyOk, Value.oneCell']
    have hnd : (p.2.2 :: seen).Nodup := List.nodup_cons.2 ⟨hqs, h3⟩
    have hin : ∀ b ∈ p.2.2 :: seen, b ∈ es.map (·.2.2) := fun b hb => by
      rcases List.mem_cons.1 hb with rfl | hb
      · exact List.mem_map.2 ⟨p, hpe, rfl⟩
      · exact h4 b hb
    have hlen := seen_le hnd hin
    simp only [List.length_cons] at hlen
    have hni : ¬ id = n + 1 := by omega
    simp only [hkeyS]
    simp
    repeat (first | (with_reducible first | refine AWi.seqK fun _ => ?_ | refine AWi.blockK fun _ => ?_ | refine KI.go ?_) | ((first | refine AWi.region tabOk ?_ | refine AWi.condK fun _ _ => ?_ | refine AWi.draws tabOk rfl (by kernel_rfl) (by kernel_rfl) ?_); simp [-getElem?_pos, z0, z1, z2, s0, s1, s2, s8]) | ((first | refine AWi.ret ?_ | refine AWi.skip ?_ | refine AWi.exit ?_); try simp only [thenP]) | (with_reducible refine BB.go ?_; simp only [blockP, thenP, reduceIte]) | (with_reducible refine And.intro (okLog_c (by simp [footOf, guardSlot, slotsOf, idsRead, looks, idsOf, idsOf1, idsWritten, colF]; kernel_rfl)) ?_))
    have hnd2 : ((List.map (fun q => (keyVal mi.agg mi.kk q.1, q.2)) (curE cells len es seen)).map (·.2.2)).Nodup := by
      rw [List.map_map]
      exact nodup_filter_map (f := fun q : List Int × SV × Nat => q.2.2) hn2
    refine ExecI.entry (id := n + 1) (mid := id) (since := clock) (last := clock) (clock := clock) (seen := seen) (es := (curE cells len es seen).map fun q => (keyVal mi.agg mi.kk q.1, q.2)) (f := false) (g := false) (keyVal mi.agg mi.kk p.1, p.2) (by simp) rfl (by simp [s8]) (by simp) (by simp [hni, hmid]) rfl hq hnd2 hkeyO ?_
    simp only [hkeyS]
    simp
    repeat (first | (with_reducible first | refine AWi.seqK fun _ => ?_ | refine AWi.blockK fun _ => ?_ | refine KI.go ?_) | ((first | refine AWi.region tabOk ?_ | refine AWi.condK fun _ _ => ?_ | refine AWi.draws tabOk rfl (by kernel_rfl) (by kernel_rfl) ?_); simp [-getElem?_pos, z0, z1, z2, s0, s1, s2, s8]) | ((first | refine AWi.ret ?_ | refine AWi.skip ?_ | refine AWi.exit ?_); try simp only [thenP]) | (with_reducible refine BB.go ?_; simp only [blockP, thenP, reduceIte]) | (with_reducible refine And.intro (okLog_c (by simp [footOf, guardSlot, slotsOf, idsRead, looks, idsOf, idsOf1, idsWritten, colF]; kernel_rfl)) ?_))
    have hwm : setMem s.mem (n + 1) (some (.iter id clock clock (p.2.2 :: seen) false)) wid = some (.box 83 cells f) := by
      simp [show ¬ wid = n + 1 by omega, hmem wid hw, hne, hm]
    refine ExecI.callC (least_w hwm hk3 hk1 _) rfl (by simp [calleeS, evList]) ?_
    rintro y n' m' ⟨q1, q2, rfl, rfl⟩
    by_cases g : len < lo
    · have hkf : keepE cells len p = false := by simp [keepE, hk2, hk3]; omega
      obtain ⟨jj, j1, j2⟩ := erase_key (q := p) hp (nodup_filter_map hn1)
      rw [curE_drop hn1 hn2 hpe hkf] at j2
      simp [-getElem?_pos, z0, z1, z2, s0, s1, s2, s8, g]
      repeat (first | (with_reducible first | refine AWi.seqK fun _ => ?_ | refine AWi.blockK fun _ => ?_ | refine KI.go ?_) | ((first | refine AWi.region tabOk ?_ | refine AWi.condK fun _ _ => ?_ | refine AWi.draws tabOk rfl (by kernel_rfl) (by kernel_rfl) ?_); simp [-getElem?_pos, z0, z1, z2, s0, s1, s2, s8, g]) | ((first | refine AWi.ret ?_ | refine AWi.skip ?_ | refine AWi.exit ?_); try simp only [thenP]) | (with_reducible refine BB.go ?_; simp only [blockP, thenP, reduceIte]) | (with_reducible refine And.intro (okLog_c (by simp [footOf, guardSlot, slotsOf, idsRead, looks, idsOf, idsOf1, idsWritten, colF]; kernel_rfl)) ?_))
      refine ExecI.delete mtOk (i := mi) (id := id) (clock := clock) (es := curE cells len es seen) (kv := .d (iD (k : Int))) (l := [(k : Int)]) (j := jj) (by simp) rfl rfl (by simp [s1]) (by simp [hni, hmid]) (by simp) (by simp [keyOf, intsOf, mi]) ?_ (by rw [← hk2]; exact j1) ?_
      · refine List.all_eq_true.2 fun x hx => ?_
        obtain ⟨k', _, _, hx2, _⟩ := hk x (hsub x hx)
        simp [hx2, mi]
      rw [j2]
      simp
      repeat (first | (with_reducible first | refine AWi.seqK fun _ => ?_ | refine AWi.blockK fun _ => ?_ | refine KI.go ?_) | ((first | refine AWi.region tabOk ?_ | refine AWi.condK fun _ _ => ?_ | refine AWi.draws tabOk rfl (by kernel_rfl) (by kernel_rfl) ?_); simp [-getElem?_pos, z0, z1, z2, s0, s1, s2, s8]) | ((first | refine AWi.ret ?_ | refine AWi.skip ?_ | refine AWi.exit ?_); try simp only [thenP]) | (with_reducible refine BB.go ?_; simp only [blockP, thenP, reduceIte]) | (with_reducible refine And.intro (okLog_c (by simp [footOf, guardSlot, slotsOf, idsRead, looks, idsOf, idsOf1, idsWritten, colF]; kernel_rfl)) ?_))
      refine LI.go (p.2.2 :: seen) ⟨by omega, by simp; omega, hnd, hin, by simp [s0], by simp [s1], by simp [s2], by simp [s8], fun j hj => ?_, by simp [Ne.symm hni]⟩ (by simp; omega)
      by_cases h : j = id
      · subst h; simp
      · simp [h, show ¬ j = n + 1 by omega, hmem j hj]
    · have hkt : keepE cells len p = true := by simp [keepE, hk2, hk3]; omega
      have e0 := curE_keep (cells := cells) (len := len) (seen := seen) hn2 hpe hkt
      simp [-getElem?_pos, z0, z1, z2, s0, s1, s2, s8, g]
      repeat (first | (with_reducible first | refine AWi.seqK fun _ => ?_ | refine AWi.blockK fun _ => ?_ | refine KI.go ?_) | ((first | refine AWi.region tabOk ?_ | refine AWi.condK fun _ _ => ?_ | refine AWi.draws tabOk rfl (by kernel_rfl) (by kernel_rfl) ?_); simp [-getElem?_pos, z0, z1, z2, s0, s1, s2, s8, g]) | ((first | refine AWi.ret ?_ | refine AWi.skip ?_ | refine AWi.exit ?_); try simp only [thenP]) | (with_reducible refine BB.go ?_; simp only [blockP, thenP, reduceIte]) | (with_reducible refine And.intro (okLog_c (by simp [footOf, guardSlot, slotsOf, idsRead, looks, idsOf, idsOf1, idsWritten, colF]; kernel_rfl)) ?_))
      refine LI.go (p.2.2 :: seen) ⟨by omega, by simp; omega, hnd, hin, by simp [s0], by simp [s1], by simp [s2], by simp [s8], fun j hj => ?_, by simp⟩ (by simp; omega)
      simp [show ¬ j = n + 1 by omega, hmem j hj, e0]
end Go.Proofs.Ytdkneonokbakjaa.Eng

noncomputable section
namespace Go.Proofs.Ytdkneonokbakjaa.Eng
open Go.RowKit
variable {P : Program} {T : Tab} {Z : ZTab} {Q : QTab} {M : MTab} {K : Known} {R : Runner} {r : Option Nat} {ns : Nat}
inductive Of (S : Nat → Prop) : SV → Prop where
  | und : Of S .und
  | d (x : Dat) : Of S (.d x)
  | nilS : Of S .nilS
  | ptr (id i j : Nat) : S id → Of S (.ptr id i j)
  | mp (id : Nat) : S id → Of S (.mp id)
  | sl (id off k : Nat) (c : Option Nat) : S id → Of S (.sl id off k c)
  | yield (id : Nat) : S id → Of S (.yield id)
  | agg (cs : List SV) : (∀ c ∈ cs, Of S c) → Of S (.agg cs)
  | tup (cs : List SV) : (∀ c ∈ cs, Of S c) → Of S (.tup cs)
  | fn (f : FuncId) (us vs : List SV) : (∀ c ∈ us, Of S c) → (∀ c ∈ vs, Of S c) → Of S (.fn f us vs)
theorem Rep.of {S : Nat → Prop} {E E0 : Env} {w : World} {x : SV} {v : Value} (hr : E0.ro = E.ro) (hd : ∀ i, E.dom i → S i → E0.dom i) (hh : ∀ i, E.dom i → S i → E0.home i = E.home i) (h : Rep E w x v) : Of S x → Rep E0 w x v := by
  induction h with
  | und v => exact fun _ => .und v
  | d x v h => exact fun _ => .d x v (h.keep (fun b hb => by rw [hr]; exact hb) fun _ _ => rfl)
  | agg cs vs hs h1 _ ih => intro hf; cases hf with | agg _ k => exact .agg cs vs hs h1 fun i c v hc hv => ih i c v hc hv (k c (List.mem_of_getElem? hc))
  | nilS => exact fun _ => .nilS
  | lin id n _ hz hc => intro hf; cases hf
  | own id n z _ hz => intro hf; cases hf
  | rptr cs b off f hb h1 hc hr' => intro hf; cases hf
  | ptr id i j k => intro hf; cases hf with | ptr _ _ _ q => rw [← hh id k q]; exact .ptr id i j (hd _ k q)
  | fn f xs ys us vs h1 h2 _ _ ih1 ih2 =>
    intro hf
    cases hf with
    | fn _ _ _ q1 q2 => exact .fn f xs ys us vs h1 h2 (fun i c v hc hv => ih1 i c v hc hv (q1 c (List.mem_of_getElem? hc))) fun i c v hc hv => ih2 i c v hc hv (q2 c (List.mem_of_getElem? hc))
  | tup cs vs hs _ ih => intro hf; cases hf with | tup _ k => exact .tup cs vs hs fun i c v hc hv => ih i c v hc hv (k c (List.mem_of_getElem? hc))
  | yield id k => intro hf; cases hf with | yield _ q => rw [← hh id k q]; exact .yield id (hd _ k q)
  | sl id off n c o k h1 hk ho hn => intro hf; cases hf with | sl _ _ _ _ q => rw [← hh id h1 q] at hk ⊢; exact .sl id off n c o k (hd _ h1 q) hk ho hn
  | mp id k => intro hf; cases hf with | mp _ q => rw [← hh id k q]; exact .mp id (hd _ k q)
  | full rows A h => intro hf; cases hf
inductive OfB (S : Nat → Prop) : Blk → Prop where
  | box (ty : TypeId) (cs : List SV) (f : Bool) : (∀ c ∈ cs, Of S c) → OfB S (.box ty cs f)
  | part (z : Nat) (ty : TypeId) (cs : List SV) (f : Bool) : (∀ c ∈ cs, Of S c) → OfB S (.part z ty cs f)
  | map (es : List (Value × SV × Nat)) (clock : Nat) (f : Bool) : (∀ q ∈ es, Of S q.2.1) → OfB S (.map es clock f)
theorem Holds.of {S : Nat → Prop} {E E0 : Env} {w : World} {h : Home} {b : Blk} (hr : E0.ro = E.ro) (hd : ∀ i, E.dom i → S i → E0.dom i) (hh : ∀ i, E.dom i → S i → E0.home i = E.home i) (k : Holds E w h b) (hb : OfB S b) : Holds E0 w h b := by
  cases hb with
  | box ty cs f q =>
    cases k with
    | box _ _ _ cur h1 h2 h3 h4 => exact .box ty cs f cur h1 h2 h3 fun j c v hc hv => (h4 j c v hc hv).of hr hd hh (q c (List.mem_of_getElem? hc))
  | part z ty cs f q =>
    cases k with
    | part _ _ _ _ cur h0 h1 h2 h3 h4 => exact .part z ty cs f cur h0 h1 h2 h3 fun j c v hc hv => (h4 j c v hc hv).of hr hd hh (q c (List.mem_of_getElem? hc))
  | map es clock f q =>
    cases k with
    | map _ _ _ ents h1 h2 h3 =>
      refine .map es clock f ents h1 h2 fun i x e hx he => ?_
      obtain ⟨a, b, c⟩ := h3 i x e hx he
      exact ⟨a, b, c.of hr hd hh (q x (List.mem_of_getElem? hx))⟩
def New (n n' i : Nat) : Prop := n ≤ i ∧ i < n'
open Classical in
def behind (m m0 mq : Mem) (n n' : Nat) : Mem := fun i => if (m0 i).isSome = true ∨ New n n' i then mq i else m i
structure NCall (P : Program) (f : FuncId) (svs : List SV) (m0 : Mem) (n n' : Nat) (y : SV) (mq : Mem) : Prop where
  callable : Callable P f
  calls : ∀ (W0 : Fix) (R0 D : Nat → Prop) (m : Mem) (E : Env) (w : World) (vs : Array Value), (∀ i, D i → ¬ New n n' i) → (∀ i b, m0 i = some b → m i = some b) → MS W0 R0 D m E w → vs.size = svs.length → (∀ (i : Nat) x v, svs[i]? = some x → vs[i]? = some v → Rep E w x v) →
    Calls P f vs w fun e w' => ∃ v E', e = .returned v ∧ MS W0 R0 (fun i => D i ∨ New n n' i) (behind m m0 mq n n') E' w' ∧ E.le E' ∧ (∀ b, E.ro b → w'.heap[b]? = w.heap[b]?) ∧ Rep E' w' y v
end Go.Proofs.Ytdkneonokbakjaa.Eng

noncomputable section
namespace Go.Proofs.Ytdkneonokbakjaa.Eng
open Go.RowKit
variable {P : Program} {T : Tab} {r : Option Nat} {ns : Nat}
inductive Kd3 where
  | off
  | pure (x : SV) (ids : List Nat)
  | act (y : SV) (R : List Nat)
def Kd3.res : Kd3 → SV
  | .off => .tup []
  | .pure x _ => x
  | .act y _ => y
def tch (N : Nat → Nat) (kd : Nat → Kd3) (k i : Nat) : Prop := ∃ y R, kd k = .act y R ∧ (i ∈ R ∨ New (N k) (N (k + 1)) i)
def StepD (P : Program) (r : Option Nat) (ns : Nat) (D D' : Nat → Prop) (s : St) (o : Oper) (s2 : St) : Prop :=
  ∀ (W0 : Fix) (R0 : Nat → Prop) (B : Nat) (E : Env) (a : Act) (w : World), InAct r W0 R0 B → Sim W0 R0 ns D s E a w → (∀ t, o.dst = some t → t < ns) →
    ∀ (K : Act → World → Prop) (Q : Exit → Act → World → Prop), (∀ E' a' w', Sim W0 R0 ns D' s2 E' a' w' → K a' w') → o.wpIn (fen (rOf W0 r)) 0 P a w K Q
open Classical in
structure Draw3 (P : Program) (r : Option Nat) (ns : Nat) (l : List Oper) (st : Nat → St) (N : Nat → Nat) (kd : Nat → Kd3) : Prop where
  slots : ∀ k o, l[k]? = some o → (st (k + 1)).slots = setSlot (st k).slots o.dst (kd k).res
  mem : ∀ k, k < l.length → ∀ i, ¬ tch N kd k i → (st (k + 1)).mem i = (st k).mem i
  names : ∀ k, k < l.length → N k ≤ N (k + 1)
  off : ∀ k o, l[k]? = some o → kd k = .off → guardS l.toArray ns (st k) o = some false
  pure : ∀ k o x ids, l[k]? = some o → kd k = .pure x ids → guardS l.toArray ns (st k) o = some true ∧ ∃ j0,
    (∀ i ∈ ids, i ≠ j0 → ∀ e, e < l.length → tch N kd e i → (e < k → Anc l e k) ∧ (k < e → Anc l k e)) ∧
    ∀ p, p ≤ l.length → (∀ e, e < l.length → tch N kd e j0 → Anc l e k → e < p) → (∀ e, e < l.length → tch N kd e j0 → Anc l k e → p ≤ e) →
      ∀ (D : Nat → Prop) s', (∀ i, D i → i < N l.length) → (∀ t ∈ slotsOf o.op, s'.slots t = (st k).slots t) → (∀ i ∈ ids, i ≠ j0 → s'.mem i = (st k).mem i) → s'.mem j0 = (st p).mem j0 → StepD P r ns D D s' o ⟨setSlot s'.slots o.dst x, s'.mem⟩
  act : ∀ k o y R, l[k]? = some o → kd k = .act y R → guardS l.toArray ns (st k) o = some true ∧ ∃ I : List Nat, (∀ i ∈ I, ∀ e, e < l.length → e ≠ k → tch N kd e i → (e < k → Anc l e k) ∧ (k < e → Anc l k e)) ∧
    ∀ (D : Nat → Prop) s', (∀ i, D i → i < N l.length) → (∀ i, D i → ¬ New (N k) (N (k + 1)) i) → (∀ t ∈ slotsOf o.op, s'.slots t = (st k).slots t) → (∀ i ∈ R, s'.mem i = (st k).mem i) → (∀ i ∈ I, s'.mem i = (st k).mem i) →
      StepD P r ns D (fun i => D i ∨ New (N k) (N (k + 1)) i) s' o ⟨setSlot s'.slots o.dst y, fun i => if i ∈ R ∨ New (N k) (N (k + 1)) i then (st (k + 1)).mem i else s'.mem i⟩
  cslot : ∀ i k oi ok t, i < k → l[i]? = some oi → l[k]? = some ok → ((oi.dst = some t ∧ (ok.dst = some t ∨ t ∈ guardSlot l.toArray ok ∨ t ∈ slotsOf ok.op)) ∨ (ok.dst = some t ∧ (t ∈ guardSlot l.toArray oi ∨ t ∈ slotsOf oi.op))) → Anc l i k
  cmem : ∀ i k b, i < k → k < l.length → tch N kd i b → tch N kd k b → Anc l i k
open Classical in
def mF (st : Nat → St) (N : Nat → Nat) (kd : Nat → Kd3) (L : Nat → Bool) : Nat → Mem
  | 0 => (st 0).mem
  | k + 1 => fun i => if L k = true ∧ tch N kd k i then (st (k + 1)).mem i else mF st N kd L k i
theorem mF_at {st : Nat → St} {N : Nat → Nat} {kd : Nat → Kd3} {L M : Nat → Bool} {i : Nat} : ∀ n, (∀ k, k < n → tch N kd k i → L k = M k) → mF st N kd L n i = mF st N kd M n i
  | 0, _ => rfl
  | n + 1, h => by
    have ih := mF_at (st := st) n fun k hk => h k (by omega)
    simp only [mF]
    by_cases ht : tch N kd n i
    · rw [h n (by omega) ht, ih]
    · rw [if_neg (fun c => ht c.2), if_neg (fun c => ht c.2), ih]
theorem mF_text {st : Nat → St} {N : Nat → Nat} {kd : Nat → Kd3} {len : Nat} (hm : ∀ k, k < len → ∀ i, ¬ tch N kd k i → (st (k + 1)).mem i = (st k).mem i) (k : Nat) (hk : k ≤ len) : mF st N kd (fun i => decide (i < k)) len = (st k).mem := by
  have h1 : ∀ j, j ≤ k → mF st N kd (fun i => decide (i < k)) j = (st j).mem := by
    intro j
    induction j with
    | zero => intro _; rfl
    | succ j ih =>
      intro hj
      funext i
      simp only [mF]
      by_cases ht : tch N kd j i
      · rw [if_pos ⟨by simp; omega, ht⟩]
      · rw [if_neg (fun c => ht c.2), ih (by omega), hm j (by omega) i ht]
  have h2 : ∀ j, k ≤ j → mF st N kd (fun i => decide (i < k)) j = (st k).mem := by
    intro j
    induction j with
    | zero => intro hj; obtain rfl : k = 0 := by omega
              rfl
    | succ j ih =>
      intro hj
      rcases Nat.lt_or_ge j k with h | h
      · obtain rfl : k = j + 1 := by omega
        exact h1 (j + 1) (Nat.le_refl _)
      · funext i
        simp only [mF]
        rw [if_neg (fun c => by have := c.1; simp at this; omega), ih h]
  exact h2 len hk
def dF (N : Nat → Nat) (kd : Nat → Kd3) (len : Nat) (L : Nat → Bool) (i : Nat) : Prop := i < N 0 ∨ ∃ k y R, k < len ∧ L k = true ∧ kd k = .act y R ∧ New (N k) (N (k + 1)) i
open Classical in
theorem draw_any3 {l : List Oper} (hB : backB l.toArray = true) {st : Nat → St} {N : Nat → Nat} {kd : Nat → Kd3} (H : Draw3 P r ns l st N kd) {W0 : Fix} {R0 : Nat → Prop} {B : Nat} (hi : InAct r W0 R0 B)
    {E : Env} {a : Act} {w : World} (hs : Sim W0 R0 ns (· < N 0) (st 0) E a w) {Q : Exit → Act → World → Prop} (hQ : ∀ E' a' w', Sim W0 R0 ns (· < N l.length) (st l.length) E' a' w' → Q .normal a' w') :
    wpAnyIn (fen (rOf W0 r)) 0 P .any l.toArray Q l.toArray.size (Array.replicate l.toArray.size false) a w := by
  have mono : ∀ i k, i ≤ k → k ≤ l.length → N i ≤ N k := by
    intro i k hik
    induction k with
    | zero => intro _; (obtain rfl : i = 0 := (by omega)); exact Nat.le_refl _
    | succ k ih =>
      intro hk
      rcases Nat.lt_or_ge i (k + 1) with h | h
      · exact Nat.le_trans (ih (by omega) (by omega)) (H.names k (by omega))
      · obtain rfl : i = k + 1 := by omega
        exact Nat.le_refl _
  let res : Nat → SV := fun k => (kd k).res
  have text : ∀ (k j : Nat), j ≤ k → k ≤ l.length → slF l res (st 0).slots (fun i => decide (i < k)) j = (st j).slots := by
    intro k j
    induction j with
    | zero => intro _ _; rfl
    | succ j ih =>
      intro hj hk
      have hjl : l[j]? = some l[j] := List.getElem?_eq_getElem (by omega)
      simp only [slF, hjl]
      rw [if_pos (by simp; omega), ih (by omega) hk]
      exact (H.slots j _ hjl).symm
  have textE : ∀ (k : Nat), k ≤ l.length → ∀ j, k ≤ j → slF l res (st 0).slots (fun i => decide (i < k)) j = (st k).slots := by
    intro k hk j
    induction j with
    | zero =>
      intro hj
      obtain rfl : k = 0 := by omega
      rfl
    | succ j ih =>
      intro hj
      rcases Nat.lt_or_ge j k with h | h
      · obtain rfl : k = j + 1 := by omega
        exact text (j + 1) (j + 1) (Nat.le_refl _) hk
      · simp only [slF]
        cases l[j]? with
        | none => exact ih h
        | some o => simp only; rw [if_neg (by simp; omega)]; exact ih h
  let Closed (L : Nat → Bool) : Prop := ∀ i k, Anc l i k → k < l.length → L k = true → L i = true
  -- what operation k sees of the slots
  have see : ∀ (L : Nat → Bool) (k : Nat) (o : Oper), l[k]? = some o → L k = false → Closed L → (∀ i, Anc l i k → L i = true) → ∀ t, (o.dst = some t ∨ t ∈ guardSlot l.toArray o ∨ t ∈ slotsOf o.op) →
      ∀ i oi, l[i]? = some oi → oi.dst = some t → i ≠ k → L i = decide (i < k) := by
    intro L k o hk hLk hC hA t hx i oi hi hw hne
    rcases Nat.lt_or_gt_of_ne hne with h | h
    · rw [decide_eq_true h]
      exact hA i (H.cslot i k oi o t h hi hk (.inl ⟨hw, hx⟩))
    · rw [decide_eq_false (by omega)]
      have hanc : Anc l k i := H.cslot k i o oi t h hk hi (by
        rcases hx with hx | hx
        · exact .inl ⟨hx, .inl hw⟩
        · exact .inr ⟨hw, hx⟩)
      cases hLi : L i with
      | false => rfl
      | true =>
        have := hC k i hanc (List.getElem?_eq_some_iff.1 hi).1 hLi
        rw [hLk] at this
        cases this
  have see_slot : ∀ (L : Nat → Bool) (k : Nat) (o : Oper), l[k]? = some o → L k = false → Closed L → (∀ i, Anc l i k → L i = true) → ∀ t, (t ∈ guardSlot l.toArray o ∨ t ∈ slotsOf o.op) → slF l res (st 0).slots L l.length t = (st k).slots t := by
    intro L k o hk hLk hC hA t hx
    have hkl := (List.getElem?_eq_some_iff.1 hk).1
    rw [← textE k (by omega) l.length (by omega)]
    refine slF_at (fun i oi hi hd => ?_) _
    by_cases e : i = k
    · subst e; rw [hLk]; simp
    · exact see L k o hk hLk hC hA t (.inr hx) i oi hi hd e
  have meet : ∀ (L L' : Nat → Bool) (k : Nat) (o : Oper), l[k]? = some o → L k = false → Closed L → (∀ i, Anc l i k → L i = true) → (∀ i, L' i = if i = k then true else L i) → slF l res (st 0).slots L' l.length = setSlot (slF l res (st 0).slots L l.length) o.dst (res k) := by
    intro L L' k o hk hLk hC hA hL'
    have hkl := (List.getElem?_eq_some_iff.1 hk).1
    funext t
    rw [setSlot_at]
    by_cases hd : o.dst = some t
    · rw [if_pos hd, slF_at (M := fun i => decide (i < k + 1)) (fun i oi hi hdi => ?_) _, textE (k + 1) (by omega) l.length (by omega), H.slots k o hk, setSlot_at, if_pos hd]
      rw [hL']
      by_cases e : i = k
      · subst e; simp
      · rw [if_neg e, see L k o hk hLk hC hA t (.inl hd) i oi hi hdi e]
        by_cases h : i < k
        · rw [decide_eq_true h, decide_eq_true (by omega)]
        · rw [decide_eq_false h, decide_eq_false (by omega)]
    · rw [if_neg hd]
      refine slF_at (fun i oi hi hdi => ?_) _
      rw [hL', if_neg]
      rintro rfl
      rw [hk] at hi
      cases hi
      exact hd hdi
  have key : ∀ (fuel : Nat) (listed : Array Bool) (E : Env) (a : Act) (w : World), listed.size = l.toArray.size → leftOf l.toArray.size listed ≤ fuel → Closed (fun i => listed.getD i true) →
      Sim W0 R0 ns (dF N kd l.length (fun i => listed.getD i true)) ⟨slF l res (st 0).slots (fun i => listed.getD i true) l.length, mF st N kd (fun i => listed.getD i true) l.length⟩ E a w → wpAnyIn (fen (rOf W0 r)) 0 P .any l.toArray Q fuel listed a w := by
    have bound : ∀ (L : Nat → Bool) i, dF N kd l.length L i → i < N l.length := fun L i hi => by
      rcases hi with hi | ⟨k, _, _, hk, _, _, h1, h2⟩
      · exact Nat.lt_of_lt_of_le hi (mono 0 _ (Nat.zero_le _) (Nat.le_refl _))
      · exact Nat.lt_of_lt_of_le h2 (mono (k + 1) _ (by omega) (Nat.le_refl _))
    have fin : ∀ (listed : Array Bool) (E : Env) (a : Act) (w : World), listed.size = l.toArray.size →
        Sim W0 R0 ns (dF N kd l.length (fun i => listed.getD i true)) ⟨slF l res (st 0).slots (fun i => listed.getD i true) l.length, mF st N kd (fun i => listed.getD i true) l.length⟩ E a w → Region.ready .any l.toArray listed = [] → Q .normal a w := by
      intro listed E a w hsz hsim hr
      have hall := all_listed hsz hB hr
      have e : slF l res (st 0).slots (fun i => listed.getD i true) l.length = (st l.length).slots := by
        rw [← text l.length l.length (Nat.le_refl _) (Nat.le_refl _)]
        funext t
        refine slF_at (fun i oi hi _ => ?_) _
        have hil := (List.getElem?_eq_some_iff.1 hi).1
        rw [hall i (by simpa using hil), decide_eq_true hil]
      have e2 : mF st N kd (fun i => listed.getD i true) l.length = (st l.length).mem := by
        rw [← mF_text H.mem l.length (Nat.le_refl _)]
        funext x
        refine mF_at _ fun i hi _ => ?_
        rw [hall i (by simpa using hi), decide_eq_true hi]
      rw [e, e2] at hsim
      exact hQ E a w (hsim.weak (bound _))
    intro fuel
    induction fuel with
    | zero =>
      intro listed E a w hsz hl hC hsim
      have hr : Region.ready .any l.toArray listed = [] := by
        rw [List.eq_nil_iff_forall_not_mem]
        intro i hi
        have h1 := (mem_ready.1 hi).1
        have h2 : i ∈ (List.range l.toArray.size).filter fun j => !listed.getD j true := by
          rw [List.mem_filter]
          refine ⟨List.mem_range.2 ?_, by rw [h1]; rfl⟩
          obtain ⟨o, ho, _⟩ := (mem_ready.1 hi).2
          exact (Array.getElem?_eq_some_iff.1 ho).1
        unfold leftOf at hl
        rw [List.length_eq_zero_iff.1 (Nat.le_zero.1 hl)] at h2
        cases h2
      exact ⟨hr, fin listed E a w hsz hsim hr⟩
    | succ fuel ih =>
      intro listed E a w hsz hl hC hsim
      refine ⟨fun hr => fin listed E a w hsz hsim hr, fun k hk => ?_⟩
      obtain ⟨hun, o, ho, hdep⟩ := mem_ready.1 hk
      have hkl : k < l.length := by have := (Array.getElem?_eq_some_iff.1 ho).1; simpa using this
      have hlk : l[k]? = some o := by simpa using ho
      have hA : ∀ i, Anc l i k → listed.getD i true = true := by
        intro i hi
        cases hi with
        | one h1 h2 h3 =>
          rw [hlk] at h1
          cases h1
          have h4 := hdep _ (by simpa using h2) h3
          rename_i e
          rcases Nat.lt_or_ge e.on listed.size with h5 | h5
          · simp [h5] at h4 ⊢; exact h4
          · simp [Array.getElem?_eq_none h5] at h4
        | more h1 h2 h3 h4 =>
          rw [hlk] at h1
          cases h1
          rename_i e
          have h5 := hdep _ (by simpa using h2) h3
          rcases Nat.lt_or_ge e.on listed.size with h6 | h6
          · refine hC i e.on h4 (by simpa [hsz] using h6) ?_
            simp [h6] at h5 ⊢; exact h5
          · simp [Array.getElem?_eq_none h6] at h5
      have hL' : ∀ i, (listed.setIfInBounds k true).getD i true = if i = k then true else listed.getD i true := fun i => by
        by_cases e : i = k
        · subst e; rw [if_pos rfl]; simp [hsz, hkl]
        · rw [if_neg e]; exact getD_set_ne true (Ne.symm e)
      have hmeet := meet (fun i => listed.getD i true) (fun i => (listed.setIfInBounds k true).getD i true) k o hlk hun hC hA hL'
      have hC' : Closed (fun i => (listed.setIfInBounds k true).getD i true) := by
        intro i j hij hj hLj
        have hLj := (hL' j).symm.trans hLj
        refine (hL' i).trans ?_
        split
        · rfl
        · rename_i hne
          by_cases e : j = k
          · subst e; exact hA i hij
          · rw [if_neg e] at hLj; exact hC i j hij hj hLj
      have hseeS : ∀ t, (t ∈ guardSlot l.toArray o ∨ t ∈ slotsOf o.op) → slF l res (st 0).slots (fun i => listed.getD i true) l.length t = (st k).slots t := see_slot _ k o hlk hun hC hA
      have hgs : ∀ b, guardS l.toArray ns (st k) o = some b → guardS l.toArray ns ⟨slF l res (st 0).slots (fun i => listed.getD i true) l.length, mF st N kd (fun i => listed.getD i true) l.length⟩ o = some b := by
        intro b hb
        unfold guardS at hb ⊢
        have hdo : dstOk ns o.dst = true := by by_cases hd : dstOk ns o.dst = true; exact hd; rw [if_neg hd] at hb; cases hb
        rw [if_pos hdo] at hb ⊢
        cases hgd : o.guard with
        | none => rw [hgd] at hb; exact hb
        | some p =>
          obtain ⟨j, want⟩ := p
          rw [hgd] at hb
          simp only at hb ⊢
          cases hj : (l.toArray[j]?).bind (·.dst) with
          | none => rw [hj] at hb; cases hb
          | some t =>
            rw [hj] at hb
            simp only at hb ⊢
            rw [hseeS t (.inl ?_)]
            · exact hb
            · simp only [guardSlot, hgd, hj]
              simp
      have hlf := leftOf_set hsz hun fuel hl
      have dmore : ∀ i, dF N kd l.length (fun i => listed.getD i true) i → dF N kd l.length (fun i => (listed.setIfInBounds k true).getD i true) i := fun i hi => by
        rcases hi with hi | ⟨e, y, R, h1, h2, h3, h4⟩
        · exact .inl hi
        · refine .inr ⟨e, y, R, h1, ?_, h3, h4⟩
          show (listed.setIfInBounds k true).getD e true = true
          rw [hL' e]
          split
          · rfl
          · exact h2
      have keep : (∀ i, ¬ tch N kd k i) → mF st N kd (fun i => (listed.setIfInBounds k true).getD i true) l.length = mF st N kd (fun i => listed.getD i true) l.length := fun hno => by
        funext i
        refine mF_at _ fun e he ht => ?_
        rw [hL' e, if_neg]
        rintro rfl
        exact hno i ht
      unfold wpOpIn
      rw [show l.toArray[k]? = some o from ho]
      simp only
      cases hkd : kd k with
      | off =>
        have hg := H.off k o hlk hkd
        rw [guard_ok hsim (hgs _ hg), if_neg (by simp)]
        refine ⟨fun f _ => fen_fn _ f, ih _ E _ w (by simpa using hsz) hlf hC' ?_⟩
        rw [hmeet, keep (fun i ⟨y, R, h, _⟩ => by rw [hkd] at h; cases h)]
        have := (hsim.weak dmore).put (guardS_dst hg) rep_no
        simpa [res, hkd, Kd3.res] using this
      | pure x ids =>
        obtain ⟨hg, j0, hord, hst⟩ := H.pure k o x ids hlk hkd
        rw [guard_ok hsim (hgs _ hg), if_pos rfl]
        have hnot : ∀ i, ¬ tch N kd k i := fun i ⟨y, R, h, _⟩ => by rw [hkd] at h; cases h
        have hpre : ∀ n, n ≤ l.length → ∃ p, p ≤ n ∧ ∀ e, e < n → tch N kd e j0 → (listed.getD e true = true ↔ e < p) := by
          intro n
          induction n with
          | zero => intro _; exact ⟨0, Nat.le_refl _, fun e he => by omega⟩
          | succ n ihn =>
            intro hn
            obtain ⟨p, hp, h1⟩ := ihn (by omega)
            by_cases ht : tch N kd n j0
            · cases hLn : listed.getD n true with
              | true =>
                refine ⟨n + 1, Nat.le_refl _, fun e he hte => ⟨fun _ => he, fun _ => ?_⟩⟩
                by_cases hen : e = n
                · rw [hen]; exact hLn
                · exact hC e n (H.cmem e n j0 (by omega) (by omega) hte ht) (by omega) hLn
              | false =>
                refine ⟨p, by omega, fun e he hte => ?_⟩
                by_cases hen : e = n
                · rw [hen, hLn]
                  exact ⟨fun h => (by cases h), fun h => (by omega)⟩
                · exact h1 e (by omega) hte
            · refine ⟨p, by omega, fun e he hte => ?_⟩
              by_cases hen : e = n
              · rw [hen] at hte; exact absurd hte ht
              · exact h1 e (by omega) hte
        obtain ⟨p, hp, hpx⟩ := hpre l.length (Nat.le_refl _)
        refine hst p hp (fun e he1 he2 he3 => (hpx e he1 he2).1 (hA e he3)) (fun e he1 he2 he3 => ?_) _ ⟨slF l res (st 0).slots (fun i => listed.getD i true) l.length, mF st N kd (fun i => listed.getD i true) l.length⟩ (bound _) (fun t ht => hseeS t (.inr ht)) (fun i hi hne => ?_) ?_ W0 R0 B E a w hi hsim (guardS_dst hg) _ Q fun E' a' w' hs' => ?_
        · rcases Nat.lt_or_ge e p with h5 | h5
          · have h6 : listed.getD k true = true := hC k e he3 he1 ((hpx e he1 he2).2 h5)
            rw [hun] at h6; cases h6
          · exact h5
        · rw [← mF_text H.mem k (by omega)]
          refine mF_at _ fun e he ht => ?_
          obtain ⟨q1, q2⟩ := hord i hi hne e he ht
          rcases Nat.lt_trichotomy e k with h | h | h
          · rw [decide_eq_true h]; exact hA e (q1 h)
          · subst h; exact absurd ht (hnot i)
          · rw [decide_eq_false (by omega)]
            cases hLe : listed.getD e true with
            | false => rfl
            | true =>
              have h6 : listed.getD k true = true := hC k e (q2 h) he hLe
              rw [hun] at h6; cases h6
        · rw [← mF_text H.mem p hp]
          refine mF_at _ fun e he ht => ?_
          rw [Bool.eq_iff_iff, decide_eq_true_iff]
          exact hpx e he ht
        · refine ih _ E' a' w' (by simpa using hsz) hlf hC' ?_
          rw [hmeet, keep hnot]
          have := hs'.weak dmore
          simpa [res, hkd, Kd3.res] using this
      | act y R =>
        obtain ⟨hg, I, hord, hst⟩ := H.act k o y R hlk hkd
        rw [guard_ok hsim (hgs _ hg), if_pos rfl]
        have htk : ∀ i, tch N kd k i ↔ (i ∈ R ∨ New (N k) (N (k + 1)) i) := fun i => ⟨fun ⟨y', R', h, h2⟩ => by rw [hkd] at h; cases h; exact h2, fun h => ⟨y, R, hkd, h⟩⟩
        have hsee : ∀ i, tch N kd k i → ∀ e, e < l.length → tch N kd e i → e ≠ k → listed.getD e true = decide (e < k) := fun i hti e he hte hne => by
          rcases Nat.lt_or_gt_of_ne hne with h | h
          · rw [decide_eq_true h]; exact hA e (H.cmem e k i h hkl hte hti)
          · rw [decide_eq_false (by omega)]
            cases hLe : listed.getD e true with
            | false => rfl
            | true =>
              have h6 : listed.getD k true = true := hC k e (H.cmem k e i h he hti hte) he hLe
              rw [hun] at h6; cases h6
        refine hst _ ⟨slF l res (st 0).slots (fun i => listed.getD i true) l.length, mF st N kd (fun i => listed.getD i true) l.length⟩ (bound _) (fun i hd hnw => ?_) (fun t ht => hseeS t (.inr ht)) (fun i hi => ?_) (fun i hi => ?_) W0 R0 B E a w hi hsim (guardS_dst hg) _ Q fun E' a' w' hs' => ?_
        · rcases hd with hd | ⟨e, y', R', h1, h2, h3, h4⟩
          · have := mono 0 k (Nat.zero_le _) (by omega)
            have := hnw.1
            omega
          · rcases Nat.lt_trichotomy e k with h | h | h
            · have := mono (e + 1) k (by omega) (by omega)
              have := h4.2
              have := hnw.1
              omega
            · subst h
              have h2 : listed.getD e true = true := h2
              rw [hun] at h2; cases h2
            · have := mono (k + 1) e (by omega) (by omega)
              have := h4.1
              have := hnw.2
              omega
        · rw [← mF_text H.mem k (by omega)]
          refine mF_at _ fun e he ht => ?_
          by_cases hek : e = k
          · subst hek
            have hun' : listed.getD e true = false := hun
            rw [hun']; simp
          · exact hsee i ((htk i).2 (.inl hi)) e he ht hek
        · rw [← mF_text H.mem k (by omega)]
          refine mF_at _ fun e he ht => ?_
          by_cases hek : e = k
          · subst hek
            have hun' : listed.getD e true = false := hun
            rw [hun']; simp
          · obtain ⟨q1, q2⟩ := hord i hi e he hek ht
            rcases Nat.lt_or_gt_of_ne hek with h | h
            · rw [decide_eq_true h]; exact hA e (q1 h)
            · rw [decide_eq_false (by omega)]
              cases hLe : listed.getD e true with
              | false => rfl
              | true =>
                have h6 : listed.getD k true = true := hC k e (q2 h) he hLe
                rw [hun] at h6; cases h6
        · refine ih _ E' a' w' (by simpa using hsz) hlf hC' ?_
          have hmem : mF st N kd (fun i => (listed.setIfInBounds k true).getD i true) l.length = fun i => if i ∈ R ∨ New (N k) (N (k + 1)) i then (st (k + 1)).mem i else mF st N kd (fun i => listed.getD i true) l.length i := by
            funext i
            split
            · rename_i hti
              rw [← mF_text H.mem (k + 1) (by omega)]
              refine mF_at _ fun e he ht => ?_
              rw [hL' e]
              by_cases hek : e = k
              · subst hek; simp
              · rw [if_neg hek, hsee i ((htk i).2 hti) e he ht hek]
                by_cases h : e < k
                · rw [decide_eq_true h, decide_eq_true (by omega)]
                · rw [decide_eq_false h, decide_eq_false (by omega)]
            · rename_i hti
              refine mF_at _ fun e he ht => ?_
              rw [hL' e, if_neg]
              rintro rfl
              exact hti ((htk i).1 ht)
          rw [hmeet, hmem]
          have := hs'.weak (D' := dF N kd l.length (fun i => (listed.setIfInBounds k true).getD i true)) fun i hi => by
            rcases hi with hi | hi
            · exact dmore i hi
            · refine .inr ⟨k, y, R, hkl, ?_, hkd, hi⟩
              show (listed.setIfInBounds k true).getD k true = true
              rw [hL' k, if_pos rfl]
          simpa [res, hkd, Kd3.res] using this
  have hL0 : ∀ i, i < l.length → (Array.replicate l.toArray.size false).getD i true = false := fun i hi => by simp [hi]
  refine key l.toArray.size _ E a _ (by simp) (by unfold leftOf; exact Nat.le_trans (List.length_filter_le _ _) (by simp)) (fun i k hik hk hLk => by have hLk := (hL0 k hk).symm.trans hLk; cases hLk) ?_
  have e0 : slF l res (st 0).slots (fun i => (Array.replicate l.toArray.size false).getD i true) l.length = (st 0).slots := by
    refine Eq.trans ?_ (textE 0 (Nat.zero_le _) l.length (Nat.zero_le _))
    funext t
    exact slF_at (fun i oi hi _ => by rw [hL0 i (List.getElem?_eq_some_iff.1 hi).1]; rfl) _
  have e1 : mF st N kd (fun i => (Array.replicate l.toArray.size false).getD i true) l.length = (st 0).mem := by
    rw [← mF_text H.mem 0 (Nat.zero_le _)]
    funext i
    exact mF_at _ fun k hk _ => by rw [hL0 k hk]; simp
  rw [e0, e1]
  exact hs.weak fun i hi => .inl hi
theorem AWi.drawsI3 (hm : P.follows .mixedOrders = true) {id : Nat} {l : List Oper} (hB : backB l.toArray = true) {st : Nat → St} {N : Nat → Nat} {kd : Nat → Kd3} (H : Draw3 P r ns l st N kd) {Q : Post} (h : Q .normal (N l.length) (st l.length)) :
    AWi P r ns (.region id l.toArray true) (N 0) (st 0) Q := fun W0 R0 B E a w hi hs =>
  wpIn_region_any hm (draw_any3 hB H hi hs.drew fun E' a' w' hs' => ⟨_, _, E', W0, Ext.refl _, hi, hs', h⟩)
end Go.Proofs.Ytdkneonokbakjaa.Eng

noncomputable section
namespace Go.Proofs.Ytdkneonokbakjaa.Eng
open Go.RowKit
variable {P : Program} {T : Tab} {Z : ZTab} {Q : QTab} {M : MTab} {K : Known} {R : Runner} {r : Option Nat} {ns : Nat}
def ordB (l : List Oper) (i k : Nat) : Bool := ((ancs l []).getD k 0).testBit i
theorem fresh_nat : ∀ ids : List Nat, ∃ j, ∀ i ∈ ids, i < j
  | [] => ⟨0, by simp⟩
  | a :: l => by
    obtain ⟨j, hj⟩ := fresh_nat l
    refine ⟨max (a + 1) j, fun i hi => ?_⟩
    rcases List.mem_cons.1 hi with rfl | hi
    · omega
    · have := hj i hi; omega
end Go.Proofs.Ytdkneonokbakjaa.Eng

noncomputable section
namespace Go.Proofs.Ytdkneonokbakjaa.Eng
open Go.RowKit
variable {P : Program} {T : Tab} {Z : ZTab} {Q : QTab} {M : MTab} {K : Known} {R : Runner} {r : Option Nat} {ns : Nat}
theorem stepD_call {f : FuncId} {svs : List SV} {m0 mq : Mem} {n n' : Nat} {y : SV} (h : NCall P f svs m0 n n' y mq) {D : Nat → Prop} {s' : St} {o : Oper} (hD : ∀ i, D i → ¬ New n n' i) (h1 : calleeS ns s' o.op = some (f, svs)) (hm : ∀ i b, m0 i = some b → s'.mem i = some b) :
    StepD P r ns D (fun i => D i ∨ New n n' i) s' o ⟨setSlot s'.slots o.dst y, behind s'.mem m0 mq n n'⟩ := by
  intro W0 R0 B E a w _ hs hd K1 Q' hK1
  obtain ⟨vs, hex, v1, v2⟩ := calleeS_run hs h1 h.callable
  refine oper_in (fun c e => by rw [e] at h1; cases h1) ?_
  unfold Oper.wp
  rw [hex, Oper.upon_enter]
  refine (h.calls W0 R0 D s'.mem E w vs hD hm hs.ms v1 v2).mono ?_
  rintro e w' ⟨v, E', rfl, M, hE, hw, hv⟩
  exact hK1 E' _ w' ((hs.back M hE hw).put hd hv)
theorem stepD_ro {f : FuncId} {svs : List SV} {m0 : Mem} {d : Dat} (h : RCall P f svs d m0) {D : Nat → Prop} {N : Nat} {s' : St} {o : Oper} (hD : ∀ i, D i → i < N) (h1 : calleeS ns s' o.op = some (f, svs)) (hm : ∀ i b, m0 i = some b → s'.mem i = some b) {x : SV} (hx : toD3 x = some d) :
    StepD P r ns D D s' o ⟨setSlot s'.slots o.dst x, s'.mem⟩ := by
  intro W0 R0 B E a w _ hs hd K1 Q' hK1
  obtain ⟨vs, hex, v1, v2⟩ := calleeS_run hs h1 h.callable
  refine oper_in (fun c e => by rw [e] at h1; cases h1) ?_
  unfold Oper.wp
  rw [hex, Oper.upon_enter]
  refine ((h.more hm).calls W0 R0 D N E w vs hD hs.ms v1 v2).mono ?_
  rintro e w' ⟨v, E', rfl, M, hE, hw, hv⟩
  exact hK1 E' _ w' ((hs.back M hE hw).put hd ((toD3_rep hx).2 hv))
end Go.Proofs.Ytdkneonokbakjaa.Eng

noncomputable section
namespace Go.Proofs.Ytdkneonokbakjaa.Eng
open Go.RowKit
variable {P : Program} {T : Tab} {r : Option Nat} {ns : Nat}
open Classical in
theorem ncall_ofM {f : FuncId} {svs : List SV} {n : Nat} {m0 : Mem} {n1 : Nat} {y0 : SV} {mq : Mem} (h : CWp P f svs n m0 fun y n' m' => y0 = y ∧ n1 = n' ∧ mq = m') (hlt : ∀ i b, m0 i = some b → i < n) (hm0 : ∀ i b, m0 i = some b → OfB (fun i => (m0 i).isSome = true) b) (hargs : ∀ x ∈ svs, Of (fun i => (m0 i).isSome = true) x)
    (hq : ∀ i b, mq i = some b → ((m0 i).isSome = true ∨ New n n1 i) ∧ OfB (fun i => (m0 i).isSome = true ∨ New n n1 i) b) (hy : Of (fun i => (m0 i).isSome = true ∨ New n n1 i) y0) : NCall P f svs m0 n n1 y0 mq :=
  ⟨h.callable, fun W0 R0 D m E w vs hD hm M h1 h2 => by
    have some_of : ∀ i, (m0 i).isSome = true → ∃ b, m0 i = some b := fun i hi => Option.isSome_iff_exists.1 hi
    let W1 : Fix := { w := w, U := fun b => b < w.heap.size ∧ ∀ i c, m0 i = some c → (E.home i).blk ≠ b, lt := fun _ h => h.1, g := fun _ => undef }
    have hU : ∀ b, W0.U b → W1.U b := fun b hb => ⟨Nat.lt_of_lt_of_le (W0.lt b hb) M.below.size, fun i c hi e => M.base i c (hm i c hi) (e ▸ hb)⟩
    have hUn : ∀ i b, m i = some b → ¬ (m0 i).isSome = true → W1.U (E.home i).blk := fun i b hi hn => ⟨(M.mem i b hi).lt, fun j c hj => M.inj j i c b (hm j c hj) hi fun e => hn (by rw [← e, hj]; rfl)⟩
    let E0 : Env := { E with dom := fun i => E.dom i ∧ (m0 i).isSome = true }
    have M0 : MS W1 E.ro (· < n) m0 E0 w := ⟨Kept.refl _ _, fun _ h => h, fun _ h => .inl h, M.rlt, fun i hi => by obtain ⟨b, hb⟩ := some_of i hi.2; exact hlt i b hb, fun i b hi => ⟨M.live i b (hm i b hi), by rw [hi]; rfl⟩, fun i b hi => Holds.of (E := E) (E0 := E0) rfl (fun i a b => ⟨a, b⟩) (fun _ _ _ => rfl) (M.mem i b (hm i b hi)) (hm0 i b hi), fun i b hi h => h.2 i b hi rfl, fun i b hi => M.frz i b (hm i b hi), fun i j b c hi hj hn => M.inj i j b c (hm i b hi) (hm j c hj) hn⟩
    refine ((h.calls W1 E.ro E0 w vs M0 h1 fun i x v hx hv => Rep.of (E := E) (E0 := E0) rfl (fun i a b => ⟨a, b⟩) (fun _ _ _ => rfl) (h2 i x v hx hv) (hargs x (List.mem_of_getElem? hx)))).mono ?_
    rintro e w' ⟨v, E', n', m', y, rfl, M2, hE, hw, hv, rfl, rfl, rfl⟩
    have hro : ∀ b, E'.ro b → E.ro b ∨ ¬ W1.U b := M2.ro1
    let E2 : Env := { E' with dom := fun i => E.dom i ∨ (New n n1 i ∧ E'.dom i), home := fun i => if New n n1 i then E'.home i else E.home i }
    have live0 : ∀ i, (m0 i).isSome = true → E.dom i := fun i hi => by obtain ⟨b, hb⟩ := some_of i hi; exact M.live i b (hm i b hb)
    have not_new : ∀ i, E.dom i → ¬ New n n1 i := fun i hi => hD i (M.dom i hi)
    have home2 : ∀ i, (m0 i).isSome = true ∨ New n n1 i → E2.home i = E'.home i := fun i hi => by
      by_cases hn : New n n1 i
      · show (if New n n1 i then E'.home i else E.home i) = _
        rw [if_pos hn]
      · show (if New n n1 i then E'.home i else E.home i) = _
        rw [if_neg hn]
        have hs := hi.resolve_right hn
        exact (hE.home i ⟨live0 i hs, hs⟩).symm
    have homeE : ∀ i, E.dom i → E2.home i = E.home i := fun i hi => by
      show (if New n n1 i then E'.home i else E.home i) = _
      rw [if_neg (not_new i hi)]
    have dom2 : ∀ i, E'.dom i → (m0 i).isSome = true ∨ New n n1 i → E2.dom i := fun i hd hi => by
      rcases hi with hi | hi
      · exact .inl (live0 i hi)
      · exact .inr ⟨hi, hd⟩
    have hle : E.le E2 := ⟨hE.ro, fun _ h => .inl h, homeE⟩
    have cases_ : ∀ i b, behind m m0 mq n n1 i = some b → (((m0 i).isSome = true ∨ New n n1 i) ∧ mq i = some b) ∨ (¬ ((m0 i).isSome = true ∨ New n n1 i) ∧ m i = some b) := fun i b hb => by
      unfold behind at hb
      split at hb
      · rename_i c; exact .inl ⟨c, hb⟩
      · rename_i c; exact .inr ⟨c, hb⟩
    refine ⟨v, E2, rfl, ⟨M.below.trans (M2.below.mono hU), fun b hb => hE.ro b (M.ro0 b hb), fun b hb => ?_, M2.rlt, fun i hi => ?_, fun i b hi => ?_, fun i b hi => ?_, fun i b hi => ?_, fun i b hi => ?_, fun i j b c hi hj hn => ?_⟩, hle, hw, ?_⟩
    · rcases hro b hb with h3 | h3
      · exact M.ro1 b h3
      · exact .inr fun h4 => h3 (hU b h4)
    · rcases hi with hi | hi
      · exact .inl (M.dom i hi)
      · exact .inr hi.1
    · rcases cases_ i b hi with ⟨h3, h4⟩ | ⟨_, h4⟩
      · exact dom2 i (M2.live i b h4) h3
      · exact .inl (M.live i b h4)
    · rcases cases_ i b hi with ⟨h3, h4⟩ | ⟨h3, h4⟩
      · rw [home2 i h3]
        exact Holds.of (E := E') (E0 := E2) rfl dom2 (fun i _ hs => home2 i hs) (M2.mem i b h4) (hq i b h4).2
      · rw [homeE i (M.live i b h4)]
        exact (M.mem i b h4).keep hle hw (M2.below.block _ (hUn i b h4 fun hs => h3 (.inl hs)))
    · rcases cases_ i b hi with ⟨h3, h4⟩ | ⟨h3, h4⟩
      · rw [home2 i h3]
        exact fun h5 => M2.base i b h4 (hU _ h5)
      · rw [homeE i (M.live i b h4)]
        exact M.base i b h4
    · rcases cases_ i b hi with ⟨h3, h4⟩ | ⟨h3, h4⟩
      · rw [home2 i h3]
        exact M2.frz i b h4
      · rw [homeE i (M.live i b h4)]
        refine (M.frz i b h4).trans ⟨fun h => hE.ro _ h, fun h => ?_⟩
        rcases hro _ h with h5 | h5
        · exact h5
        · exact absurd (hUn i b h4 fun hs => h3 (.inl hs)) h5
    · rcases cases_ i b hi with ⟨h3, h4⟩ | ⟨h3, h4⟩
      · rcases cases_ j c hj with ⟨k3, k4⟩ | ⟨k3, k4⟩
        · rw [home2 i h3, home2 j k3]
          exact M2.inj i j b c h4 k4 hn
        · rw [home2 i h3, homeE j (M.live j c k4)]
          exact fun e => M2.base i b h4 (e ▸ hUn j c k4 fun hs => k3 (.inl hs))
      · rcases cases_ j c hj with ⟨k3, k4⟩ | ⟨k3, k4⟩
        · rw [homeE i (M.live i b h4), home2 j k3]
          exact fun e => M2.base j c k4 (e ▸ hUn i b h4 fun hs => h3 (.inl hs))
        · rw [homeE i (M.live i b h4), homeE j (M.live j c k4)]
          exact M.inj i j b c h4 k4 hn
    · exact Rep.of (E := E') (E0 := E2) rfl dom2 (fun i _ hs => home2 i hs) hv hy⟩
structure EnV where
  k : Kd3
  n : Nat
  s : St
  n' : Nat
  s' : St
  rd : List Nat
def EnV.reads (e : EnV) : List Nat := match e.k with
  | .pure _ ids => ids
  | .act _ _ => e.rd
  | .off => []
def EnV.tch (e : EnV) (b : Nat) : Prop := match e.k with
  | .act _ R => b ∈ R ∨ New e.n e.n' b
  | _ => False
open Classical in
structure EnVOk (P : Program) (r : Option Nat) (ns : Nat) (ops : Array Oper) (o : Oper) (e : EnV) : Prop where
  k : match e.k with
    | .off => guardS ops ns e.s o = some false ∧ e.n' = e.n ∧ e.s' = ⟨setSlot e.s.slots o.dst (.tup []), e.s.mem⟩
    | .pure x ids => guardS ops ns e.s o = some true ∧ (∀ (s' : St) (D : Nat → Prop) (N : Nat), (∀ i, D i → i < N) → (∀ t ∈ slotsOf o.op, s'.slots t = e.s.slots t) → (∀ i ∈ ids, s'.mem i = e.s.mem i) → StepD P r ns D D s' o ⟨setSlot s'.slots o.dst x, s'.mem⟩) ∧ e.n' = e.n ∧ e.s' = ⟨setSlot e.s.slots o.dst x, e.s.mem⟩
    | .act y R => guardS ops ns e.s o = some true ∧ (∀ (D : Nat → Prop) (s' : St), (∀ i, D i → ¬ New e.n e.n' i) → (∀ t ∈ slotsOf o.op, s'.slots t = e.s.slots t) → (∀ i ∈ R, s'.mem i = e.s.mem i) → (∀ i ∈ e.rd, s'.mem i = e.s.mem i) →
        StepD P r ns D (fun i => D i ∨ New e.n e.n' i) s' o ⟨setSlot s'.slots o.dst y, fun i => if i ∈ R ∨ New e.n e.n' i then e.s'.mem i else s'.mem i⟩) ∧ e.n ≤ e.n' ∧ e.s'.slots = setSlot e.s.slots o.dst y ∧ ∀ i, ¬ (i ∈ R ∨ New e.n e.n' i) → e.s'.mem i = e.s.mem i
inductive ChainV (P : Program) (r : Option Nat) (ns : Nat) (ops : Array Oper) : List Oper → List EnV → Nat → St → Nat → St → Prop
  | nil (n s) : ChainV P r ns ops [] [] n s n s
  | cons {o l e es nF sF} : EnVOk P r ns ops o e → ChainV P r ns ops l es e.n' e.s' nF sF → ChainV P r ns ops (o :: l) (e :: es) e.n e.s nF sF
def stV (es : List EnV) (sF : St) (k : Nat) : St := match es[k]? with
  | some e => e.s
  | none => sF
def nV (es : List EnV) (nF : Nat) (k : Nat) : Nat := match es[k]? with
  | some e => e.n
  | none => nF
def kdV (es : List EnV) (k : Nat) : Kd3 := match es[k]? with
  | some e => e.k
  | none => .off
theorem chainV_len {ops : Array Oper} {l : List Oper} {es : List EnV} {n nF : Nat} {s sF : St} (h : ChainV P r ns ops l es n s nF sF) : es.length = l.length := by
  induction h with
  | nil => rfl
  | cons _ _ ih => simp [ih]
theorem chainV_zero {ops : Array Oper} {l : List Oper} {es : List EnV} {n nF : Nat} {s sF : St} (h : ChainV P r ns ops l es n s nF sF) : stV es sF 0 = s ∧ nV es nF 0 = n := by
  cases h with
  | nil => exact ⟨rfl, rfl⟩
  | cons => exact ⟨rfl, rfl⟩
theorem chainV_at {ops : Array Oper} {l : List Oper} {es : List EnV} {n nF : Nat} {s sF : St} (h : ChainV P r ns ops l es n s nF sF) : ∀ (k : Nat) o, l[k]? = some o → ∃ e, es[k]? = some e ∧ EnVOk P r ns ops o e ∧ (stV es sF k = e.s ∧ nV es nF k = e.n) ∧ stV es sF (k + 1) = e.s' ∧ nV es nF (k + 1) = e.n' := by
  induction h with
  | nil => intro k o hk; simp at hk
  | @cons o l e es nF sF he hc ih =>
    intro k o' hk
    match k with
    | 0 =>
      simp only [List.getElem?_cons_zero, Option.some.injEq] at hk
      subst hk
      exact ⟨e, rfl, he, ⟨rfl, rfl⟩, chainV_zero hc⟩
    | k + 1 =>
      obtain ⟨e', h1, h2, h3, h4⟩ := ih k o' (by simpa using hk)
      exact ⟨e', by simpa using h1, h2, h3, h4⟩
theorem chainV_end {ops : Array Oper} {l : List Oper} {es : List EnV} {n nF : Nat} {s sF : St} (h : ChainV P r ns ops l es n s nF sF) : stV es sF l.length = sF ∧ nV es nF l.length = nF := by
  unfold stV nV
  rw [List.getElem?_eq_none (by rw [chainV_len h]; omega)]
  exact ⟨rfl, rfl⟩
def FreeV (a e : EnV) : Prop := (∀ b, ¬ (a.tch b ∧ e.tch b)) ∧ (∀ i ∈ e.reads, ¬ a.tch i) ∧ ∀ i ∈ a.reads, ¬ e.tch i
theorem draw3_V {l : List Oper} {es : List EnV} {n nF : Nat} {s sF : St} (h : ChainV P r ns l.toArray l es n s nF sF) (hst : stOk l.toArray = true) (hp : ∀ i k ei ek, i < k → es[i]? = some ei → es[k]? = some ek → ordB l i k = true ∨ FreeV ei ek) :
    Draw3 P r ns l (stV es sF) (nV es nF) (kdV es) := by
  have hlen := chainV_len h
  have at_ : ∀ (k : Nat), k < l.length → ∃ o e, l[k]? = some o ∧ es[k]? = some e ∧ EnVOk P r ns l.toArray o e ∧ (stV es sF k = e.s ∧ nV es nF k = e.n) ∧ stV es sF (k + 1) = e.s' ∧ nV es nF (k + 1) = e.n' := fun k hk => by
    obtain ⟨e, h1, h2, h3, h4⟩ := chainV_at h k _ (List.getElem?_eq_getElem hk)
    exact ⟨_, e, List.getElem?_eq_getElem hk, h1, h2, h3, h4⟩
  unfold stOk at hst
  rw [Bool.and_eq_true] at hst
  have bitD : ∀ {i k : Nat}, ordB l i k = true → Anc l i k := fun {i k} hb => ancs_ok l [] [] rfl rfl (fun k i hk => by simp at hk) k i hb
  have bit : ∀ {i k b : Nat}, (ancs l [])[k]? = some b → b.testBit i = true → Anc l i k := fun {i k b} hb hbt => bitD (by unfold ordB; rw [List.getD_eq_getElem?_getD, hb]; simpa using hbt)
  have tchV : ∀ k e i, es[k]? = some e → tch (nV es nF) (kdV es) k i → e.tch i := fun k e i he ht => by
    have hk : k < l.length := by rw [← hlen]; exact (List.getElem?_eq_some_iff.1 he).1
    obtain ⟨y, R, hkd, ht⟩ := ht
    obtain ⟨o, e', _, g1, _, g3, g4⟩ := at_ k hk
    rw [he] at g1
    cases g1
    simp only [kdV, he] at hkd
    simp only [New, g3.2, g4.2] at ht
    unfold EnV.tch
    rw [hkd]
    exact ht
  refine ⟨fun k o hk => ?_, fun k hk i hi => ?_, fun k hk => ?_, fun k o hk hd => ?_, fun k o x ids hk hd => ?_, fun k o y R hk hd => ?_, fun i k oi ok t hik hi hk ht => ?_, fun i k b hik hk hi he => ?_⟩
  · obtain ⟨e, g1, g2, g3, g4⟩ := chainV_at h k o hk
    have hk2 := g2.k
    rw [g3.1, g4.1]
    simp only [kdV, g1]
    cases hek : e.k with
    | off => rw [hek] at hk2; rw [hk2.2.2]; rfl
    | pure x ids => rw [hek] at hk2; rw [hk2.2.2.2]; rfl
    | act y R => rw [hek] at hk2; rw [hk2.2.2.2.1]; rfl
  · obtain ⟨o, e, _, g1, g2, g3, g4⟩ := at_ k hk
    have hk2 := g2.k
    rw [g3.1, g4.1]
    cases hek : e.k with
    | off => rw [hek] at hk2; rw [hk2.2.2]
    | pure x ids => rw [hek] at hk2; rw [hk2.2.2.2]
    | act y R =>
      rw [hek] at hk2
      refine hk2.2.2.2.2 i fun hc => hi ⟨y, R, by simp only [kdV, g1, hek], ?_⟩
      simp only [g3.2, g4.2]
      exact hc
  · obtain ⟨o, e, _, g1, g2, g3, g4⟩ := at_ k hk
    have hk2 := g2.k
    rw [g3.2, g4.2]
    cases hek : e.k with
    | off => rw [hek] at hk2; rw [hk2.2.1]; exact Nat.le_refl _
    | pure x ids => rw [hek] at hk2; rw [hk2.2.2.1]; exact Nat.le_refl _
    | act y R => rw [hek] at hk2; exact hk2.2.2.1
  · obtain ⟨e, g1, g2, g3, g4⟩ := chainV_at h k o hk
    simp only [kdV, g1] at hd
    have hk2 := g2.k
    rw [hd] at hk2
    rw [g3.1]
    exact hk2.1
  · obtain ⟨e, g1, g2, g3, g4⟩ := chainV_at h k o hk
    simp only [kdV, g1] at hd
    have hk2 := g2.k
    rw [hd] at hk2
    obtain ⟨j0, hj0⟩ := fresh_nat ids
    have hkl : k < l.length := (List.getElem?_eq_some_iff.1 hk).1
    rw [g3.1]
    refine ⟨hk2.1, j0, fun i hi _ e' he' ht => ?_, fun p _ _ _ D s' hDN hsl hme _ => hk2.2.1 s' D _ hDN hsl fun i hi => hme i hi (Nat.ne_of_lt (hj0 i hi))⟩
    obtain ⟨o', ee, _, q1, _⟩ := at_ e' he'
    have h9 := tchV e' ee i q1 ht
    have hri : i ∈ e.reads := by unfold EnV.reads; rw [hd]; exact hi
    refine ⟨fun hlt => ?_, fun hlt => ?_⟩
    · rcases hp e' k ee e hlt q1 g1 with q | q
      · exact bitD q
      · exact absurd h9 (q.2.1 i hri)
    · rcases hp k e' e ee hlt g1 q1 with q | q
      · exact bitD q
      · exact absurd h9 (q.2.2 i hri)
  · obtain ⟨e, g1, g2, g3, g4⟩ := chainV_at h k o hk
    simp only [kdV, g1] at hd
    have hk2 := g2.k
    rw [hd] at hk2
    rw [g3.1, g3.2, g4.1, g4.2]
    refine ⟨hk2.1, e.rd, fun i hi e' he' hne ht => ?_, fun D s' _ hD hsl hR hI => hk2.2.1 D s' hD hsl hR hI⟩
    obtain ⟨o', ee, _, q1, _⟩ := at_ e' he'
    have h9 := tchV e' ee i q1 ht
    have hri : i ∈ e.reads := by unfold EnV.reads; rw [hd]; exact hi
    refine ⟨fun hlt => ?_, fun hlt => ?_⟩
    · rcases hp e' k ee e hlt q1 g1 with q | q
      · exact bitD q
      · exact absurd h9 (q.2.1 i hri)
    · rcases hp k e' e ee hlt g1 q1 with q | q
      · exact bitD q
      · exact absurd h9 (q.2.2 i hri)
  · have a1 : (l.toArray.toList.map fun o => (maskL (guardSlot l.toArray o ++ slotsOf o.op), maskL o.dst.toList))[i]? = some (maskL (guardSlot l.toArray oi ++ slotsOf oi.op), maskL oi.dst.toList) := by simp [hi]
    have a2 : (l.toArray.toList.map fun o => (maskL (guardSlot l.toArray o ++ slotsOf o.op), maskL o.dst.toList))[k]? = some (maskL (guardSlot l.toArray ok ++ slotsOf ok.op), maskL ok.dst.toList) := by simp [hk]
    obtain ⟨b, hb, h5⟩ := stAll_spec hst.2 (by rw [ancs_len]; simp) i k _ _ hik a1 a2
    rcases h5 with h5 | h6
    · exact bit hb (by simpa using h5)
    · exfalso
      obtain ⟨h7, h8⟩ := or_zero h6
      rcases ht with ⟨ht, h9⟩ | ⟨ht, h9⟩
      · refine and_bit h7 (x := t) (maskL_mem (by simp [ht])) ?_
        rw [Nat.testBit_or, Bool.or_eq_true]
        rcases h9 with h9 | h9 | h9
        · exact .inr (maskL_mem (by simp [h9]))
        · exact .inl (maskL_mem (List.mem_append_left _ h9))
        · exact .inl (maskL_mem (List.mem_append_right _ h9))
      · refine and_bit h8 (x := t) (maskL_mem ?_) (maskL_mem (by simp [ht]))
        rcases h9 with h9 | h9
        · exact List.mem_append_left _ h9
        · exact List.mem_append_right _ h9
  · obtain ⟨o1, e1, _, q1, _⟩ := at_ i (by omega)
    obtain ⟨o2, e2, _, q2, _⟩ := at_ k hk
    rcases hp i k e1 e2 hik q1 q2 with q | q
    · exact bitD q
    · exact absurd ⟨tchV i e1 b q1 hi, tchV k e2 b q2 he⟩ (q.1 b)
structure FtV where
  n : Nat
  n' : Nat
  wr : List Nat
  rd : List Nat
def EnV.wr (e : EnV) : List Nat := match e.k with
  | .act _ R => R
  | _ => []
def EnV.ft (e : EnV) : FtV := ⟨e.n, e.n', e.wr, e.reads⟩
def AllAcc (f : Nat → FtV → Prop) : Nat → List FtV → Prop
  | _, [] => True
  | i, a :: acc => f i a ∧ AllAcc f (i + 1) acc
theorem allAcc_at {f : Nat → FtV → Prop} : ∀ {acc : List FtV} {i : Nat}, AllAcc f i acc → ∀ j a, acc[j]? = some a → f (i + j) a
  | [], i, _, j, a, h => by simp at h
  | a0 :: acc, i, hf, 0, a, h => by simp at h; subst h; exact hf.1
  | a0 :: acc, i, hf, j + 1, a, h => by
    have := allAcc_at hf.2 j a (by simpa using h)
    rwa [show i + 1 + j = i + (j + 1) by omega] at this
def IdOk (l : List Oper) (k n0 : Nat) (acc : List FtV) (id : Nat) : Prop := (id < n0 ∧ AllAcc (fun _ a => id ∉ a.wr) 0 acc) ∨ AllAcc (fun i a => ordB l i k = true ∨ (id ∉ a.wr ∧ ¬ (a.n ≤ id ∧ id < a.n'))) 0 acc
def OkV (l : List Oper) (k n0 : Nat) (acc : List FtV) (e : FtV) : Prop := (∀ id ∈ e.wr ++ e.rd, id < e.n ∧ IdOk l k n0 acc id) ∧ (e.wr = [] ∨ AllAcc (fun i a => ordB l i k = true ∨ ∀ id ∈ e.wr, id ∉ a.rd) 0 acc)
def ExecV (P : Program) (r : Option Nat) (ns : Nat) (l0 : List Oper) (n0 : Nat) : List Oper → Nat → St → List FtV → (Nat → St → Prop) → Prop
  | [], n, s, _, Q => Q n s
  | o :: l, n, s, acc, Q => ∃ e : EnV, e.n = n ∧ e.s = s ∧ EnVOk P r ns l0.toArray o e ∧ OkV l0 acc.length n0 acc e.ft ∧ ExecV P r ns l0 n0 l e.n' e.s' (acc ++ [e.ft]) Q
theorem EnVOk.le {ops : Array Oper} {o : Oper} {e : EnV} (h : EnVOk P r ns ops o e) : e.n ≤ e.n' := by
  have hk := h.k
  cases hek : e.k with
  | off => rw [hek] at hk; rw [hk.2.1]; exact Nat.le_refl _
  | pure x ids => rw [hek] at hk; rw [hk.2.2.1]; exact Nat.le_refl _
  | act y R => rw [hek] at hk; exact hk.2.2.1
theorem tch_iff {e : EnV} {b : Nat} (h : e.tch b) : b ∈ e.wr ∨ (e.n ≤ b ∧ b < e.n') := by
  unfold EnV.tch at h
  unfold EnV.wr
  split at h
  · exact h
  · exact h.elim
theorem free_of {l : List Oper} {k n0 : Nat} {acc : List FtV} {a e : EnV} {i : Nat} (ho : OkV l k n0 acc e.ft) (ha : acc[i]? = some a.ft) (h0 : n0 ≤ a.n) (h1 : a.n' ≤ e.n) (h9 : a.n ≤ a.n') (ht : ∀ id ∈ a.wr ++ a.reads, id < a.n) : ordB l i k = true ∨ FreeV a e := by
  cases hord : ordB l i k with
  | true => exact .inl rfl
  | false =>
    obtain ⟨o1, o2⟩ := ho
    have ids : ∀ id ∈ e.wr ++ e.reads, id ∉ a.wr ∧ ¬ (a.n ≤ id ∧ id < a.n') := fun id hid => by
      obtain ⟨_, q | q⟩ := o1 id hid
      · have h2 : id ∉ a.wr := allAcc_at q.2 i _ ha
        have h3 := q.1
        exact ⟨h2, by omega⟩
      · have := allAcc_at q i _ ha
        rw [Nat.zero_add] at this
        exact this.resolve_left (by rw [hord]; simp)
    refine .inr ⟨fun b ⟨t1, t2⟩ => ?_, fun id hid t1 => ?_, fun id hid t2 => ?_⟩
    · rcases tch_iff t2 with t2 | t2
      · obtain ⟨q1, q2⟩ := ids b (List.mem_append_left _ t2)
        exact (tch_iff t1).elim q1 q2
      · rcases tch_iff t1 with t1 | t1
        · have := ht b (List.mem_append_left _ t1)
          omega
        · omega
    · obtain ⟨q1, q2⟩ := ids id (List.mem_append_right _ hid)
      exact (tch_iff t1).elim q1 q2
    · have h4 := ht id (List.mem_append_right _ hid)
      rcases tch_iff t2 with t2 | t2
      · rcases o2 with o2 | o2
        · have o2 : e.wr = [] := o2
          rw [o2] at t2; cases t2
        · have := allAcc_at o2 i _ ha
          rw [Nat.zero_add] at this
          exact this.resolve_left (by rw [hord]; simp) id t2 hid
      · omega
theorem execV_chain {l0 : List Oper} {n0 : Nat} : ∀ (l : List Oper) (n : Nat) (s : St) (acc : List EnV) {Q : Nat → St → Prop}, (∀ a ∈ acc, n0 ≤ a.n ∧ a.n' ≤ n ∧ a.n ≤ a.n' ∧ ∀ id ∈ a.wr ++ a.reads, id < a.n) → n0 ≤ n → ExecV P r ns l0 n0 l n s (acc.map EnV.ft) Q → ∃ es nF sF, ChainV P r ns l0.toArray l es n s nF sF ∧ Q nF sF ∧ ∀ i k ei ek, i < k → acc.length ≤ k → (acc ++ es)[i]? = some ei → (acc ++ es)[k]? = some ek → ordB l0 i k = true ∨ FreeV ei ek
  | [], n, s, acc, Q, _, _, h => ⟨[], n, s, .nil n s, h, fun i k ei ek _ hk _ h2 => by rw [List.append_nil, List.getElem?_eq_none hk] at h2; cases h2⟩
  | o :: l, n, s, acc, Q, hacc, hn, ⟨e, h1, h2, h3, h4, h5⟩ => by
    subst h1
    subst h2
    have hle := h3.le
    obtain ⟨es, nF, sF, k1, k2, k3⟩ := execV_chain l e.n' e.s' (acc ++ [e]) (fun a ha => by
      rcases List.mem_append.1 ha with ha | ha
      · obtain ⟨q1, q2, q9, q3⟩ := hacc a ha
        exact ⟨q1, Nat.le_trans q2 hle, q9, q3⟩
      · rw [List.mem_singleton] at ha
        subst ha
        exact ⟨hn, Nat.le_refl _, hle, fun id hid => (h4.1 id hid).1⟩) (Nat.le_trans hn hle) (by rw [List.map_append]; exact h5)
    refine ⟨e :: es, nF, sF, .cons h3 k1, k2, fun i k ei ek hik hk hi hke => ?_⟩
    have e1 : acc ++ e :: es = (acc ++ [e]) ++ es := by simp
    rcases Nat.lt_or_ge acc.length k with h | h
    · rw [e1] at hi hke
      exact k3 i k ei ek hik (by simp; omega) hi hke
    · obtain rfl : k = acc.length := by omega
      rw [List.getElem?_append_right (Nat.le_refl _)] at hke
      simp at hke
      subst hke
      rw [List.getElem?_append_left hik] at hi
      obtain ⟨q1, q2, q9, q3⟩ := hacc ei (List.mem_of_getElem? hi)
      rw [List.length_map] at h4
      exact free_of h4 (by rw [List.getElem?_map, hi]; rfl) q1 q2 q9 q3
theorem AWi.drawsV (hm : P.follows .mixedOrders = true) {id : Nat} {l : List Oper} (hst : stOk l.toArray = true) {n : Nat} {s : St} {Q : Post} (h : ExecV P r ns l n l n s [] (fun n' s' => Q .normal n' s')) : AWi P r ns (.region id l.toArray true) n s Q := by
  obtain ⟨es, nF, sF, k1, k2, k3⟩ := execV_chain l n s [] (fun _ h => by cases h) (Nat.le_refl _) h
  have hD := draw3_V k1 hst fun i k ei ek hik hi hk => k3 i k ei ek hik (Nat.zero_le _) hi hk
  have hB : backB l.toArray = true := by unfold stOk at hst; rw [Bool.and_eq_true] at hst; exact hst.1
  have := AWi.drawsI3 (r := r) (id := id) hm hB hD (Q := Q) (by rw [(chainV_end k1).1, (chainV_end k1).2]; exact k2)
  rw [(chainV_zero k1).1, (chainV_zero k1).2] at this
  exact this
end Go.Proofs.Ytdkneonokbakjaa.Eng

noncomputable section
namespace Go.Proofs.Ytdkneonokbakjaa.Eng
open Go.RowKit
variable {P : Program} {T : Tab} {r : Option Nat} {ns : Nat}
def isPure : Op → Bool
  | .box .. | .alloc _ | .buildSlice .. | .makeSlice .. | .store .. => false
  | .call c => match c.callee with
    | .builtin .append => false
    | .builtin _ => true
    | _ => false
  | _ => true
theorem pure_run (hT : TabOk P T) {W0 : Fix} {R0 D : Nat → Prop} {s : St} {E : Env} {a : Act} {w : World} (h : Sim W0 R0 ns D s E a w) {o : Oper} {nid : Nat} {x : SV} (hp : isPure o.op = true) (hs : aop T s.mem nid (opd ns s) o.op = some { res := x }) : ∃ v, (execOp a.eval o).run P w = .ok (.value v) w ∧ Rep E w x v := by
  have hev : ∀ x v, opd ns s x = some v → Rep E w v (a.eval x) := fun x v hx => h.opd hx
  have fin : ∀ {r : SV}, aopR T s.mem (opd ns s) o.op = some r → ({ res := r } : Out) = { res := x } → ∃ v, (execOp a.eval o).run P w = .ok (.value v) w ∧ Rep E w x v := fun {r} hr e => by
    cases e
    exact aopR_run hT hev h.mem hr
  unfold aop at hs
  split at hs
  · rename_i ho; rw [ho] at hp; cases hp
  · rename_i ho; rw [ho] at hp; cases hp
  · rename_i t ps ho
    split at hs
    · rename_i i l hi hl
      split at hs
      · rename_i hkn
        rw [Option.map_eq_some_iff] at hs
        obtain ⟨c, hc, e⟩ := hs
        cases e
        obtain ⟨p1, p2⟩ := evParts_rep (w := w) (E := E) hev hl
        obtain ⟨z, hz, hr⟩ := build_run (w := w) (E := E) hT hi hkn (ps := ps.map fun (i, x) => (i, a.eval x)) (by simpa using p1) (fun j p q hp hq => p2 j p q hp (by simpa using hq)) hc
        exact ⟨z, by simp only [execOp, ho, Sem.run_bind, hz, Result.andThen_ok]; rfl, hr⟩
      · cases hs
    · cases hs
  · rename_i ho; rw [ho] at hp; cases hp
  · rename_i ho; rw [ho] at hp; cases hp
  · rename_i ho; rw [ho] at hp; cases hp
  · rename_i c ho
    split at hs
    · rename_i hc _ _
      rw [ho] at hp
      simp only [isPure, hc] at hp
      cases hp
    · rw [Option.map_eq_some_iff] at hs
      obtain ⟨r, hr, e⟩ := hs
      exact fin (by rw [ho]; exact hr) e
  · rw [Option.map_eq_some_iff] at hs
    obtain ⟨r, hr, e⟩ := hs
    exact fin hr e
section
variable {l0 : List Oper} {n0 : Nat} {o : Oper} {l : List Oper} {n : Nat} {s : St} {acc : List FtV} {Q : Nat → St → Prop}
theorem ExecV.pure (hT : TabOk P T) {x : SV} (hg : guardS l0.toArray ns s o = some true) (hp : isPure o.op = true) (hw : waits o.op = false) (hx : aop T s.mem n (opd ns s) o.op = some { res := x }) (hok : OkV l0 acc.length n0 acc ⟨n, n, [], idsRead s o.op⟩)
    (h : ExecV P r ns l0 n0 l n ⟨setSlot s.slots o.dst x, s.mem⟩ (acc ++ [⟨n, n, [], idsRead s o.op⟩]) Q) : ExecV P r ns l0 n0 (o :: l) n s acc Q :=
  ⟨⟨.pure x (idsRead s o.op), n, s, n, ⟨setSlot s.slots o.dst x, s.mem⟩, []⟩, rfl, rfl, ⟨⟨hg, fun s' D N _ hsl hme => by
    intro W0 R0 B E a w hin hs hd K1 Q' hK1
    have hst := step_local (P := P) ((step_plain (P := P) hw).2 hx) hsl hme (fun _ h => by cases h)
    obtain ⟨v, hr, hv⟩ := pure_run hT hs hp ((step_plain hw).1 hst)
    refine oper_in (noDefer_spec (aop_noDefer hx) List.mem_cons_self) ?_
    unfold Oper.wp
    rw [hr]
    exact hK1 E _ w (hs.put hd hv), rfl, rfl⟩⟩, hok, h⟩
open Classical in
theorem ExecV.new (hT : TabOk P T) {y : SV} {b : Blk} (hg : guardS l0.toArray ns s o = some true) (hw : waits o.op = false) (hx : aop T s.mem n (opd ns s) o.op = some { res := y, nw := some b }) (hok : OkV l0 acc.length n0 acc ⟨n, n + 1, [], idsRead s o.op⟩)
    (h : ExecV P r ns l0 n0 l (n + 1) ⟨setSlot s.slots o.dst y, setMem s.mem n (some b)⟩ (acc ++ [⟨n, n + 1, [], idsRead s o.op⟩]) Q) : ExecV P r ns l0 n0 (o :: l) n s acc Q :=
  ⟨⟨.act y [], n, s, n + 1, ⟨setSlot s.slots o.dst y, setMem s.mem n (some b)⟩, idsRead s o.op⟩, rfl, rfl, ⟨⟨hg, fun D s' hD hsl _ hrd => by
    intro W0 R0 B E a w hin hs hd K1 Q' hK1
    have hst := step_local (P := P) ((step_plain (P := P) hw).2 hx) hsl hrd (fun _ h => by cases h)
    have hDn : ¬ D n := fun h => hD n h ⟨Nat.le_refl _, Nat.lt_succ_self _⟩
    obtain ⟨E', w', h2, h3⟩ := aop_run hT hs hDn ((step_plain hw).1 hst)
    have hm : (fun i => if i ∈ ([] : List Nat) ∨ New n (n + 1) i then setMem s.mem n (some b) i else s'.mem i) = setMem s'.mem n (some b) := by
      funext i
      by_cases e : i = n
      · subst e; rw [if_pos (.inr ⟨Nat.le_refl _, Nat.lt_succ_self _⟩)]; simp [setMem]
      · rw [if_neg (fun h => h.elim (by simp) fun h => e (by have := h.1; have := h.2; omega))]; simp [setMem, e]
    have h4 : Sim W0 R0 ns (fun i => D i ∨ New n (n + 1) i) ⟨s'.slots, setMem s'.mem n (some b)⟩ E' a w' := h2.weak fun i hi => hi.elim (fun e => .inr (by subst e; exact ⟨Nat.le_refl _, Nat.lt_succ_self _⟩)) .inl
    refine oper_in (noDefer_spec (aop_noDefer hx) List.mem_cons_self) ?_
    unfold Oper.wp
    rcases h3 with ⟨v, hr, hv⟩ | ⟨hr, hu⟩
    · rw [hr]
      refine hK1 E' _ w' ?_
      rw [hm]
      exact h4.put hd hv
    · rw [hr]
      refine hK1 E' _ w' ?_
      rw [hm]
      have hu : y = .und := hu
      subst hu
      exact h4.put hd (Rep.und (E := E') (w := w') undef), Nat.le_succ _, rfl, fun i hi => by
    have e : ¬ i = n := fun e => hi (.inr (by subst e; exact ⟨Nat.le_refl _, Nat.lt_succ_self _⟩))
    simp [setMem, e]⟩⟩, hok, h⟩
open Classical in
theorem ExecV.store (hT : TabOk P T) {t : TypeId} {x y : Operand} {id : Nat} {b : Option Blk} (ho : o.op = .store t x y) (hg : guardS l0.toArray ns s o = some true) (hx : aop T s.mem n (opd ns s) o.op = some { res := .und, wr := some (id, b) }) (hok : OkV l0 acc.length n0 acc ⟨n, n, [id], idsRead s o.op⟩)
    (h : ExecV P r ns l0 n0 l n ⟨setSlot s.slots o.dst .und, setMem s.mem id b⟩ (acc ++ [⟨n, n, [id], idsRead s o.op⟩]) Q) : ExecV P r ns l0 n0 (o :: l) n s acc Q :=
  ⟨⟨.act .und [id], n, s, n, ⟨setSlot s.slots o.dst .und, setMem s.mem id b⟩, idsRead s o.op⟩, rfl, rfl, ⟨⟨hg, fun D s' hD hsl _ hrd => by
    intro W0 R0 B E a w hin hs hd K1 Q' hK1
    have hw : waits o.op = false := by rw [ho]; rfl
    have hst := step_local (P := P) ((step_plain (P := P) hw).2 hx) hsl hrd (fun _ h => by cases h)
    have hx' := (step_plain (P := P) hw).1 hst
    rw [ho] at hx'
    simp only [aop] at hx'
    split at hx'
    · rename_i i id' rr j v hi h1 h2
      have hr1 := hs.opd h1
      have hD1 : D id' := by
        obtain ⟨u, hu⟩ : ∃ u, a.eval x = u := ⟨_, rfl⟩
        rw [hu] at hr1
        cases hr1 with
        | ptr _ _ _ hd => exact hs.dom _ hd
      obtain ⟨E', w', q2, q3⟩ := store_run (nid := id') hT hs ho hi hr1 (hs.opd h2) hx'
      have hm : (fun i => if i ∈ [id] ∨ New n n i then setMem s.mem id b i else s'.mem i) = setMem s'.mem id b := by
        funext i
        by_cases e : i = id
        · subst e; rw [if_pos (.inl List.mem_cons_self)]; simp [setMem]
        · rw [if_neg (fun h => h.elim (fun h => e (List.mem_singleton.1 h)) fun h => by have := h.1; have := h.2; omega)]; simp [setMem, e]
      have q4 : Sim W0 R0 ns (fun i => D i ∨ New n n i) ⟨s'.slots, setMem s'.mem id b⟩ E' a w' := q2.weak fun i hi => hi.elim (fun e => .inl (e ▸ hD1)) .inl
      refine oper_in (noDefer_spec (aop_noDefer hx) List.mem_cons_self) ?_
      unfold Oper.wp
      rcases q3 with ⟨v, hr, hv⟩ | ⟨hr, hu⟩
      · rw [hr]
        refine hK1 E' _ w' ?_
        rw [hm]
        exact q4.put hd hv
      · rw [hr]
        refine hK1 E' _ w' ?_
        rw [hm]
        exact q4.put hd (Rep.und (E := E') (w := w') undef)
    · exact (by cases hx'), Nat.le_refl _, rfl, fun i hi => by
    have e : ¬ i = id := fun e => hi (.inl (by subst e; exact List.mem_cons_self))
    simp [setMem, e]⟩⟩, hok, h⟩
theorem ExecV.ro {f : FuncId} {svs : List SV} {d : Dat} {x : SV} (rds : List Nat) (hc : RCall P f svs d (only s.mem rds)) (hxd : toD3 x = some d) (hg : guardS l0.toArray ns s o = some true) (h1 : calleeS ns s o.op = some (f, svs)) (hok : OkV l0 acc.length n0 acc ⟨n, n, [], rds⟩)
    (h : ExecV P r ns l0 n0 l n ⟨setSlot s.slots o.dst x, s.mem⟩ (acc ++ [⟨n, n, [], rds⟩]) Q) : ExecV P r ns l0 n0 (o :: l) n s acc Q :=
  ⟨⟨.pure x rds, n, s, n, ⟨setSlot s.slots o.dst x, s.mem⟩, []⟩, rfl, rfl, ⟨⟨hg, fun s' D N hD hsl hme => stepD_ro hc hD (by
    rw [← h1]
    exact calleeS_congr fun x hx => opd_congr fun t ht => hsl t (mem_slotsOf (ht ▸ hx))) (fun i b hb => by
    unfold only at hb
    split at hb
    · rename_i hm
      exact (hme i hm).trans hb
    · cases hb) hxd, rfl, rfl⟩⟩, hok, h⟩
open Classical in
theorem ExecV.calln {f : FuncId} {svs : List SV} {y : SV} {mq m' : Mem} {n' : Nat} (rds : List Nat) (hc : NCall P f svs (only s.mem rds) n n' y mq) (hn : n ≤ n') (hr : ∀ i ∈ rds, (s.mem i).isSome = true ∧ mq i = s.mem i) (hm : ∀ i, (New n n' i → m' i = mq i) ∧ (¬ New n n' i → m' i = s.mem i)) (hg : guardS l0.toArray ns s o = some true) (h1 : calleeS ns s o.op = some (f, svs)) (hok : OkV l0 acc.length n0 acc ⟨n, n', [], rds⟩)
    (h : ExecV P r ns l0 n0 l n' ⟨setSlot s.slots o.dst y, m'⟩ (acc ++ [⟨n, n', [], rds⟩]) Q) : ExecV P r ns l0 n0 (o :: l) n s acc Q :=
  ⟨⟨.act y [], n, s, n', ⟨setSlot s.slots o.dst y, m'⟩, rds⟩, rfl, rfl, ⟨⟨hg, fun D s' hD hsl _ hrd => by
    have hs := stepD_call (r := r) (ns := ns) hc (D := D) (s' := s') (o := o) hD (by
      rw [← h1]
      exact calleeS_congr fun x hx => opd_congr fun t ht => hsl t (mem_slotsOf (ht ▸ hx))) (fun i b hb => by
      unfold only at hb
      split at hb
      · rename_i hm
        exact (hrd i hm).trans hb
      · cases hb)
    have e : behind s'.mem (only s.mem rds) mq n n' = fun i => if i ∈ ([] : List Nat) ∨ New n n' i then m' i else s'.mem i := by
      funext i
      unfold behind
      by_cases hw : New n n' i
      · rw [if_pos (.inr hw), if_pos (.inr hw), (hm i).1 hw]
      · rw [if_neg (show ¬ (i ∈ ([] : List Nat) ∨ New n n' i) from fun h => h.elim (by simp) hw)]
        by_cases hi : i ∈ rds
        · rw [if_pos (.inl (by simp only [only, if_pos hi]; exact (hr i hi).1)), (hr i hi).2]
          exact (hrd i hi).symm
        · rw [if_neg (fun h => h.elim (by simp [only, hi]) hw)]
    rw [e] at hs
    exact hs, hn, rfl, fun i hi => (hm i).2 fun h => hi (.inr h)⟩⟩, hok, h⟩
theorem ExecV.off (hg : guardS l0.toArray ns s o = some false) (h : ExecV P r ns l0 n0 l n ⟨setSlot s.slots o.dst (.tup []), s.mem⟩ (acc ++ [⟨n, n, [], []⟩]) Q) : ExecV P r ns l0 n0 (o :: l) n s acc Q :=
  ⟨⟨.off, n, s, n, ⟨setSlot s.slots o.dst (.tup []), s.mem⟩, []⟩, rfl, rfl, ⟨⟨hg, rfl, rfl⟩⟩, ⟨fun _ h => (by cases h), .inl rfl⟩, h⟩
end
end Go.Proofs.Ytdkneonokbakjaa.Eng

noncomputable section
namespace Go.Proofs.Ytdkneonokbakjaa.Eng
open Go.RowKit
variable {P : Program} {T : Tab} {r : Option Nat} {ns : Nat}
theorem RCall.ofA {f : FuncId} {ds : List Dat} {d : Dat} (h : ACall P f ds d) {svs : List SV} (hs : mapO toD3 svs = some ds) (m : Nat → Option Blk) : RCall P f svs d m :=
  ⟨h.callable, fun W0 R0 D N E w vs hD M h1 h2 => by
    obtain ⟨hlen, hget⟩ := mapO_get hs
    refine (h.calls E.ro w vs M.rlt (by rw [h1, hlen]) fun i d v hd hv => ?_).mono ?_
    · have hi : i < svs.length := by rw [← hlen]; exact (List.getElem?_eq_some_iff.1 hd).1
      obtain ⟨y, q1, q2⟩ := hget i _ (List.getElem?_eq_getElem hi)
      rw [hd] at q1
      cases q1
      cases (toD3_rep q2).1 (h2 i _ v (List.getElem?_eq_getElem hi) hv) with | d _ _ h => exact h
    · rintro e w' ⟨v, rfl, hb, hr⟩
      let E2 : Env := { E with ro := fun b => E.ro b ∨ (w.heap.size ≤ b ∧ b < w'.heap.size) }
      have hE : E.le E2 := ⟨fun _ h => .inl h, fun _ h => h, fun _ _ => rfl⟩
      have hw : ∀ b, E.ro b → w'.heap[b]? = w.heap[b]? := fun b hb' => hb.block b (M.rlt b hb')
      refine ⟨v, E2, rfl, ⟨M.below.trans (kept_of hb fun b hu => Nat.lt_of_lt_of_le (W0.lt b hu) M.below.size), fun b hb => .inl (M.ro0 b hb), fun b hb' => ?_, fun b hb' => ?_, M.dom, M.live, fun i b hi => (M.mem i b hi).keep hE hw (hb.block _ (M.mem i b hi).lt), M.base, fun i b hi => ?_, M.inj⟩, hE, hw, .d _ _ hr⟩
      · rcases hb' with h | h
        · exact M.ro1 b h
        · exact .inr fun hu => by have := W0.lt b hu; have := M.below.size; omega
      · rcases hb' with h | h
        · exact Nat.lt_of_lt_of_le (M.rlt b h) (kept_of (U := fun _ => False) hb fun _ h => h.elim).size
        · exact h.2
      · refine (M.frz i b hi).trans ⟨.inl, fun h => h.elim id fun h => ?_⟩
        have h5 : (E.home i).blk < w.heap.size := (M.mem i b hi).lt
        have h6 : w.heap.size ≤ (E.home i).blk := h.1
        omega⟩
def kindV (op : Op) (out : Out) (Kp : SV → Prop) (Kn : SV → Blk → Prop) (Ks : Nat → Option Blk → Prop) : Prop :=
  match isPure op, out.frz, out.wr, out.nw, out.rds with
  | true, [], none, none, [] => Kp out.res
  | false, [], none, some b, [] => Kn out.res b
  | false, [], some (id, b), none, [] => (out.res = .und ∧ ∃ t x y, op = .store t x y) ∧ Ks id b
  | _, _, _, _, _ => False
section
variable {l0 : List Oper} {n0 : Nat} {o : Oper} {l : List Oper} {n : Nat} {s : St} {acc : List FtV} {Q : Nat → St → Prop}
def ExecVW (P : Program) (r : Option Nat) (ns : Nat) (l0 : List Oper) (n0 : Nat) (l : List Oper) (n : Nat) (s : St) (acc : List FtV) (Q : Nat → St → Prop) : Prop := ExecV P r ns l0 n0 l n s acc Q
theorem ExecV.auto (hT : TabOk P T) (h : match guardS l0.toArray ns s o, waits o.op with
    | some true, false => match aop T s.mem n (opd ns s) o.op with
      | some out => kindV o.op out
          (fun x => OkV l0 acc.length n0 acc ⟨n, n, [], idsRead s o.op⟩ ∧ ExecV P r ns l0 n0 l n ⟨setSlot s.slots o.dst x, s.mem⟩ (acc ++ [⟨n, n, [], idsRead s o.op⟩]) Q)
          (fun y b => OkV l0 acc.length n0 acc ⟨n, n + 1, [], idsRead s o.op⟩ ∧ ExecV P r ns l0 n0 l (n + 1) ⟨setSlot s.slots o.dst y, setMem s.mem n (some b)⟩ (acc ++ [⟨n, n + 1, [], idsRead s o.op⟩]) Q)
          (fun id b => OkV l0 acc.length n0 acc ⟨n, n, [id], idsRead s o.op⟩ ∧ ExecV P r ns l0 n0 l n ⟨setSlot s.slots o.dst .und, setMem s.mem id b⟩ (acc ++ [⟨n, n, [id], idsRead s o.op⟩]) Q)
      | none => False
    | some false, _ => ExecV P r ns l0 n0 l n ⟨setSlot s.slots o.dst (.tup []), s.mem⟩ (acc ++ [⟨n, n, [], []⟩]) Q
    | _, _ => ExecVW P r ns l0 n0 (o :: l) n s acc Q) : ExecV P r ns l0 n0 (o :: l) n s acc Q := by
  split at h
  · rename_i hg hw
    split at h
    · rename_i out hx
      obtain ⟨res, frz, wr, nw, rds⟩ := out
      unfold kindV at h
      split at h
      · rename_i hp h1 h2 h3 h4
        simp only at h1 h2 h3 h4
        subst h1; subst h2; subst h3; subst h4
        exact ExecV.pure hT hg hp hw hx h.1 h.2
      · rename_i b hp h1 h2 h3 h4
        simp only at h1 h2 h3 h4
        subst h1; subst h2; subst h3; subst h4
        exact ExecV.new hT hg hw hx h.1 h.2
      · rename_i id b hp h1 h2 h3 h4
        simp only at h1 h2 h3 h4
        subst h1; subst h2; subst h3; subst h4
        obtain ⟨⟨hu, t, x, y, ho⟩, h5, h6⟩ := h
        have hu : res = .und := hu
        subst hu
        exact ExecV.store hT ho hg hx h5 h6
      · exact h.elim
    · exact h.elim
  · rename_i hg; exact ExecV.off hg h
  · exact h
@[simp] theorem OkV_nil {k n' : Nat} : OkV l0 k n0 acc ⟨n, n', [], []⟩ = True := by
  simp only [eq_iff_iff, iff_true]
  exact ⟨fun _ h => (by cases h), .inl rfl⟩
theorem OkV_old {k n' : Nat} {rd : List Nat} (h1 : ∀ id ∈ rd, id < n0) (hn : n0 ≤ n) (h2 : AllAcc (fun _ a => a.wr = []) 0 acc) : OkV l0 k n0 acc ⟨n, n', [], rd⟩ := by
  refine ⟨fun id hid => ?_, .inl rfl⟩
  have h3 := h1 id (by simpa using hid)
  refine ⟨Nat.lt_of_lt_of_le h3 hn, .inl ⟨h3, ?_⟩⟩
  have gen : ∀ (l : List FtV) (i : Nat), AllAcc (fun _ a => a.wr = []) i l → AllAcc (fun _ a => id ∉ a.wr) i l := by
    intro l
    induction l with
    | nil => intro i _; trivial
    | cons a l ih => intro i h; exact ⟨by have h1 : a.wr = [] := h.1; show id ∉ a.wr; rw [h1]; simp, ih _ h.2⟩
  exact gen acc 0 h2
def putN (m : Mem) (n n' : Nat) (q : Mem) : Mem := fun i => if n ≤ i ∧ i < n' then q i else m i
@[simp] theorem putN_at {m q : Mem} {n n' i : Nat} : putN m n n' q i = if n ≤ i ∧ i < n' then q i else m i := rfl
open Classical in
theorem ExecV.callP {f : FuncId} {svs : List SV} {y : SV} {mq : Mem} {n' : Nat} (rds : List Nat) (hc : NCall P f svs (only s.mem rds) n n' y mq) (hn : n ≤ n') (hr : ∀ i ∈ rds, (s.mem i).isSome = true ∧ mq i = s.mem i) (hg : guardS l0.toArray ns s o = some true) (h1 : calleeS ns s o.op = some (f, svs)) (hok : OkV l0 acc.length n0 acc ⟨n, n', [], rds⟩)
    (h : ExecV P r ns l0 n0 l n' ⟨setSlot s.slots o.dst y, putN s.mem n n' mq⟩ (acc ++ [⟨n, n', [], rds⟩]) Q) : ExecV P r ns l0 n0 (o :: l) n s acc Q :=
  ExecV.calln rds hc hn hr (fun i => ⟨fun hi => if_pos ⟨hi.1, hi.2⟩, fun hi => if_neg fun h => hi ⟨h.1, h.2⟩⟩) hg h1 hok h
end
theorem RCall.cwp {f : FuncId} {svs : List SV} {d : Dat} {m0 m : Mem} (h : RCall P f svs d m0) (hm : ∀ i b, m0 i = some b → m i = some b) {x : SV} (hx : toD3 x = some d) (n : Nat) : CWp P f svs n m fun y n' m' => y = x ∧ n' = n ∧ m' = m :=
  ⟨h.callable, fun W0 R0 E w vs M k1 k2 => by
    refine ((h.more hm).calls W0 R0 (· < n) n E w vs (fun _ h => h) M k1 k2).mono ?_
    rintro e w' ⟨v, E', rfl, M', hE, hw, hv⟩
    exact ⟨v, E', n, m, x, rfl, M', hE, hw, (toD3_rep hx).2 hv, rfl, rfl, rfl⟩⟩
theorem NCall.of {f : FuncId} {svs : List SV} {n : Nat} {m0 : Mem} {n1 : Nat} {y0 : SV} {mq : Mem} (h : CWp P f svs n m0 fun y n' m' => y0 = y ∧ n1 = n' ∧ mq = m') (hlt : ∀ i b, m0 i = some b → i < n) (hm0 : ∀ i b, m0 i = some b → OfB (fun i => (m0 i).isSome = true) b) (hargs : ∀ x ∈ svs, Of (fun i => (m0 i).isSome = true) x)
    (hq : ∀ i b, mq i = some b → ((m0 i).isSome = true ∨ New n n1 i) ∧ OfB (fun i => (m0 i).isSome = true ∨ New n n1 i) b) (hy : Of (fun i => (m0 i).isSome = true ∨ New n n1 i) y0) : NCall P f svs m0 n n1 y0 mq := ncall_ofM h hlt hm0 hargs hq hy
end Go.Proofs.Ytdkneonokbakjaa.Eng

noncomputable section
namespace Go.Proofs.Ytdkneonokbakjaa.Eng
open Go.RowKit
variable {P : Program} {T : Tab} {r : Option Nat} {ns : Nat}
section
variable {F : Fence} {n : Nat} {ops : Array Oper} {Q Qh : Exit → Act → World → Prop}
theorem wpIn_from {o : Oper} {a : Act} {w : World} {K : Act → World → Prop} (h0 : ∀ e a w, Qh e a w → e = .normal) (hh : o.wpIn F n P a w K Qh) : o.wpIn F n P a w K Q := by
  unfold Oper.wpIn at *
  refine ⟨hh.1, ?_⟩
  have hh := hh.2
  have no : ∀ c a w, ¬ Qh (.panic c) a w := fun c a w h => by cases h0 _ _ _ h
  generalize (o.semAt F.round a.eval).run P w = r at *
  cases r with
  | ok x w' =>
    cases x <;> simp only [Oper.uponIn] at hh ⊢ <;>
      first
        | exact hh
        | exact ⟨hh.1, CallsIn.mono hh.2 (fun e w'' he => by cases e <;> first | exact he | exact absurd he (no _ _ _) | (obtain ⟨_, _, hx⟩ := he; cases h0 _ _ _ hx))⟩
        | exact ⟨hh.1, RoundIn.mono hh.2 (fun e w'' he => by cases e <;> first | exact he | exact absurd he (no _ _ _) | (obtain ⟨_, _, hx⟩ := he; cases h0 _ _ _ hx))⟩
  | halt x w' => cases x <;> simp only [Oper.uponIn] at hh ⊢ <;> first | exact hh | exact absurd hh (no _ _ _)
theorem wpAnyIn_more : ∀ (f k : Nat) (L : Array Bool) (a : Act) (w : World), wpAnyIn F n P .any ops Q f L a w → wpAnyIn F n P .any ops Q (f + k) L a w
  | 0, 0, _, _, _, h => h
  | 0, k + 1, L, a, w, h => by
    rw [show 0 + (k + 1) = k + 1 by omega]
    exact ⟨fun _ => h.2, fun i hi => by rw [h.1] at hi; cases hi⟩
  | f + 1, k, L, a, w, h => by
    rw [show f + 1 + k = (f + k) + 1 by omega]
    exact ⟨h.1, fun i hi => wpOpIn_mono (fun a w h => wpAnyIn_more f k _ a w h) (h.2 i hi)⟩
theorem wpAnyIn_seq : ∀ (l : List Oper) (k : Nat) (L : Array Bool) (a : Act) (w : World), (∀ j, l[j]? = ops[k + j]?) →
    Region.seqB .any ops l.length k L = true → wpListIn F n P ops Q l a w → wpAnyIn F n P .any ops Q l.length L a w
  | [], _, _, _, _, _, hB, h => ⟨by simpa [Region.seqB] using hB, h⟩
  | o :: l, k, L, a, w, hl, hB, h => by
    have h0 : ops[k]? = some o := by simpa using (hl 0).symm
    simp only [List.length_cons, Region.seqB, Bool.and_eq_true, decide_eq_true_eq] at hB
    refine ⟨fun h1 => (by rw [hB.1] at h1; cases h1), fun i hi => ?_⟩
    rw [hB.1] at hi
    have hik : i = k := by simpa using hi
    subst hik
    have hw : wpOpIn F n P ops Q i (wpListIn F n P ops Q l) a w := by unfold wpOpIn; simp only [h0]; exact h
    exact wpOpIn_mono (fun a' w' h' => wpAnyIn_seq l (i + 1) _ a' w' (fun j => by have := hl (j + 1); simpa [Nat.add_assoc, Nat.add_comm 1 j] using this) hB.2 h') hw
end
def headB (l : List Oper) (n : Nat) : Bool := backB (l.take n).toArray && ((l.take n).all fun o => match o.guard with
  | some (g, _) => decide (g < n)
  | none => true) && decide (n < l.length)
def listedTo (len n : Nat) : Array Bool := ((List.range len).map fun i => decide (i < n)).toArray
def tailB (l : List Oper) (n : Nat) : Bool := headB l n && (Region.sinkB .any l.toArray n && (Region.chainB .any l.toArray n && Region.seqB .any l.toArray (l.length - n) n (listedTo l.length n)))
section
variable {F : Fence} {j n : Nat} {l : List Oper} {Q Qh : Exit → Act → World → Prop}
theorem take_at (l : List Oper) {n i : Nat} (h : i < n) : (l.take n).toArray[i]? = l.toArray[i]? := by simp [h]
theorem yielded_take (l : List Oper) {n g : Nat} (h : g < n) (tmps : Array Value) : yielded (l.take n).toArray tmps g = yielded l.toArray tmps g := by
  unfold yielded
  rw [take_at l h]
theorem ready_head (hB : headB l n = true) {L L' : Array Bool} (hL : ∀ i, i < n → L'.getD i true = L.getD i true) (hL2 : ∀ i, i < n → L'.getD i false = L.getD i false) {i : Nat} (hi : i < n) : i ∈ Region.ready .any l.toArray L' ↔ i ∈ Region.ready .any (l.take n).toArray L := by
  simp only [headB, Bool.and_eq_true, decide_eq_true_eq] at hB
  rw [mem_ready, mem_ready, hL i hi, take_at l hi]
  refine and_congr_right fun _ => exists_congr fun o => and_congr_right fun ho => forall_congr' fun e => forall_congr' fun he => forall_congr' fun hb => ?_
  have hlt : e.on < i := by
    have := hB.1.1
    unfold backB at this
    rw [List.all_eq_true] at this
    have h2 := this i (by rw [List.mem_range]; simp; omega)
    rw [take_at l hi, ho] at h2
    simp only [Option.map_some, Option.getD_some, Array.all_eq_true'] at h2
    have h3 := h2 e he
    rw [hb] at h3
    simpa using h3
  rw [hL2 e.on (by omega)]
theorem wpAnyIn_tail (hB : tailB l n = true) (h0 : ∀ e a w, Qh e a w → e = .normal) (hT : ∀ a w, Qh .normal a w → wpListIn F j P l.toArray Q (l.drop n) a w) :
    ∀ (f : Nat) (L L' : Array Bool) (a : Act) (w : World), L.size = n → HeadInv .any l.toArray n L' → (∀ i, i < n → L'.getD i true = L.getD i true) → (∀ i, i < n → L'.getD i false = L.getD i false) →
      wpAnyIn F j P .any (l.take n).toArray Qh f L a w → wpAnyIn F j P .any l.toArray Q (f + (l.length - n)) L' a w := by
  have hB' := hB
  simp only [tailB, Bool.and_eq_true] at hB'
  obtain ⟨hh, hs, hc, hq⟩ := hB'
  have hh' := hh
  simp only [headB, Bool.and_eq_true, decide_eq_true_eq] at hh'
  obtain ⟨⟨hback, hgd⟩, hn⟩ := hh'
  have hsz : (l.take n).toArray.size = n := by simp; omega
  have done : ∀ (L L' : Array Bool) (a : Act) (w : World), L.size = n → HeadInv .any l.toArray n L' → (∀ i, i < n → L'.getD i true = L.getD i true) → Region.ready .any (l.take n).toArray L = [] → Qh .normal a w → wpAnyIn F j P .any l.toArray Q (l.length - n) L' a w := by
    intro L L' a w hLs inv hL hr hQ
    have hall := all_listed (ops := (l.take n).toArray) (listed := L) (by rw [hLs, hsz]) hback hr
    have hL' : L' = listedTo l.length n := by
      apply Array.ext
      · rw [inv.size]; simp [listedTo]
      · intro i h1 h2
        have hsz' : i < l.length := by have := inv.size; simp at this; omega
        have e1 : L'.getD i true = L'[i] := by simp [Array.getD, h1]
        rw [← e1]
        by_cases hi : i < n
        · rw [hL i hi, hall i (by rw [hsz]; exact hi)]
          simp [listedTo, hi]
        · rw [inv.tail i (by omega) (by simpa using hsz')]
          simp [listedTo, hi]
    have hd : (l.drop n).length = l.length - n := by simp
    have := wpAnyIn_seq (F := F) (n := j) (P := P) (ops := l.toArray) (Q := Q) (l.drop n) n L' a w (fun i => by simp [List.getElem?_drop]) (by rw [hd, hL']; exact hq) (hT a w hQ)
    rwa [hd] at this
  intro f
  induction f with
  | zero =>
    intro L L' a w hLs inv hL hL2 h
    rw [Nat.zero_add]
    exact done L L' a w hLs inv hL h.1 h.2
  | succ f ih =>
    intro L L' a w hLs inv hL hL2 h
    by_cases hr : Region.ready .any (l.take n).toArray L = []
    · have := wpAnyIn_more _ (f + 1) _ _ _ (done L L' a w hLs inv hL hr (h.1 hr))
      rwa [Nat.add_comm] at this
    rw [show f + 1 + (l.length - n) = (f + (l.length - n)) + 1 by omega]
    obtain ⟨i0, hi0⟩ := List.exists_mem_of_ne_nil _ hr
    have hi0n : i0 < n := by
      obtain ⟨_, o, ho, _⟩ := mem_ready.1 hi0
      have := (Array.getElem?_eq_some_iff.1 ho).1
      rw [hsz] at this
      exact this
    have hun : L'.getD i0 true = false := by rw [hL i0 hi0n]; exact (mem_ready.1 hi0).1
    refine ⟨fun h1 => ?_, fun i hi => ?_⟩
    · have := (ready_head hh hL hL2 hi0n).2 hi0
      rw [h1] at this
      cases this
    · have hin : i < n := by
        rcases Nat.lt_or_ge i n with h2 | h2
        · exact h2
        · exact absurd hi (tail_waits hs hc (by simpa using hn) inv _ i0 rfl hi0n hun i h2)
      have hi2 := (ready_head hh hL hL2 hin).1 hi
      have hw := h.2 i hi2
      unfold wpOpIn at hw ⊢
      rw [take_at l hin] at hw
      have hset : ∀ k b, k < n → (L'.setIfInBounds i true).getD k b = (L.setIfInBounds i true).getD k b := fun k b hk => by
        by_cases hki : k = i
        · subst hki
          have h3 : k < L'.size := by rw [inv.size]; simp; omega
          simp [h3, hLs, hk]
        · rw [getD_set_ne b (Ne.symm hki), getD_set_ne b (Ne.symm hki)]
          cases b
          · exact hL2 k hk
          · exact hL k hk
      have hK : ∀ a w, wpAnyIn F j P .any (l.take n).toArray Qh f (L.setIfInBounds i true) a w → wpAnyIn F j P .any l.toArray Q (f + (l.length - n)) (L'.setIfInBounds i true) a w :=
        fun a w h => ih _ _ a w (by simp [hLs]) (inv.set hi hin) (fun k hk => hset k true hk) (fun k hk => hset k false hk) h
      split
      · rename_i ho
        rw [ho] at hw
        exact hK _ _ hw
      · rename_i o ho
        simp only [ho] at hw
        have hwant : Region.wanted o (yielded (l.take n).toArray a.tmps) = Region.wanted o (yielded l.toArray a.tmps) := by
          unfold Region.wanted
          have hmem : o ∈ l.take n := by
            have := take_at l hin
            rw [ho] at this
            exact List.mem_of_getElem? (by simpa using this)
          have hgo := List.all_eq_true.1 hgd o hmem
          cases hg : o.guard with
          | none => rfl
          | some q =>
            obtain ⟨g, b⟩ := q
            rw [hg] at hgo
            simp only [decide_eq_true_eq] at hgo
            simp only [yielded_take l hgo]
        rw [hwant] at hw
        split
        · rename_i hc
          rw [if_pos hc] at hw
          exact wpIn_from h0 (Oper.wpIn_mono hK hw)
        · rename_i hc
          rw [if_neg hc] at hw
          exact ⟨hw.1, hK _ _ hw.2⟩
end
theorem drawsT_core (hm : P.follows .mixedOrders = true) {id : Nat} {l : List Oper} {n : Nat} (hBk : backB (l.take n).toArray = true) (hB : tailB l n = true) {st : Nat → St} {N : Nat → Nat} {kd : Nat → Kd3} (hD : Draw3 P r ns (l.take n) st N kd) {Q : Post}
    {W0 : Fix} {R0 : Nat → Prop} {B : Nat} {E : Env} {a : Act} {w : World} (hi : InAct r W0 R0 B) (hs : Sim W0 R0 ns (· < N 0) (st 0) E a w)
    (hT : ∀ E' a' w', Sim W0 R0 ns (· < N (l.take n).length) (st (l.take n).length) E' a' w' → wpListIn (fen (rOf W0 r)) 0 P l.toArray (fun e a' w' => ∃ n' s' E' W1, Ext W0 W1 ∧ InAct r W1 R0 B ∧ Sim W1 R0 ns (· < n') s' E' a' w' ∧ Q e n' s') (l.drop n) a' w') :
    (Code.region id l.toArray true).wpIn (fen (rOf W0 r)) 0 P (fun e a' w' => ∃ n' s' E' W1, Ext W0 W1 ∧ InAct r W1 R0 B ∧ Sim W1 R0 ns (· < n') s' E' a' w' ∧ Q e n' s') a w := by
  have h1 := draw_any3 hBk hD hi (E := E) (a := a) hs.drew (Q := fun e a' w' => e = .normal ∧ ∃ E', Sim W0 R0 ns (· < N (l.take n).length) (st (l.take n).length) E' a' w') (fun E' a' w' h => ⟨rfl, E', h⟩)
  refine wpIn_region_any hm ?_
  have hn : n < l.length := by
    simp only [tailB, headB, Bool.and_eq_true, decide_eq_true_eq] at hB
    exact hB.1.2
  have hsz : (l.take n).toArray.size = n := by simp; omega
  rw [hsz] at h1
  have h2 := wpAnyIn_tail (j := 0) (Q := fun e a' w' => ∃ n' s' E' W', Ext W0 W' ∧ InAct r W' R0 B ∧ Sim W' R0 ns (· < n') s' E' a' w' ∧ Q e n' s') hB (fun e a w h => h.1) (fun a' w' ⟨_, E', h⟩ => hT E' a' w' h) n (Array.replicate n false) (Array.replicate l.length false) a _ (by simp)
    ⟨by simp, fun j oj _ hl => (by rw [getD_replicate_false] at hl; cases hl), fun t _ ht => getD_in (by simpa using ht) (getD_replicate_false _ _)⟩ (fun i hi => by simp [hi, show i < l.length by omega]) (fun i hi => by simp [hi, show i < l.length by omega]) h1
  rw [show n + (l.length - n) = l.length by omega] at h2
  simpa using h2
theorem AWi.drawsT (hT : TabOk P T) (hm : P.follows .mixedOrders = true) {id : Nat} {l : List Oper} (n : Nat) (hst : stOk (l.take n).toArray = true) (hB : tailB l n = true) {n0 : Nat} {s : St} {Q : Post}
    (h : ExecV P r ns (l.take n) n0 (l.take n) n0 s [] (fun n' s' => ExecI P r T l.toArray ns n' (l.drop n) s' (fun n'' s'' => Q .normal n'' s''))) : AWi P r ns (.region id l.toArray true) n0 s Q := fun W0 R0 B E a w hi hs => by
  obtain ⟨es, nF, sF, k1, k2, k3⟩ := execV_chain (l.take n) n0 s [] (fun _ h => by cases h) (Nat.le_refl _) h
  have hD := draw3_V k1 hst fun i k ei ek hik hi hk => k3 i k ei ek hik (Nat.zero_le _) hi hk
  have hBk : backB (l.take n).toArray = true := by unfold stOk at hst; rw [Bool.and_eq_true] at hst; exact hst.1
  have e0 := chainV_zero k1
  have eF := chainV_end k1
  exact drawsT_core hm hBk hB hD hi (by rw [e0.1, e0.2]; exact hs) fun E' a' w' h => execI_list hT hi (l.drop n) _ k2 (by rw [eF.1, eF.2] at h; exact h) fun n' s' E' _ _ h1 h2 => ⟨n', s', E', W0, Ext.refl _, hi, h1, h2⟩
end Go.Proofs.Ytdkneonokbakjaa.Eng

noncomputable section
namespace Go.Proofs.Ytdkneonokbakjaa.Eng
open Go.RowKit
variable {P : Program} {T : Tab} {r : Option Nat} {ns : Nat}
def shiftO (k : Nat) (o : Oper) : Oper := { o with after := o.after.filterMap fun e => if e.on < k then none else some { e with on := e.on - k } }
def restO (l : List Oper) (n : Nat) : List Oper := (l.drop (n + 1)).map (shiftO (n + 1))
def midB (l : List Oper) (n : Nat) : Bool := headB l n && (Region.sinkB .any (l.take (n + 1)).toArray n && (((List.range l.length).all fun t => decide (t ≤ n) || (List.range t).any fun u => decide (n ≤ u) && Region.waitsFor .any l.toArray t u) &&
  ((l.drop (n + 1)).all (fun o => o.guard.isNone) && decide (Region.ready .any l.toArray (listedTo l.length n) = [n]))))
section
variable {F : Fence} {j n : Nat} {l : List Oper} {Q Qh : Exit → Act → World → Prop}
theorem mid_waits (hh : headB l n = true) (hs : Region.sinkB .any (l.take (n + 1)).toArray n = true) (hr : ((List.range l.length).all fun t => decide (t ≤ n) || (List.range t).any fun u => decide (n ≤ u) && Region.waitsFor .any l.toArray t u) = true) {L : Array Bool} (inv : HeadInv .any l.toArray n L) {i : Nat} (hi : i < n) (hun : L.getD i true = false) : ∀ t, n ≤ t → t ∉ Region.ready .any l.toArray L := by
  intro t ht hrd
  simp only [headB, Bool.and_eq_true, decide_eq_true_eq] at hh
  obtain ⟨_, ot, hot, hall⟩ := mem_ready.1 hrd
  have htl : t < l.length := by have := (Array.getElem?_eq_some_iff.1 hot).1; simpa using this
  by_cases htn : t = n
  · subst htn
    have hsz : (l.take (t + 1)).toArray.size = t + 1 := by simp; omega
    have inv' : HeadInv .any (l.take (t + 1)).toArray t (L.extract 0 (t + 1)) := by
      have hg : ∀ k b, k < t + 1 → (L.extract 0 (t + 1)).getD k b = L.getD k b := fun k b hk => by
        have := inv.size
        have h2 : k < L.size := by rw [this]; simp; omega
        simp [Array.getD, h2, hk, show k < min (t + 1) L.size by omega]
      refine ⟨by rw [hsz]; have := inv.size; simp at this ⊢; omega, fun k ok hk hl e he hb => ?_, fun u hu1 hu2 => ?_⟩
      · have hk2 : k < t + 1 := by have := (Array.getElem?_eq_some_iff.1 hk).1; rw [hsz] at this; exact this
        rw [take_at l hk2] at hk
        rw [hg k _ hk2] at hl
        have h3 := inv.closed k ok hk hl e he hb
        have h4 : e.on < t + 1 := by
          rcases Nat.lt_or_ge e.on (t + 1) with h | h
          · exact h
          · rcases Nat.lt_or_ge e.on l.length with h5 | h5
            · have := inv.tail e.on (by omega) (by simpa using h5)
              rw [getD_both this] at h3; cases h3
            · have h6 : ¬ e.on < L.size := by rw [inv.size]; simp; omega
              have : L.getD e.on false = false := by simp [Array.getD, h6]
              rw [this] at h3; cases h3
        rw [hg _ _ h4]
        exact h3
      · rw [hsz] at hu2
        rw [hg u _ hu2]
        exact inv.tail u hu1 (by simp; omega)
    refine tail_waits hs (by unfold Region.chainB; rw [List.all_eq_true]; intro x hx; rw [List.mem_range, hsz] at hx; simp; omega) (by rw [hsz]; omega) inv' _ i rfl hi ?_ t (Nat.le_refl _) ?_
    · have h2 : i < L.size := by rw [inv.size]; simp; omega
      have : (L.extract 0 (t + 1)).getD i true = L.getD i true := by simp [Array.getD, h2, show i < min (t + 1) L.size by omega]
      rw [this]; exact hun
    · rw [mem_ready]
      have hg : ∀ k b, k < t + 1 → (L.extract 0 (t + 1)).getD k b = L.getD k b := fun k b hk => by
        have := inv.size
        have h2 : k < L.size := by rw [this]; simp; omega
        simp [Array.getD, h2, hk, show k < min (t + 1) L.size by omega]
      refine ⟨by rw [hg _ _ (by omega)]; exact (mem_ready.1 hrd).1, ot, by rw [take_at l (by omega)]; exact hot, fun e he hb => ?_⟩
      have h3 := hall e he hb
      have h4 : e.on < t + 1 := by
        rcases Nat.lt_or_ge e.on (t + 1) with h | h
        · exact h
        · rcases Nat.lt_or_ge e.on l.length with h5 | h5
          · have := inv.tail e.on (by omega) (by simpa using h5)
            rw [getD_both this] at h3; cases h3
          · have h6 : ¬ e.on < L.size := by rw [inv.size]; simp; omega
            have : L.getD e.on false = false := by simp [Array.getD, h6]
            rw [this] at h3; cases h3
      rw [hg _ _ h4]
      exact h3
  · have h1 := List.all_eq_true.1 hr t (List.mem_range.2 htl)
    rw [Bool.or_eq_true, decide_eq_true_eq] at h1
    obtain ⟨u, hu, h2⟩ := List.any_eq_true.1 (h1.resolve_left (by omega))
    rw [Bool.and_eq_true, decide_eq_true_eq] at h2
    obtain ⟨oj, ho, e, he, hb, rfl⟩ := Region.waitsFor_spec h2.2
    rw [hot] at ho
    cases ho
    have h3 := hall e he hb
    have h4 : e.on < l.length := by have := List.mem_range.1 hu; omega
    rw [getD_both (inv.tail e.on h2.1 (by simpa using h4))] at h3
    cases h3
theorem wpAnyIn_mid (hB : midB l n = true) (h0 : ∀ e a w, Qh e a w → e = .normal) (hT : ∀ a w, Qh .normal a w → wpAnyIn F j P .any l.toArray Q (l.length - n) (listedTo l.length n) a w) :
    ∀ (f : Nat) (L L' : Array Bool) (a : Act) (w : World), L.size = n → HeadInv .any l.toArray n L' → (∀ i, i < n → L'.getD i true = L.getD i true) → (∀ i, i < n → L'.getD i false = L.getD i false) →
      wpAnyIn F j P .any (l.take n).toArray Qh f L a w → wpAnyIn F j P .any l.toArray Q (f + (l.length - n)) L' a w := by
  simp only [midB, Bool.and_eq_true] at hB
  obtain ⟨hh, hs, hc, _, _⟩ := hB
  have hh' := hh
  simp only [headB, Bool.and_eq_true, decide_eq_true_eq] at hh'
  obtain ⟨⟨hback, hgd⟩, hn⟩ := hh'
  have hsz : (l.take n).toArray.size = n := by simp; omega
  have done : ∀ (L L' : Array Bool) (a : Act) (w : World), L.size = n → HeadInv .any l.toArray n L' → (∀ i, i < n → L'.getD i true = L.getD i true) → Region.ready .any (l.take n).toArray L = [] → Qh .normal a w → wpAnyIn F j P .any l.toArray Q (l.length - n) L' a w := by
    intro L L' a w hLs inv hL hr hQ
    have hall := all_listed (ops := (l.take n).toArray) (listed := L) (by rw [hLs, hsz]) hback hr
    have hL' : L' = listedTo l.length n := by
      apply Array.ext
      · rw [inv.size]; simp [listedTo]
      · intro i h1 h2
        have hsz' : i < l.length := by have := inv.size; simp at this; omega
        have e1 : L'.getD i true = L'[i] := by simp [Array.getD, h1]
        rw [← e1]
        by_cases hi : i < n
        · rw [hL i hi, hall i (by rw [hsz]; exact hi)]
          simp [listedTo, hi]
        · rw [inv.tail i (by omega) (by simpa using hsz')]
          simp [listedTo, hi]
    rw [hL']
    exact hT a w hQ
  intro f
  induction f with
  | zero =>
    intro L L' a w hLs inv hL hL2 h
    rw [Nat.zero_add]
    exact done L L' a w hLs inv hL h.1 h.2
  | succ f ih =>
    intro L L' a w hLs inv hL hL2 h
    by_cases hr : Region.ready .any (l.take n).toArray L = []
    · have := wpAnyIn_more _ (f + 1) _ _ _ (done L L' a w hLs inv hL hr (h.1 hr))
      rwa [Nat.add_comm] at this
    rw [show f + 1 + (l.length - n) = (f + (l.length - n)) + 1 by omega]
    obtain ⟨i0, hi0⟩ := List.exists_mem_of_ne_nil _ hr
    have hi0n : i0 < n := by
      obtain ⟨_, o, ho, _⟩ := mem_ready.1 hi0
      have := (Array.getElem?_eq_some_iff.1 ho).1
      rw [hsz] at this
      exact this
    have hun : L'.getD i0 true = false := by rw [hL i0 hi0n]; exact (mem_ready.1 hi0).1
    refine ⟨fun h1 => ?_, fun i hi => ?_⟩
    · have := (ready_head hh hL hL2 hi0n).2 hi0
      rw [h1] at this
      cases this
    · have hin : i < n := by
        rcases Nat.lt_or_ge i n with h2 | h2
        · exact h2
        · exact absurd hi (mid_waits hh hs hc inv hi0n hun i h2)
      have hi2 := (ready_head hh hL hL2 hin).1 hi
      have hw := h.2 i hi2
      unfold wpOpIn at hw ⊢
      rw [take_at l hin] at hw
      have hset : ∀ k b, k < n → (L'.setIfInBounds i true).getD k b = (L.setIfInBounds i true).getD k b := fun k b hk => by
        by_cases hki : k = i
        · subst hki
          have h3 : k < L'.size := by rw [inv.size]; simp; omega
          simp [h3, hLs, hk]
        · rw [getD_set_ne b (Ne.symm hki), getD_set_ne b (Ne.symm hki)]
          cases b
          · exact hL2 k hk
          · exact hL k hk
      have hK : ∀ a w, wpAnyIn F j P .any (l.take n).toArray Qh f (L.setIfInBounds i true) a w → wpAnyIn F j P .any l.toArray Q (f + (l.length - n)) (L'.setIfInBounds i true) a w :=
        fun a w h => ih _ _ a w (by simp [hLs]) (inv.set hi hin) (fun k hk => hset k true hk) (fun k hk => hset k false hk) h
      split
      · rename_i ho
        rw [ho] at hw
        exact hK _ _ hw
      · rename_i o ho
        simp only [ho] at hw
        have hwant : Region.wanted o (yielded (l.take n).toArray a.tmps) = Region.wanted o (yielded l.toArray a.tmps) := by
          unfold Region.wanted
          have hmem : o ∈ l.take n := by
            have := take_at l hin
            rw [ho] at this
            exact List.mem_of_getElem? (by simpa using this)
          have hgo := List.all_eq_true.1 hgd o hmem
          cases hg : o.guard with
          | none => rfl
          | some q =>
            obtain ⟨g, b⟩ := q
            rw [hg] at hgo
            simp only [decide_eq_true_eq] at hgo
            simp only [yielded_take l hgo]
        rw [hwant] at hw
        split
        · rename_i hc
          rw [if_pos hc] at hw
          exact wpIn_from h0 (Oper.wpIn_mono hK hw)
        · rename_i hc
          rw [if_neg hc] at hw
          exact ⟨hw.1, hK _ _ hw.2⟩
theorem restO_at (l : List Oper) (n i : Nat) : (restO l n)[i]? = (l[n + 1 + i]?).map (shiftO (n + 1)) := by simp [restO, List.getElem?_drop]
theorem wpAnyIn_rest (hg : (l.drop (n + 1)).all (fun o => o.guard.isNone) = true) :
    ∀ (f : Nat) (L L' : Array Bool) (a : Act) (w : World), (∀ i, i < n + 1 → L'.getD i true = true) → (∀ i b, n + 1 + i < l.length → L'.getD (n + 1 + i) b = L.getD i b) → L'.size = l.length → L.size = (restO l n).length →
      wpAnyIn F j P .any (restO l n).toArray Q f L a w → wpAnyIn F j P .any l.toArray Q f L' a w := by
  have rdy : ∀ (L L' : Array Bool), (∀ i, i < n + 1 → L'.getD i true = true) → (∀ i b, n + 1 + i < l.length → L'.getD (n + 1 + i) b = L.getD i b) → L'.size = l.length → L.size = (restO l n).length → ∀ i, i ∈ Region.ready .any l.toArray L' ↔ ∃ i', i = n + 1 + i' ∧ i' ∈ Region.ready .any (restO l n).toArray L := by
    intro L L' h1 h2 h3 h4 i
    have hlow : ∀ k, k < n + 1 → k < l.length → L'.getD k false = true := fun k hk hkl => by
      have := h1 k hk
      have h5 : k < L'.size := by omega
      simp [Array.getD, h5] at this ⊢
      exact this
    constructor
    · intro hi
      obtain ⟨hun, o, ho, hall⟩ := mem_ready.1 hi
      have hil : i < l.length := by have := (Array.getElem?_eq_some_iff.1 ho).1; simpa using this
      have hin : n + 1 ≤ i := by
        rcases Nat.lt_or_ge i (n + 1) with h | h
        · rw [h1 i h] at hun; cases hun
        · exact h
      obtain ⟨i', rfl⟩ : ∃ i', i = n + 1 + i' := ⟨i - (n + 1), by omega⟩
      refine ⟨i', rfl, mem_ready.2 ⟨by rw [← h2 i' true hil]; exact hun, shiftO (n + 1) o, ?_, fun e he hb => ?_⟩⟩
      · have : l[n + 1 + i']? = some o := by simpa using ho
        simp [restO_at, this]
      · simp only [shiftO, Array.mem_filterMap] at he
        obtain ⟨e0, he0, h5⟩ := he
        split at h5
        · cases h5
        · rename_i hlt
          cases h5
          have h6 := hall e0 he0 hb
          have h7 : e0.on < l.length := by
            rcases Nat.lt_or_ge e0.on L'.size with h | h
            · omega
            · simp [Array.getD, show ¬ e0.on < L'.size by omega] at h6
          rw [show e0.on = n + 1 + (e0.on - (n + 1)) by omega, h2 _ _ (by omega)] at h6
          exact h6
    · rintro ⟨i', rfl, hi⟩
      obtain ⟨hun, o', ho', hall⟩ := mem_ready.1 hi
      have ho2 : (restO l n)[i']? = some o' := by simpa using ho'
      rw [restO_at, Option.map_eq_some_iff] at ho2
      obtain ⟨o, ho, rfl⟩ := ho2
      have hil := (List.getElem?_eq_some_iff.1 ho).1
      refine mem_ready.2 ⟨by rw [h2 i' true hil]; exact hun, o, by simpa using ho, fun e he hb => ?_⟩
      by_cases hlt : e.on < n + 1
      · exact hlow _ hlt (by omega)
      · have h6 := hall { e with on := e.on - (n + 1) } (by
          simp only [shiftO, Array.mem_filterMap]
          exact ⟨e, he, by simp [hlt]⟩) hb
        have h7 : n + 1 + (e.on - (n + 1)) < l.length := by
          rcases Nat.lt_or_ge (e.on - (n + 1)) L.size with h | h
          · have : (restO l n).length = l.length - (n + 1) := by simp [restO]
            omega
          · simp [Array.getD, show ¬ e.on - (n + 1) < L.size by omega] at h6
        rw [show e.on = n + 1 + (e.on - (n + 1)) by omega, h2 _ _ h7]
        exact h6
  intro f
  induction f with
  | zero =>
    intro L L' a w h1 h2 h3 h4 h
    refine ⟨?_, h.2⟩
    refine List.eq_nil_iff_forall_not_mem.2 fun i hi => ?_
    obtain ⟨i', _, hi'⟩ := (rdy L L' h1 h2 h3 h4 i).1 hi
    rw [h.1] at hi'
    cases hi'
  | succ f ih =>
    intro L L' a w h1 h2 h3 h4 h
    refine ⟨fun he => h.1 (List.eq_nil_iff_forall_not_mem.2 fun i' hi' => ?_), fun i hi => ?_⟩
    · have := (rdy L L' h1 h2 h3 h4 (n + 1 + i')).2 ⟨i', rfl, hi'⟩
      rw [he] at this
      cases this
    · obtain ⟨i', rfl, hi'⟩ := (rdy L L' h1 h2 h3 h4 i).1 hi
      have hw := h.2 i' hi'
      obtain ⟨_, o', ho', _⟩ := mem_ready.1 hi'
      have ho2 : (restO l n)[i']? = some o' := by simpa using ho'
      rw [restO_at, Option.map_eq_some_iff] at ho2
      obtain ⟨o, ho, rfl⟩ := ho2
      have hil := (List.getElem?_eq_some_iff.1 ho).1
      have hK : ∀ a w, wpAnyIn F j P .any (restO l n).toArray Q f (L.setIfInBounds i' true) a w → wpAnyIn F j P .any l.toArray Q f (L'.setIfInBounds (n + 1 + i') true) a w := fun a w hh => by
        refine ih _ _ a w (fun k hk => ?_) (fun k b hk => ?_) (by simp [h3]) (by simp [h4]) hh
        · rw [getD_set_ne _ (by omega)]; exact h1 k hk
        · by_cases hki : k = i'
          · subst hki
            have : (restO l n).length = l.length - (n + 1) := by simp [restO]
            have g1 : n + 1 + k < L'.size := by omega
            have g2 : k < L.size := by omega
            simp [g1, g2]
          · rw [getD_set_ne _ (by omega), getD_set_ne _ (Ne.symm hki)]; exact h2 k b hk
      have hgo : o.guard = none := by
        have := List.all_eq_true.1 hg o (List.mem_of_getElem? (i := i') (by rw [List.getElem?_drop]; exact ho))
        simpa using this
      unfold wpOpIn at hw ⊢
      have e1 : (restO l n).toArray[i']? = some (shiftO (n + 1) o) := ho'
      have e2 : l.toArray[n + 1 + i']? = some o := by simpa using ho
      rw [e1] at hw
      rw [e2]
      simp only at hw ⊢
      have w1 : ∀ f, Region.wanted (shiftO (n + 1) o) f = true := fun f => by unfold Region.wanted shiftO; simp only [hgo]
      have w2 : ∀ f, Region.wanted o f = true := fun f => by unfold Region.wanted; simp only [hgo]
      rw [if_pos (w1 _)] at hw
      rw [if_pos (w2 _)]
      exact Oper.wpIn_mono hK hw
end
theorem AWi.drawsM (hm : P.follows .mixedOrders = true) {id : Nat} {l : List Oper} (n : Nat) (hst : stOk (l.take n).toArray = true) (hst2 : stOk (restO l n).toArray = true) (hB : midB l n = true) {n0 : Nat} {s : St} {Q : Post}
    (h : ExecV P r ns (l.take n) n0 (l.take n) n0 s [] (fun n' s' => ∃ o, l[n]? = some o ∧ o.guard = none ∧ (∀ t, o.dst = some t → t < ns) ∧ ∃ G, StepI P r ns n' s' o G ∧ ∀ n2 s2, G n2 s2 → ExecV P r ns (restO l n) n2 (restO l n) n2 s2 [] (fun n3 s3 => Q .normal n3 s3))) :
    AWi P r ns (.region id l.toArray true) n0 s Q := fun W0 R0 B E a w hi hs => by
  obtain ⟨es, nF, sF, k1, ⟨o, ho, hog, hod, G, hG, hrest⟩, k3⟩ := execV_chain (l.take n) n0 s [] (fun _ h => by cases h) (Nat.le_refl _) h
  have hD := draw3_V k1 hst fun i k ei ek hik hi hk => k3 i k ei ek hik (Nat.zero_le _) hi hk
  have hBk : backB (l.take n).toArray = true := by unfold stOk at hst; rw [Bool.and_eq_true] at hst; exact hst.1
  have hBk2 : backB (restO l n).toArray = true := by unfold stOk at hst2; rw [Bool.and_eq_true] at hst2; exact hst2.1
  have e0 := chainV_zero k1
  have eF := chainV_end k1
  have h1 := draw_any3 hBk hD hi (E := E) (a := a) (by rw [e0.1, e0.2]; exact hs.drew) (Q := fun e a' w' => e = .normal ∧ ∃ E', Sim W0 R0 ns (· < nF) sF E' a' w') (fun E' a' w' h => ⟨rfl, E', by rw [eF.1, eF.2] at h; exact h⟩)
  refine wpIn_region_any hm ?_
  have hB' := hB
  simp only [midB, headB, Bool.and_eq_true, decide_eq_true_eq] at hB'
  obtain ⟨⟨_, hn⟩, _, _, hgr, hready⟩ := hB'
  have hsz : (l.take n).toArray.size = n := by simp; omega
  have hrl : (restO l n).length = l.length - (n + 1) := by simp [restO]
  rw [hsz] at h1
  have hmid : ∀ (a' : Act) (w' : World) (E' : Env), Sim W0 R0 ns (· < nF) sF E' a' w' → wpAnyIn (fen (rOf W0 r)) 0 P .any l.toArray (fun e a' w' => ∃ n' s' E' W', Ext W0 W' ∧ InAct r W' R0 B ∧ Sim W' R0 ns (· < n') s' E' a' w' ∧ Q e n' s') (l.length - n) (listedTo l.length n) a' w' := fun a' w' E' hsm => by
    rw [show l.length - n = (l.length - (n + 1)) + 1 by omega]
    refine ⟨fun h => (by rw [hready] at h; cases h), fun i hi2 => ?_⟩
    rw [hready] at hi2
    obtain rfl : i = n := by simpa using hi2
    have e2 : l.toArray[i]? = some o := by simpa using ho
    unfold wpOpIn
    rw [e2]
    simp only
    rw [if_pos (by unfold Region.wanted; simp only [hog])]
    refine hG W0 R0 B E' a' w' hi hsm hod _ _ fun n2 s2 E2 a2 w2 hg2 hs2 => ?_
    obtain ⟨es2, nF2, sF2, p1, p2, p3⟩ := execV_chain (restO l i) n2 s2 [] (fun _ h => by cases h) (Nat.le_refl _) (hrest n2 s2 hg2)
    have hD2 := draw3_V p1 hst2 fun i k ei ek hik hi hk => p3 i k ei ek hik (Nat.zero_le _) hi hk
    have q0 := chainV_zero p1
    have qF := chainV_end p1
    have h3 := draw_any3 hBk2 hD2 hi (E := E2) (a := a2) (w := w2) (by rw [q0.1, q0.2]; exact hs2) (Q := fun e a' w' => ∃ n' s' E' W', Ext W0 W' ∧ InAct r W' R0 B ∧ Sim W' R0 ns (· < n') s' E' a' w' ∧ Q e n' s') (fun E3 a3 w3 h => ⟨nF2, sF2, E3, W0, Ext.refl _, hi, by rw [qF.1, qF.2] at h; exact h, p2⟩)
    have hsz2 : (restO l i).toArray.size = l.length - (i + 1) := by simpa using hrl
    rw [hsz2] at h3
    refine wpAnyIn_rest hgr _ (Array.replicate (l.length - (i + 1)) false) _ _ _ (fun k hk => ?_) (fun k b hk => ?_) (by simp [listedTo]) (by simp [hrl]) h3
    · by_cases hki : k = i
      · subst hki
        have : k < (listedTo l.length k).size := by simp [listedTo]; omega
        simp [this]
      · rw [getD_set_ne _ (Ne.symm hki)]
        simp [listedTo, show k < i by omega, show k < l.length by omega]
    · rw [getD_set_ne _ (by omega)]
      simp [listedTo, show ¬ i + 1 + k < i by omega, show i + 1 + k < l.length by omega, show k < l.length - (i + 1) by omega]
  have h2 := wpAnyIn_mid (j := 0) (Q := fun e a' w' => ∃ n' s' E' W', Ext W0 W' ∧ InAct r W' R0 B ∧ Sim W' R0 ns (· < n') s' E' a' w' ∧ Q e n' s') hB (fun e a w h => h.1) (fun a' w' ⟨_, E', h⟩ => hmid a' w' E' h) n (Array.replicate n false) (Array.replicate l.length false) a _ (by simp)
    ⟨by simp, fun j oj _ hl => (by rw [getD_replicate_false] at hl; cases hl), fun t _ ht => getD_in (by simpa using ht) (getD_replicate_false _ _)⟩ (fun i hi => by simp [hi, show i < l.length by omega]) (fun i hi => by simp [hi, show i < l.length by omega]) h1
  rw [show n + (l.length - n) = l.length by omega] at h2
  simpa using h2
end Go.Proofs.Ytdkneonokbakjaa.Eng

noncomputable section
namespace Go.Proofs.Ytdkneonokbakjaa.Eng
open Go.RowKit
variable {P : Program}
theorem ACall.ofR {f : FuncId} {ds : List Dat} {d : Dat} (h : RCall P f (ds.map .d) d (fun _ => none)) : ACall P f ds d :=
  ⟨h.callable, fun ro w vs hro hs hr => by
    let E : Env := ⟨ro, fun _ => False, fun _ => ⟨0, 0, 0⟩⟩
    have M : MS (fixOf w) ro (fun _ => False) (fun _ => none) E w := ⟨Kept.refl _ _, fun _ h => h, fun _ h => .inl h, hro, fun _ h => h, fun i b hi => by (cases hi), fun i b hi => by (cases hi), fun i b hi => by (cases hi), fun i b hi => by (cases hi), fun i j b c hi => by (cases hi)⟩
    refine (h.calls (fixOf w) ro (fun _ => False) 0 E w vs (fun _ h => h.elim) M (by simp [hs]) fun i x v hx hv => ?_).mono ?_
    · rw [List.getElem?_map, Option.map_eq_some_iff] at hx
      obtain ⟨d, hd, rfl⟩ := hx
      exact .d _ _ (hr i d v hd hv)
    · rintro e w' ⟨v, E', rfl, M', hE, hw, hv⟩
      cases hv with
      | d _ _ hv =>
      refine ⟨v, rfl, M'.below.below, hv.keep (fun b hb => ?_) fun _ _ => rfl⟩
      rcases M'.ro1 b hb with h | h
      · exact .inl h
      · exact .inr ⟨Nat.le_of_not_lt h, M'.rlt b hb⟩⟩
end Go.Proofs.Ytdkneonokbakjaa.Eng

namespace Go.Proofs.Ytdkneonokbakjaa.Eng
def toD5 : SV → Option Dat
  | .nilS => some (.list [])
  | x => toD2 x
def toD4 : SV → Option Dat
  | .tup l => match mapO toD5 l with
    | some m => some (.tup m)
    | none => none
  | x => toD5 x
theorem toD5_rep {E : Env} {w : World} {x : SV} {d : Dat} {v : Value} (h : toD5 x = some d) (hr : Rep E w x v) : RepD E.ro w d v := by
  unfold toD5 at h
  split at h
  · cases h
    cases hr
    exact .list [] none 0 (fun _ _ => .int .i64 0) (Nat.le_refl _) (Nat.zero_le _) (fun r hr => by cases hr) (fun h => absurd h (by decide)) fun i j r c hi => by simp at hi
  · cases (toD2_rep h).1 hr with | d _ _ h => exact h
theorem toD4_rep {E : Env} {w : World} {x : SV} {d : Dat} {v : Value} (h : toD4 x = some d) (hr : Rep E w x v) : RepD E.ro w d v := by
  unfold toD4 at h
  split at h
  · rename_i l
    split at h
    · rename_i m hm
      cases h
      obtain ⟨hlen, hget⟩ := mapO_get hm
      have hget2 : ∀ (i : Nat) (d : Dat), m[i]? = some d → ∃ x, l[i]? = some x ∧ toD5 x = some d := fun i d hd => by
        have hi : i < l.length := by rw [← hlen]; exact (List.getElem?_eq_some_iff.1 hd).1
        obtain ⟨y, h1, h2⟩ := hget i _ (List.getElem?_eq_getElem hi)
        rw [hd] at h1
        cases h1
        exact ⟨_, List.getElem?_eq_getElem hi, h2⟩
      cases hr with
      | tup _ vs h1 h3 =>
      refine .tup m vs (by rw [h1, hlen]) fun i c v hc hv => ?_
      obtain ⟨x, q1, q2⟩ := hget2 i c hc
      exact toD5_rep q2 (h3 i x v q1 hv)
    · cases h
  · exact toD5_rep h hr
variable {P : Program}
theorem RCall.of4 {f : FuncId} {svs : List SV} {d : Dat} {m : Mem} {n0 : Nat} (h : ∀ n, n0 ≤ n → CWp P f svs n m fun y _ m' => toD4 y = some d ∧ ∀ j, j < n → m' j = m j) : RCall P f svs d m :=
  ⟨(h n0 (Nat.le_refl _)).callable, fun W0 R0 D N E w vs hD M h1 h2 => by
    refine ((h (max N n0) (Nat.le_max_right _ _)).calls W0 R0 E w vs (ms_dom M fun i hi => Nat.lt_of_lt_of_le (hD i hi) (Nat.le_max_left _ _)) h1 h2).mono ?_
    rintro e w' ⟨v, E', n', m', y, rfl, M', hE, hw, hv, hy, hm⟩
    have hlt : ∀ i b, m i = some b → m' i = some b := fun i b hi => by
      rw [hm i (Nat.lt_of_lt_of_le (hD i (M.dom i (M.live i b hi))) (Nat.le_max_left _ _))]; exact hi
    let E2 : Env := { E' with dom := E.dom }
    refine ⟨v, E2, rfl, ⟨M'.below, M'.ro0, M'.ro1, M'.rlt, M.dom, M.live, fun i b hi => ?_, fun i b hi => M'.base i b (hlt i b hi), fun i b hi => M'.frz i b (hlt i b hi), fun i j b c hi hj hn => M'.inj i j b c (hlt i b hi) (hlt j c hj) hn⟩, ⟨hE.ro, fun _ h => h, hE.home⟩, hw, ?_⟩
    · exact Holds.restrict (E := E) (E' := E') (E'' := E2) (w := w) (w' := w') (h0 := E.home i) (h := E'.home i) (fun _ h => h) (fun _ h => h) (fun _ _ => rfl) (M'.mem i b (hlt i b hi)) (M.mem i b hi)
    · exact .d _ _ (toD4_rep (E := E') hy hv)⟩
theorem RCall.ofA4 {f : FuncId} {ds : List Dat} {d : Dat} (h : ACall P f ds d) {svs : List SV} (hs : mapO toD4 svs = some ds) (m : Nat → Option Blk) : RCall P f svs d m :=
  ⟨h.callable, fun W0 R0 D N E w vs hD M h1 h2 => by
    obtain ⟨hlen, hget⟩ := mapO_get hs
    refine (h.calls E.ro w vs M.rlt (by rw [h1, hlen]) fun i d v hd hv => ?_).mono ?_
    · have hi : i < svs.length := by rw [← hlen]; exact (List.getElem?_eq_some_iff.1 hd).1
      obtain ⟨y, q1, q2⟩ := hget i _ (List.getElem?_eq_getElem hi)
      rw [hd] at q1
      cases q1
      exact toD4_rep q2 (h2 i _ v (List.getElem?_eq_getElem hi) hv)
    · rintro e w' ⟨v, rfl, hb, hr⟩
      let E2 : Env := { E with ro := fun b => E.ro b ∨ (w.heap.size ≤ b ∧ b < w'.heap.size) }
      have hE : E.le E2 := ⟨fun _ h => .inl h, fun _ h => h, fun _ _ => rfl⟩
      have hw : ∀ b, E.ro b → w'.heap[b]? = w.heap[b]? := fun b hb' => hb.block b (M.rlt b hb')
      refine ⟨v, E2, rfl, ⟨M.below.trans (kept_of hb fun b hu => Nat.lt_of_lt_of_le (W0.lt b hu) M.below.size), fun b hb => .inl (M.ro0 b hb), fun b hb' => ?_, fun b hb' => ?_, M.dom, M.live, fun i b hi => (M.mem i b hi).keep hE hw (hb.block _ (M.mem i b hi).lt), M.base, fun i b hi => ?_, M.inj⟩, hE, hw, .d _ _ hr⟩
      · rcases hb' with h | h
        · exact M.ro1 b h
        · exact .inr fun hu => by have := W0.lt b hu; have := M.below.size; omega
      · rcases hb' with h | h
        · exact Nat.lt_of_lt_of_le (M.rlt b h) (kept_of (U := fun _ => False) hb fun _ h => h.elim).size
        · exact h.2
      · refine (M.frz i b hi).trans ⟨.inl, fun h => h.elim id fun h => ?_⟩
        have h5 : (E.home i).blk < w.heap.size := (M.mem i b hi).lt
        have h6 : w.heap.size ≤ (E.home i).blk := h.1
        omega⟩
theorem RCall.ofOwn {f : FuncId} {svs : List SV} {rows : List (List Dat)} {m : Mem} {n0 : Nat} (h : ∀ n, n0 ≤ n → CWp P f svs n m fun y _ m' => (∃ id z ty, n ≤ id ∧ y = .own id rows.length z ∧ m' id = some (.row ty z rows false)) ∧ ∀ j, j < n → m' j = m j) : RCall P f svs (.list rows) m :=
  ⟨(h n0 (Nat.le_refl _)).callable, fun W0 R0 D N E w vs hD M h1 h2 => by
    refine ((h (max N n0) (Nat.le_max_right _ _)).calls W0 R0 E w vs (ms_dom M fun i hi => Nat.lt_of_lt_of_le (hD i hi) (Nat.le_max_left _ _)) h1 h2).mono ?_
    rintro e w' ⟨v, E', n', m', y, rfl, M', hE, hw, hv, ⟨id, z, ty, hid, rfl, hrow⟩, hm⟩
    have hin : ∀ i b, m i = some b → i < max N n0 := fun i b hi => Nat.lt_of_lt_of_le (hD i (M.dom i (M.live i b hi))) (Nat.le_max_left _ _)
    have hlt : ∀ i b, m i = some b → m' i = some b := fun i b hi => by
      rw [hm i (hin i b hi)]; exact hi
    let E2 : Env := { E' with dom := E.dom, ro := fun b => E'.ro b ∨ b = (E'.home id).blk }
    refine ⟨v, E2, rfl, ⟨M'.below, fun b hb => .inl (M'.ro0 b hb), fun b hb => ?_, fun b hb => ?_, M.dom, M.live, fun i b hi => ?_, fun i b hi => M'.base i b (hlt i b hi), fun i b hi => ?_, fun i j b c hi hj hn => M'.inj i j b c (hlt i b hi) (hlt j c hj) hn⟩, ⟨fun b hb => .inl (hE.ro b hb), fun _ h => h, hE.home⟩, hw, ?_⟩
    · rcases hb with hb | rfl
      · exact M'.ro1 b hb
      · exact .inr fun hu => M'.base id _ hrow hu
    · rcases hb with hb | rfl
      · exact M'.rlt b hb
      · exact (M'.mem id _ hrow).lt
    · exact Holds.restrict (E := E) (E' := E') (E'' := E2) (w := w) (w' := w') (h0 := E.home i) (h := E'.home i) (fun _ h => .inl h) (fun _ h => h) (fun _ _ => rfl) (M'.mem i b (hlt i b hi)) (M.mem i b hi)
    · refine (M'.frz i b (hlt i b hi)).trans ⟨.inl, fun h => h.elim (fun h => h) fun e => ?_⟩
      exact absurd e (M'.inj i id b _ (hlt i b hi) hrow (by have := hin i b hi; omega))
    · cases hv with
      | own _ _ _ hd hz =>
      cases M'.mem id _ hrow with
      | row _ _ _ _ cur g1 g2 g3 g4 g5 g6 g7 g8 =>
      refine .d _ _ (.list rows _ _ (fun i j => cur.getD (i * z + j) (.int .i64 0)) g4 g5 g7 (fun _ => ⟨_, 0, z, rfl, .inr rfl, g6, fun i j hi hj => ?_⟩) fun i j r c hi hj => ?_)
      · have hsz : i * z + j < cur.size := by
          rw [g3]
          exact Nat.lt_of_lt_of_le (Nat.lt_of_lt_of_le (Nat.add_lt_add_left hj _) (by rw [← Nat.succ_mul]; exact Nat.mul_le_mul_right _ hi)) (Nat.mul_le_mul_right _ g4)
        rw [Nat.zero_add, World.cell?]
        simp [g1, Array.getD_eq_getD_getElem?, hsz]
      · have hir := (List.getElem?_eq_some_iff.1 hi).1
        have hjz : j < z := by rw [← g6 r (List.mem_of_getElem? hi)]; exact (List.getElem?_eq_some_iff.1 hj).1
        have hsz : i * z + j < cur.size := by
          rw [g3]
          exact Nat.lt_of_lt_of_le (Nat.lt_of_lt_of_le (Nat.add_lt_add_left hjz _) (by rw [← Nat.succ_mul]; exact Nat.mul_le_mul_right _ hir)) (Nat.mul_le_mul_right _ g4)
        have := g8 i j r c _ hi hj (Array.getElem?_eq_getElem hsz)
        rw [show cur.getD (i * z + j) (.int .i64 0) = cur[i * z + j] by simp [Array.getD_eq_getD_getElem?, hsz]]
        exact this.keep (ro' := E2.ro) (fun b hb => .inl hb) fun _ _ => rfl⟩
end Go.Proofs.Ytdkneonokbakjaa.Eng
