/-
  A part of the texts that the claim builds on: see the last one.
-/
import Derived.Test.YtjjoiihgpkhndaaDm4
set_option linter.unusedSimpArgs false
set_option linter.unusedVariables false
/-
  The runner, part 11: drawn regions with read-only calls that wait for nothing. No program is named here.
-/
noncomputable section
namespace Go.Proofs.Ytjjoiihgpkhndaa.Eng
open Go.RowKit
variable {P : Program} {T : Tab} {Z : ZTab} {Q : QTab} {M : MTab} {K : Known} {R : Runner} {r : Option Nat} {ns : Nat}

/-- An entry tells what becomes of its operation, by what holds of it. -/
structure EnS (P : Program) (r : Option Nat) (ns : Nat) (ops : Array Oper) (o : Oper) (e : En) : Prop where
  k : match e.k with
    | .off => guardS ops ns e.s.den o = some false ∧ e.s' = ⟨e.s.n, putD e.s.sl o.dst (.tup []), e.s.mem⟩
    | .pure x ids => guardS ops ns e.s.den o = some true ∧ (∀ s' : St, (∀ t ∈ slotsOf o.op, s'.slots t = e.s.den.slots t) → (∀ i ∈ ids, s'.mem i = e.s.den.mem i) → ROStep P r ns s' o x) ∧ e.s' = ⟨e.s.n, putD e.s.sl o.dst x, e.s.mem⟩
    | .exact y => guardS ops ns e.s.den o = some true ∧ (∀ s' : St, (∀ t ∈ slotsOf o.op, s'.slots t = e.s.den.slots t) → s'.mem = e.s.den.mem → StepI P r ns e.s.n s' o fun n2 s2 => n2 = e.s'.n ∧ s2 = ⟨setSlot s'.slots o.dst y, mOf e.s'.mem⟩) ∧ e.s.n ≤ e.s'.n ∧ Recs e.s.mem e.s'.mem ∧ e.s'.sl = putD e.s.sl o.dst y
inductive ChainS (P : Program) (r : Option Nat) (ns : Nat) (ops : Array Oper) : List Oper → List En → CS → CS → Prop
  | nil (s) : ChainS P r ns ops [] [] s s
  | cons {o l e es sF} : EnS P r ns ops o e → ChainS P r ns ops l es e.s' sF → ChainS P r ns ops (o :: l) (e :: es) e.s sF
theorem chainS_len {ops : Array Oper} {l : List Oper} {es : List En} {s sF : CS} (h : ChainS P r ns ops l es s sF) : es.length = l.length := by
  induction h with
  | nil => rfl
  | cons _ _ ih => simp [ih]
theorem chainS_zero {ops : Array Oper} {l : List Oper} {es : List En} {s sF : CS} (h : ChainS P r ns ops l es s sF) : stAt es sF 0 = s := by
  cases h with
  | nil => rfl
  | cons => rfl
theorem chainS_at {ops : Array Oper} {l : List Oper} {es : List En} {s sF : CS} (h : ChainS P r ns ops l es s sF) : ∀ (k : Nat) o, l[k]? = some o → ∃ e, es[k]? = some e ∧ EnS P r ns ops o e ∧ stAt es sF k = e.s ∧ stAt es sF (k + 1) = e.s' := by
  induction h with
  | nil => intro k o hk; simp at hk
  | @cons o l e es sF he hc ih =>
    intro k o' hk
    match k with
    | 0 =>
      simp only [List.getElem?_cons_zero, Option.some.injEq] at hk
      subst hk
      exact ⟨e, rfl, he, rfl, chainS_zero hc⟩
    | k + 1 =>
      obtain ⟨e', h1, h2, h3, h4⟩ := ih k o' (by simpa using hk)
      exact ⟨e', by simpa using h1, h2, h3, h4⟩
theorem chainS_end {ops : Array Oper} {l : List Oper} {es : List En} {s sF : CS} (h : ChainS P r ns ops l es s sF) : stAt es sF l.length = sF := by
  unfold stAt
  rw [List.getElem?_eq_none (by rw [chainS_len h]; omega)]
theorem drawS_of (hns : okN ns = true) {l : List Oper} {es : List En} {s sF : CS} (h : ChainS P r ns l.toArray l es s sF) (hst : stOk l.toArray = true) (hok : okDyn (ancs l []) es = true) :
    Draw P r ns l (fun k => (stAt es sF k).den) (fun k => (stAt es sF k).n) (kdOf es) := by
  have hlen := chainS_len h
  have at_ : ∀ (k : Nat), k < l.length → ∃ o e, l[k]? = some o ∧ es[k]? = some e ∧ EnS P r ns l.toArray o e ∧ stAt es sF k = e.s ∧ stAt es sF (k + 1) = e.s' := fun k hk => by
    obtain ⟨e, h1, h2, h3, h4⟩ := chainS_at h k _ (List.getElem?_eq_getElem hk)
    exact ⟨_, e, List.getElem?_eq_getElem hk, h1, h2, h3, h4⟩
  unfold stOk at hst
  rw [Bool.and_eq_true] at hst
  have bit : ∀ {i k b : Nat}, (ancs l [])[k]? = some b → b.testBit i = true → Anc l i k := fun {i k b} hb hbt => by
    refine ancs_ok l [] [] rfl rfl (fun k i hk => by simp at hk) k i ?_
    rw [List.getD_eq_getElem?_getD, hb]
    simpa using hbt
  have anc : ∀ i k e f, i < k → es[i]? = some e → es[k]? = some f → (∃ y, e.k = .exact y) ∨ (∃ y, f.k = .exact y) → ∃ b, (ancs l [])[k]? = some b ∧ pairOk b i e f = true := fun i k e f hik hi hk hx => by
    have hany : anyEx es = true := by
      rcases hx with ⟨y, hy⟩ | ⟨y, hy⟩
      · exact anyEx_of hi hy
      · exact anyEx_of hk hy
    unfold okDyn at hok
    rw [hany] at hok
    have := okEs_spec (okEs3_ok hok) (by rw [ancs_len, hlen]; simp) i k e f hik hi hk
    simpa using this
  refine ⟨fun k o hk => ?_, fun k hk => ?_, fun k hk => ?_, fun k o hk hd => ?_, fun k o x ids hk hd => ?_, fun k o y n' m' hk hd => ?_, fun i k oi ok t hik hi hk ht => ?_, fun i k hik hk hi he => ?_, fun i k x ids hik hk hi he => ?_, fun i k x ids hik hk hi he => ?_⟩
  · obtain ⟨e, h1, h2, h3, h4⟩ := chainS_at h k o hk
    simp only [h3, h4, kdOf, h1]
    have hk2 := h2.k
    cases hek : e.k with
    | off => rw [hek] at hk2; simp only at hk2 ⊢; rw [hk2.2]; simp only [CS.den, sOf_dst hns hk2.1]; rfl
    | pure x ids => rw [hek] at hk2; simp only at hk2 ⊢; rw [hk2.2.2]; simp only [CS.den, sOf_dst hns hk2.1]; rfl
    | exact y => rw [hek] at hk2; simp only at hk2 ⊢; obtain ⟨hg, _, _, _, hs⟩ := hk2; simp only [CS.den, hs, sOf_dst hns hg]; rfl
  · obtain ⟨o, e, _, h1, h2, h3, h4⟩ := at_ k hk
    simp only [h3, h4, kdOf, h1]
    have hk2 := h2.k
    cases hek : e.k with
    | off => rw [hek] at hk2; simp only at hk2 ⊢; rw [hk2.2]; rfl
    | pure x ids => rw [hek] at hk2; simp only at hk2 ⊢; rw [hk2.2.2]; rfl
    | exact y => rfl
  · obtain ⟨o, e, _, h1, h2, h3, h4⟩ := at_ k hk
    simp only [h3, h4, kdOf, h1]
    have hk2 := h2.k
    cases hek : e.k with
    | off => rw [hek] at hk2; simp only at hk2 ⊢; rw [hk2.2]; exact ⟨rfl, Nat.le_refl _⟩
    | pure x ids => rw [hek] at hk2; simp only at hk2 ⊢; rw [hk2.2.2]; exact ⟨rfl, Nat.le_refl _⟩
    | exact y =>
      rw [hek] at hk2
      exact ⟨rfl, hk2.2.2.1⟩
  · obtain ⟨e, h1, h2, h3, h4⟩ := chainS_at h k o hk
    simp only [h3]
    simp only [kdOf, h1] at hd
    have hk2 := h2.k
    cases hek : e.k with
    | off => rw [hek] at hk2; exact hk2.1
    | pure x ids => rw [hek] at hd; cases hd
    | exact y => rw [hek] at hd; cases hd
  · obtain ⟨e, h1, h2, h3, h4⟩ := chainS_at h k o hk
    simp only [h3]
    simp only [kdOf, h1] at hd
    have hk2 := h2.k
    cases hek : e.k with
    | off => rw [hek] at hd; cases hd
    | exact y => rw [hek] at hd; cases hd
    | pure x' ids' =>
      rw [hek] at hd hk2
      cases hd
      simp only at hk2
      exact ⟨hk2.1, hk2.2.1⟩
  · obtain ⟨e, h1, h2, h3, h4⟩ := chainS_at h k o hk
    simp only [h3]
    simp only [kdOf, h1] at hd
    have hk2 := h2.k
    cases hek : e.k with
    | off => rw [hek] at hd; cases hd
    | pure x ids => rw [hek] at hd; cases hd
    | exact y' =>
      rw [hek] at hd hk2
      cases hd
      simp only at hk2
      exact ⟨hk2.1, hk2.2.1⟩
  · have a1 : (l.toArray.toList.map fun o => (maskL (guardSlot l.toArray o ++ slotsOf o.op), maskL o.dst.toList))[i]? = some (maskL (guardSlot l.toArray oi ++ slotsOf oi.op), maskL oi.dst.toList) := by simp [hi]
    have a2 : (l.toArray.toList.map fun o => (maskL (guardSlot l.toArray o ++ slotsOf o.op), maskL o.dst.toList))[k]? = some (maskL (guardSlot l.toArray ok ++ slotsOf ok.op), maskL ok.dst.toList) := by simp [hk]
    obtain ⟨b, hb, h5⟩ := stAll_spec hst.2 (by rw [ancs_len]; simp) i k _ _ hik a1 a2
    rcases h5 with h5 | h6
    · exact bit hb (by simpa using h5)
    · exfalso
      obtain ⟨h7, h8⟩ := or_zero h6
      rcases ht with ⟨ht, h9⟩ | ⟨ht, h9⟩
      · refine and_bit h7 (x := t) (maskL_mem (by simp [ht])) ?_
        rw [Nat.testBit_or, Bool.or_eq_true]
        rcases h9 with h9 | h9 | h9
        · exact .inr (maskL_mem (by simp [h9]))
        · exact .inl (maskL_mem (List.mem_append_left _ h9))
        · exact .inl (maskL_mem (List.mem_append_right _ h9))
      · refine and_bit h8 (x := t) (maskL_mem ?_) (maskL_mem (by simp [ht]))
        rcases h9 with h9 | h9
        · exact List.mem_append_left _ h9
        · exact List.mem_append_right _ h9
  · obtain ⟨e, y, h1, h2⟩ := kd_ex hi
    obtain ⟨f, z, g1, g2⟩ := kd_ex he
    obtain ⟨b, hb, h5⟩ := anc i k e f hik h1 g1 (.inl ⟨y, h2⟩)
    unfold pairOk at h5
    rw [h2, g2] at h5
    exact bit hb h5
  · obtain ⟨e, y, h1, h2⟩ := kd_ex hi
    obtain ⟨f, g1, g2⟩ := kd_pure he
    obtain ⟨b, hb, h5⟩ := anc i k e f hik h1 g1 (.inl ⟨y, h2⟩)
    unfold pairOk at h5
    rw [h2, g2, Bool.or_eq_true] at h5
    refine h5.imp (fun h5 => bit hb h5) fun h5 j hj => ?_
    have h6 := sameB_eq (List.all_eq_true.1 h5 j hj)
    obtain ⟨o, e', _, q1, _, q3, q4⟩ := at_ i (by omega)
    rw [h1] at q1
    cases q1
    simp only [q3, q4, CS.den, mOf, h6]
  · obtain ⟨e, h1, h2⟩ := kd_pure hi
    obtain ⟨f, y, g1, g2⟩ := kd_ex he
    obtain ⟨b, hb, h5⟩ := anc i k e f hik h1 g1 (.inr ⟨y, g2⟩)
    unfold pairOk at h5
    rw [h2, g2, Bool.or_eq_true] at h5
    refine h5.imp (fun h5 => bit hb h5) fun h5 j hj => ?_
    have h6 := sameB_eq (List.all_eq_true.1 h5 j hj)
    obtain ⟨o, e', _, q1, _, q3, q4⟩ := at_ k hk
    rw [g1] at q1
    cases q1
    simp only [q3, q4, CS.den, mOf, h6]
theorem chainS_mono {ops : Array Oper} {l : List Oper} {es : List En} {s sF : CS} (h : ChainS P r ns ops l es s sF) : s.n ≤ sF.n ∧ Recs s.mem sF.mem := by
  induction h with
  | nil => exact ⟨Nat.le_refl _, Recs.refl _⟩
  | @cons o l e es sF he hc ih =>
    have hk := he.k
    have h0 : e.s.n ≤ e.s'.n ∧ Recs e.s.mem e.s'.mem := by
      cases hek : e.k with
      | off => rw [hek] at hk; simp only at hk; rw [hk.2]; exact ⟨Nat.le_refl _, Recs.refl _⟩
      | pure x ids => rw [hek] at hk; simp only at hk; rw [hk.2.2]; exact ⟨Nat.le_refl _, Recs.refl _⟩
      | exact y => rw [hek] at hk; exact ⟨hk.2.2.1, hk.2.2.2.1⟩
    exact ⟨Nat.le_trans h0.1 ih.1, h0.2.trans ih.2⟩
/-- What values reach. -/
def idsV : SV → List Nat
  | .fn _ us vs => us.flatMap idsOf2 ++ vs.flatMap idsOf2
  | .agg l => l.flatMap fun
    | .fn _ us vs => us.flatMap idsOf2 ++ vs.flatMap idsOf2
    | x => idsOf2 x
  | x => idsOf2 x
def idsB : Option CB → List Nat
  | some (.bx _ _ n d t _) => (cellsOf n d t 0).flatMap idsV
  | some (.mp _ _ es _) => es.flatMap fun q => idsV q.2.1
  | _ => []
def reachM (m : Tr CB) : Nat → List Nat → List Nat → List Nat
  | 0, _, seen => seen
  | k + 1, l, seen => match l with
    | [] => seen
    | i :: l => bif memN seen i then reachM m k l seen else reachM m k (idsB (m.get i) ++ l) (i :: seen)
/-- A call that returns data and leaves all that it is told of memory. -/
def roCall (P : Program) (T : Tab) (K : Known) (R : Runner) (s : CS) (f : FuncId) (l : List SV) : Option (SV × List Nat) :=
  match (fun ids => (ids, memC s.mem ids)) (reachM s.mem 2000 (l.flatMap idsV) []) with
  | (ids, m0) => match callK P T K R f l s.n m0 with
    | some q => match toD3 q.y with
      | some _ => match subTr m0 q.m && ids.all (fun i => Nat.ble (i + 1) s.n && Nat.ble i 10000000 && (match s.mem.get i with
          | some c => fewB s.n c
          | none => true)) && l.all (few2 s.n) with
        | true => some (q.y, ids)
        | false => none
      | _ => none
    | none => none
theorem memC_get {m : Tr CB} : ∀ {l : List Nat} {i : Nat}, i ∈ l → (∀ j ∈ l, Nat.ble j 10000000 = true) → (memC m l).get i = m.get i
  | [], i, h, _ => by cases h
  | j :: l, i, h, hl => by
    simp only [memC, hl j List.mem_cons_self, cond_true]
    rw [get_putM (lt_deep (hl j List.mem_cons_self))]
    by_cases e : i = j
    · rw [if_pos e, e]
    · rw [if_neg e]
      exact memC_get ((List.mem_cons.1 h).resolve_left e) fun j hj => hl j (List.mem_cons_of_mem _ hj)
theorem roCall_ok (hT : TabOk P T) (hK : KnownOk P K) (hN : NoGor P) (hR : SoundR P R) {s : CS} {f : FuncId} {l : List SV} {x : SV} {ids : List Nat} (h : roCall P T K R s f l = some (x, ids)) : ∃ m0 d, toD3 x = some d ∧ RCall P f l d m0 ∧ ∀ i b, m0 i = some b → i ∈ ids ∧ mOf s.mem i = some b := by
  unfold roCall at h
  simp only at h
  split at h
  · rename_i q hq
    split at h
    · rename_i d' hy
      split at h
      · rename_i hc
        cases h
        simp only [Bool.and_eq_true, List.all_eq_true] at hc
        obtain ⟨⟨c1, c2⟩, c3⟩ := hc
        have H := callK_sound hT hK hN hR hq
        refine ⟨_, d', hy, rcall_of H.call hy (fun i b hb => ?_) (fun i b hb => ?_) (fun i b hb => ?_) fun x hx => few2_ok (c3 x hx), fun i b hb => memC_sub hb⟩
        · simp only [mOf, Option.map_eq_some_iff] at hb ⊢
          obtain ⟨c, hc, rfl⟩ := hb
          exact ⟨c, subTr_get c1 i c hc, rfl⟩
        · exact Nat.le_of_ble_eq_true (c2 i (memC_sub hb).1).1.1
        · obtain ⟨h1, h2⟩ := memC_sub hb
          simp only [mOf, Option.map_eq_some_iff] at h2
          obtain ⟨c, h3, rfl⟩ := h2
          have := (c2 i h1).2
          rw [h3] at this
          exact fewB_ok this
      · cases h
    · cases h
  · cases h
def dr2 (P : Program) (T : Tab) (Z : ZTab) (Q : QTab) (M : MTab) (K : Known) (R : Runner) (ns : Nat) (ops : Array Oper) : List Oper → CS → Option (List En × CS)
  | [], s => some ([], s)
  | o :: l, s => match guardS ops ns s.den o with
    | some false => match dr2 P T Z Q M K R ns ops l ⟨s.n, putD s.sl o.dst (.tup []), s.mem⟩ with
      | some (es, s2) => some (⟨.off, s, ⟨s.n, putD s.sl o.dst (.tup []), s.mem⟩⟩ :: es, s2)
      | none => none
    | some true => match xW2 T M s.mem (evR (slotsOf o.op) ns (sOf s.sl)) o.op with
     | some (x, m') => match dr2 P T Z Q M K R ns ops l ⟨s.n + 1, putD s.sl o.dst x, m'⟩ with
      | some (es, s2) => some (⟨.exact x, s, ⟨s.n + 1, putD s.sl o.dst x, m'⟩⟩ :: es, s2)
      | none => none
     | none => match plainS o.op with
      | true => match xR T Q M (memC s.mem (readsOf (sOf s.sl) o.op)) (evR (slotsOf o.op) ns (sOf s.sl)) o.op with
        | some x => match dr2 P T Z Q M K R ns ops l ⟨s.n, putD s.sl o.dst x, s.mem⟩ with
          | some (es, s2) => some (⟨.pure x (readsOf (sOf s.sl) o.op), s, ⟨s.n, putD s.sl o.dst x, s.mem⟩⟩ :: es, s2)
          | none => none
        | none => none
      | false => match (match calleeC (evR (slotsOf o.op) ns (sOf s.sl)) o.op with
          | .fn f l => roCall P T K R s f l
          | _ => none) with
        | some (d, ids) => match dr2 P T Z Q M K R ns ops l ⟨s.n, putD s.sl o.dst d, s.mem⟩ with
          | some (es, s2) => some (⟨.pure d ids, s, ⟨s.n, putD s.sl o.dst d, s.mem⟩⟩ :: es, s2)
          | none => none
        | none => match doOp P T Z Q M K R (evR (slotsOf o.op) ns (sOf s.sl)) s o with
          | some q => match dr2 P T Z Q M K R ns ops l ⟨q.n, putD s.sl o.dst q.y, q.m⟩ with
            | some (es, s2) => some (⟨.exact q.y, s, ⟨q.n, putD s.sl o.dst q.y, q.m⟩⟩ :: es, s2)
            | none => none
          | none => none
    | none => none
theorem dr2_chain (hT : TabOk P T) (hZ : ZTabOk T Z) (hQ : QTabOk P Q) (hM : MTabOk P M) (hK : KnownOk P K) (hN : NoGor P) (hR : SoundR P R) {ops : Array Oper} : ∀ (l : List Oper) (s : CS) {es : List En} {sF : CS}, dr2 P T Z Q M K R ns ops l s = some (es, sF) → ChainS P r ns ops l es s sF
  | [], s, es, sF, h => by cases h; exact .nil s
  | o :: l, s, es, sF, h => by
    simp only [dr2] at h
    split at h
    · rename_i hg
      split at h
      · rename_i es' s2 hr
        cases h
        exact .cons (e := ⟨.off, s, _⟩) ⟨hg, rfl⟩ (dr2_chain hT hZ hQ hM hK hN hR l _ hr)
      · cases h
    · rename_i hg
      split at h
      · rename_i x m' hx
        split at h
        · rename_i es' s2 hr
          cases h
          exact .cons (e := ⟨.exact x, s, _⟩) ⟨hg, fun s' hsl hme => xW2_step hT hM hme (evR_slots (s := s') hsl) hx, Nat.le_succ _, xW2_recs hx, rfl⟩ (dr2_chain hT hZ hQ hM hK hN hR l _ hr)
        · cases h
      split at h
      · rename_i hp
        split at h
        · rename_i x hx
          split at h
          · rename_i es' s2 hr
            cases h
            refine .cons (e := ⟨.pure x _, s, _⟩) ⟨hg, fun s' hsl hme => PureStep.ro (fun c e' => ?_) fun W0 R0 D E a w hsim => ?_, rfl⟩ (dr2_chain hT hZ hQ hM hK hN hR l _ hr)
            · have hp2 := plainS_P hp (evR (slotsOf o.op) ns (sOf s.sl))
              unfold plainP at hp2
              split at hp2
              · rename_i hc; exact calleeC_plain hc c e'
              · cases hp2
            · exact xR_run hT hQ hM (fun y v hv => hsim.opd (evR_slots (s := s') hsl y v hv)) (fun i b hi => by
                obtain ⟨q1, q2⟩ := memC_sub hi
                exact hsim.mem i b ((hme i q1).trans q2)) hx
          · cases h
        · cases h
      · split at h
        · rename_i d ids hro
          split at h
          · rename_i es' s2 hr
            cases h
            refine .cons (e := ⟨.pure d ids, s, _⟩) ⟨hg, fun s' hsl hme => ?_, rfl⟩ (dr2_chain hT hZ hQ hM hK hN hR l _ hr)
            split at hro
            · rename_i f args hc
              obtain ⟨m0, d', hd', h1, h2⟩ := roCall_ok hT hK hN hR hro
              exact rcall_step h1 (calleeC_fn (evR_slots (s := s') hsl) hc) (fun i b hb => (hme i (h2 i b hb).1).trans (h2 i b hb).2) hd'
            · cases hro
          · cases h
        · split at h
          · rename_i q hq
            split at h
            · rename_i es' s2 hr
              cases h
              have h5 := doOp_sound hT hZ hQ hM hK hN hR (ns := ns) hq
              exact .cons (e := ⟨.exact q.y, s, _⟩) ⟨hg, fun s' hsl hme => h5.step r s' hme (evR_slots (s := s') hsl), h5.n, h5.recs, rfl⟩ (dr2_chain hT hZ hQ hM hK hN hR l _ hr)
            · cases h
          · cases h
    · cases h
/-- The runner that knows iterators and read-only calls. -/
def bodyY (P : Program) (T : Tab) (Z : ZTab) (Q : QTab) (M : MTab) (K : Known) (X : Runner) : Runner := fun r ns cx c s => match bodyX P T Z Q M K X r ns cx c s with
  | some x => some x
  | none => match cx, c with
    | .no, .region _ ops true => match dr2 P T Z Q M K X ns ops ops.toList s with
      | some (es, s') => match stOk ops && okDyn (ancs ops.toList []) es with
        | true => some (.normal, s')
        | false => none
      | none => none
    | _, _ => none
theorem bodyY_sound (hT : TabOk P T) (hZ : ZTabOk T Z) (hQ : QTabOk P Q) (hM : MTabOk P M) (hK : KnownOk P K) (hN : NoGor P) (hm : P.follows .mixedOrders = true) (hR : SoundR P R) : SoundR P (bodyY P T Z Q M K R) := by
  intro r ns cx c s e s' hns h
  unfold bodyY at h
  split at h
  · rename_i x hx
    cases h
    exact bodyX_sound hT hZ hQ hM hK hN hm hR r ns cx c s e s' hns hx
  · split at h
    · rename_i id ops _
      split at h
      · rename_i es sF hd
        split at h
        · rename_i hc
          cases h
          rw [Bool.and_eq_true] at hc
          have hch := dr2_chain (r := r) hT hZ hQ hM hK hN hR _ _ hd
          have hops : ops = ops.toList.toArray := by simp
          have hch' : ChainS P r ns ops.toList.toArray ops.toList es s s' := by rw [← hops]; exact hch
          have hD := drawS_of hns hch' (by rw [← hops]; exact hc.1) hc.2
          obtain ⟨m1, m2⟩ := chainS_mono hch
          refine ⟨?_, m1, m2⟩
          have h1 := AWi.drawsI (r := r) (id := id) hm (by rw [← hops]; have := hc.1; unfold stOk at this; rw [Bool.and_eq_true] at this; exact this.1) hD (Q := Is .normal s') (by
            simp only [chainS_end hch]
            exact Is.here)
          simp only [chainS_zero hch] at h1
          rw [← hops] at h1
          exact h1
        · cases h
      · cases h
    · cases h
def runY (P : Program) (T : Tab) (Z : ZTab) (Q : QTab) (M : MTab) (K : Known) (n : Nat) : Runner := @Nat.rec (fun _ => Runner) (fun _ _ _ _ _ => none) (fun _ ih => bodyY P T Z Q M K ih) n
theorem runY_sound (hT : TabOk P T) (hZ : ZTabOk T Z) (hQ : QTabOk P Q) (hM : MTabOk P M) (hK : KnownOk P K) (hN : NoGor P) (hm : P.follows .mixedOrders = true) : ∀ n, SoundR P (runY P T Z Q M K n)
  | 0 => fun _ _ _ _ _ _ _ _ h => by cases h
  | n + 1 => bodyY_sound hT hZ hQ hM hK hN hm (runY_sound hT hZ hQ hM hK hN hm n)
theorem memC_of {m : Tr CB} : ∀ {l : List Nat} {i : Nat} {c : CB}, (memC m l).get i = some c → m.get i = some c
  | [], i, c, h => by simp [memC, Tr.get_lf] at h
  | j :: l, i, c, h => by
    simp only [memC] at h
    cases hj : Nat.ble j 10000000 with
    | false => rw [hj] at h; exact memC_of h
    | true =>
      rw [hj, cond_true, get_putM (lt_deep hj)] at h
      by_cases e : i = j
      · rw [if_pos e] at h; rw [e]; exact h
      · rw [if_neg e] at h; exact memC_of h
/-- A call in what its arguments reach of memory alone. -/
def cutCall (P : Program) (T : Tab) (Z : ZTab) (Q : QTab) (M : MTab) (fuel : Nat) (f : FuncId) (args : List SV) (n : Nat) (m : Tr CB) : Option Rs :=
  match memC m (reachM m 2000 (args.flatMap idsV) []) with
  | m0 => match callFn P T (runY P T Z Q M ⟨[], [], noS⟩ fuel) f args n m0 with
    | some q => match noLoop m0 with
      | true => some ⟨q.y, q.n, frameT m m0 q.m⟩
      | false => none
    | none => none
theorem cutCall_ok (hT : TabOk P T) (hZ : ZTabOk T Z) (hQ : QTabOk P Q) (hM : MTabOk P M) (hN : NoGor P) (hm : P.follows .mixedOrders = true) {fuel : Nat} {f : FuncId} {args : List SV} {n : Nat} {m : Tr CB} {q : Rs} (h : cutCall P T Z Q M fuel f args n m = some q) : Calls2 P f args n m q := by
  unfold cutCall at h
  simp only at h
  split at h
  · rename_i q' hq
    split at h
    · rename_i hl
      cases h
      have H := callFn_sound hT hN (runY_sound hT hZ hQ hM (known_sums noS_ok) hN hm fuel) hq
      refine ⟨cwp_more H.call fun i b hb => (memC_sub hb).2, H.n, fun id st pe k sl ps x y hh => ⟨st, pe, ?_⟩⟩
      rw [frameT_get]
      cases h0 : (memC m (reachM m 2000 (args.flatMap idsV) [])).get id with
      | none => simp only [pk, hh]
      | some c =>
        have := memC_of h0
        rw [hh] at this
        cases this
        exact absurd h0 (noLoop_get hl id st pe k sl ps x y)
    · cases h
  · cases h
/-- The call ends as told, at least. -/
def chkY (P : Program) (T : Tab) (Z : ZTab) (Q : QTab) (M : MTab) (K : Known) (fuel : Nat) (e : Ent) : Bool := match callFn P T (runY P T Z Q M K fuel) e.f e.args e.n e.m with
  | some q => same3 q.y e.q.y && Nat.beq q.n e.q.n && subTr e.q.m q.m && noLoop e.m
  | none => false
theorem chkY_ok (hT : TabOk P T) (hZ : ZTabOk T Z) (hQ : QTabOk P Q) (hM : MTabOk P M) (hK : KnownOk P K) (hN : NoGor P) (hm : P.follows .mixedOrders = true) {fuel : Nat} {e : Ent} (h : chkY P T Z Q M K fuel e = true) : Calls2 P e.f e.args e.n e.m e.q := by
  unfold chkY at h
  split at h
  · rename_i q hq
    simp only [Bool.and_eq_true, Nat.beq_eq] at h
    obtain ⟨⟨⟨h1, h2⟩, h3⟩, h4⟩ := h
    have H := callFn_sound hT hN (runY_sound hT hZ hQ hM hK hN hm fuel) hq
    refine H.less (same3_eq h1).symm h2.symm (fun i b hb => ?_) fun id st pe k sl ps x y hh => absurd hh (noLoop_get h4 id st pe k sl ps x y)
    simp only [mOf, Option.map_eq_some_iff] at hb ⊢
    obtain ⟨c, hc, rfl⟩ := hb
    exact ⟨c, subTr_get h3 i c hc, rfl⟩
  · cases h
end Go.Proofs.Ytjjoiihgpkhndaa.Eng

/-
  The runner, part 12: drawn regions in which what is read is the same in whatever order, though blocks are not. No program is named here.
-/
noncomputable section
namespace Go.Proofs.Ytjjoiihgpkhndaa.Eng
open Go.RowKit
variable {P : Program} {T : Tab} {Z : ZTab} {Q : QTab} {M : MTab} {K : Known} {R : Runner} {r : Option Nat} {ns : Nat}

/-- The operations of a region in the order of the text, and that no order changes what is read or written. -/
structure Draw2 (P : Program) (r : Option Nat) (ns : Nat) (l : List Oper) (st : Nat → St) (N : Nat → Nat) (kd : Nat → Kd) : Prop where
  slots : ∀ k o, l[k]? = some o → (st (k + 1)).slots = setSlot (st k).slots o.dst (kd k).res
  mem : ∀ k, k < l.length → (st (k + 1)).mem = (kd k).mem (st k).mem
  names : ∀ k, k < l.length → N (k + 1) = (kd k).n (N k) ∧ N k ≤ N (k + 1)
  off : ∀ k o, l[k]? = some o → kd k = .off → guardS l.toArray ns (st k) o = some false
  pure : ∀ k o x ids, l[k]? = some o → kd k = .pure x ids → guardS l.toArray ns (st k) o = some true ∧
    ∀ p, p ≤ l.length → (∀ e, e < l.length → (kd e).ex = true → Anc l e k → e < p) → (∀ e, e < l.length → (kd e).ex = true → Anc l k e → p ≤ e) → ∀ s', (∀ t ∈ slotsOf o.op, s'.slots t = (st k).slots t) → s'.mem = (st p).mem → ROStep P r ns s' o x
  exact : ∀ k o y n' m', l[k]? = some o → kd k = .exact y n' m' → guardS l.toArray ns (st k) o = some true ∧
    ∀ s', (∀ t ∈ slotsOf o.op, s'.slots t = (st k).slots t) → s'.mem = (st k).mem → StepI P r ns (N k) s' o fun n2 s2 => n2 = n' ∧ s2 = ⟨setSlot s'.slots o.dst y, m'⟩
  cslot : ∀ i k oi ok t, i < k → l[i]? = some oi → l[k]? = some ok → ((oi.dst = some t ∧ (ok.dst = some t ∨ t ∈ guardSlot l.toArray ok ∨ t ∈ slotsOf ok.op)) ∨ (ok.dst = some t ∧ (t ∈ guardSlot l.toArray oi ∨ t ∈ slotsOf oi.op))) → Anc l i k
  cex : ∀ i k, i < k → k < l.length → (kd i).ex = true → (kd k).ex = true → Anc l i k

theorem draw_any2 {l : List Oper} (hB : backB l.toArray = true) {st : Nat → St} {N : Nat → Nat} {kd : Nat → Kd} (H : Draw2 P r ns l st N kd) {W0 : Fix} {R0 : Nat → Prop} {B : Nat} (hi : InAct r W0 R0 B)
    {E : Env} {a : Act} {w : World} (hs : Sim W0 R0 ns (· < N 0) (st 0) E a w) {Q : Exit → Act → World → Prop} (hQ : ∀ E' a' w', Sim W0 R0 ns (· < N l.length) (st l.length) E' a' w' → Q .normal a' w') :
    wpAnyIn (fen (rOf W0 r)) 0 P .any l.toArray Q l.toArray.size (Array.replicate l.toArray.size false) a { w with drawn := w.drawn + 1 } := by
  have mono : ∀ i k, i ≤ k → k ≤ l.length → N i ≤ N k := by
    intro i k hik
    induction k with
    | zero => intro _; (obtain rfl : i = 0 := (by omega)); exact Nat.le_refl _
    | succ k ih =>
      intro hk
      rcases Nat.lt_or_ge i (k + 1) with h | h
      · exact Nat.le_trans (ih (by omega) (by omega)) (H.names k (by omega)).2
      · obtain rfl : i = k + 1 := by omega
        exact Nat.le_refl _
  have nsame : ∀ i k, i ≤ k → k ≤ l.length → (∀ j, i ≤ j → j < k → (kd j).ex = false) → N k = N i := by
    intro i k hik
    induction k with
    | zero => intro _ _; (obtain rfl : i = 0 := (by omega)); rfl
    | succ k ih =>
      intro hk hx
      rcases Nat.lt_or_ge i (k + 1) with h | h
      · rw [(H.names k (by omega)).1, ← ih (by omega) (by omega) fun j h1 h2 => hx j h1 (by omega)]
        have := hx k (by omega) (by omega)
        cases hk : kd k with
        | exact => rw [hk] at this; cases this
        | off => rfl
        | pure => rfl
      · obtain rfl : i = k + 1 := by omega
        rfl
  have msame : ∀ i k, i ≤ k → k ≤ l.length → ∀ x, (∀ j, i ≤ j → j < k → (kd j).ex = true → (st (j + 1)).mem x = (st j).mem x) → (st k).mem x = (st i).mem x := by
    intro i k hik
    induction k with
    | zero => intro _ x _; (obtain rfl : i = 0 := (by omega)); rfl
    | succ k ih =>
      intro hk x hx
      rcases Nat.lt_or_ge i (k + 1) with h | h
      · rw [← ih (by omega) (by omega) x fun j h1 h2 => hx j h1 (by omega)]
        cases hkd : kd k with
        | exact => exact hx k (by omega) (by omega) (by rw [hkd]; rfl)
        | off => rw [H.mem k (by omega), hkd]; rfl
        | pure => rw [H.mem k (by omega), hkd]; rfl
      · obtain rfl : i = k + 1 := by omega
        rfl
  let res : Nat → SV := fun k => (kd k).res
  have text : ∀ (k j : Nat), j ≤ k → k ≤ l.length → slF l res (st 0).slots (fun i => decide (i < k)) j = (st j).slots := by
    intro k j
    induction j with
    | zero => intro _ _; rfl
    | succ j ih =>
      intro hj hk
      have hjl : l[j]? = some l[j] := List.getElem?_eq_getElem (by omega)
      simp only [slF, hjl]
      rw [if_pos (by simp; omega), ih (by omega) hk]
      exact (H.slots j _ hjl).symm
  have textE : ∀ (k : Nat), k ≤ l.length → ∀ j, k ≤ j → slF l res (st 0).slots (fun i => decide (i < k)) j = (st k).slots := by
    intro k hk j
    induction j with
    | zero =>
      intro hj
      obtain rfl : k = 0 := by omega
      rfl
    | succ j ih =>
      intro hj
      rcases Nat.lt_or_ge j k with h | h
      · obtain rfl : k = j + 1 := by omega
        exact text (j + 1) (j + 1) (Nat.le_refl _) hk
      · simp only [slF]
        cases l[j]? with
        | none => exact ih h
        | some o => simp only; rw [if_neg (by simp; omega)]; exact ih h
  let Closed (L : Nat → Bool) : Prop := ∀ i k, Anc l i k → k < l.length → L k = true → L i = true
  -- what operation k sees of the slots
  have see : ∀ (L : Nat → Bool) (k : Nat) (o : Oper), l[k]? = some o → L k = false → Closed L → (∀ i, Anc l i k → L i = true) → ∀ t, (o.dst = some t ∨ t ∈ guardSlot l.toArray o ∨ t ∈ slotsOf o.op) →
      ∀ i oi, l[i]? = some oi → oi.dst = some t → i ≠ k → L i = decide (i < k) := by
    intro L k o hk hLk hC hA t hx i oi hi hw hne
    rcases Nat.lt_or_gt_of_ne hne with h | h
    · rw [decide_eq_true h]
      exact hA i (H.cslot i k oi o t h hi hk (.inl ⟨hw, hx⟩))
    · rw [decide_eq_false (by omega)]
      have hanc : Anc l k i := H.cslot k i o oi t h hk hi (by
        rcases hx with hx | hx
        · exact .inl ⟨hx, .inl hw⟩
        · exact .inr ⟨hw, hx⟩)
      cases hLi : L i with
      | false => rfl
      | true =>
        have := hC k i hanc (List.getElem?_eq_some_iff.1 hi).1 hLi
        rw [hLk] at this
        cases this
  have see_slot : ∀ (L : Nat → Bool) (k : Nat) (o : Oper), l[k]? = some o → L k = false → Closed L → (∀ i, Anc l i k → L i = true) → ∀ t, (t ∈ guardSlot l.toArray o ∨ t ∈ slotsOf o.op) → slF l res (st 0).slots L l.length t = (st k).slots t := by
    intro L k o hk hLk hC hA t hx
    have hkl := (List.getElem?_eq_some_iff.1 hk).1
    rw [← textE k (by omega) l.length (by omega)]
    refine slF_at (fun i oi hi hd => ?_) _
    by_cases e : i = k
    · subst e; rw [hLk]; simp
    · exact see L k o hk hLk hC hA t (.inr hx) i oi hi hd e
  have meet : ∀ (L L' : Nat → Bool) (k : Nat) (o : Oper), l[k]? = some o → L k = false → Closed L → (∀ i, Anc l i k → L i = true) → (∀ i, L' i = if i = k then true else L i) → slF l res (st 0).slots L' l.length = setSlot (slF l res (st 0).slots L l.length) o.dst (res k) := by
    intro L L' k o hk hLk hC hA hL'
    have hkl := (List.getElem?_eq_some_iff.1 hk).1
    funext t
    rw [setSlot_at]
    by_cases hd : o.dst = some t
    · rw [if_pos hd, slF_at (M := fun i => decide (i < k + 1)) (fun i oi hi hdi => ?_) _, textE (k + 1) (by omega) l.length (by omega), H.slots k o hk, setSlot_at, if_pos hd]
      rw [hL']
      by_cases e : i = k
      · subst e; simp
      · rw [if_neg e, see L k o hk hLk hC hA t (.inl hd) i oi hi hdi e]
        by_cases h : i < k
        · rw [decide_eq_true h, decide_eq_true (by omega)]
        · rw [decide_eq_false h, decide_eq_false (by omega)]
    · rw [if_neg hd]
      refine slF_at (fun i oi hi hdi => ?_) _
      rw [hL', if_neg]
      rintro rfl
      rw [hk] at hi
      cases hi
      exact hd hdi
  -- p: behind the last operation met that turns memory
  have key : ∀ (fuel : Nat) (listed : Array Bool) (p : Nat) (E : Env) (a : Act) (w : World), listed.size = l.toArray.size → leftOf l.toArray.size listed ≤ fuel → Closed (fun i => listed.getD i true) → p ≤ l.length →
      (∀ e, e < l.length → (kd e).ex = true → (listed.getD e true = true ↔ e < p)) →
      Sim W0 R0 ns (· < N p) ⟨slF l res (st 0).slots (fun i => listed.getD i true) l.length, (st p).mem⟩ E a w → wpAnyIn (fen (rOf W0 r)) 0 P .any l.toArray Q fuel listed a w := by
    have fin : ∀ (listed : Array Bool) (p : Nat) (E : Env) (a : Act) (w : World), listed.size = l.toArray.size → p ≤ l.length → (∀ e, e < l.length → (kd e).ex = true → (listed.getD e true = true ↔ e < p)) →
        Sim W0 R0 ns (· < N p) ⟨slF l res (st 0).slots (fun i => listed.getD i true) l.length, (st p).mem⟩ E a w → Region.ready .any l.toArray listed = [] → Q .normal a w := by
      intro listed p E a w hsz hp hpx hsim hr
      have hall := all_listed hsz hB hr
      have hne : ∀ j, p ≤ j → j < l.length → (kd j).ex = false := fun j h1 h2 => by
        cases hx : (kd j).ex with
        | false => rfl
        | true => have := (hpx j h2 hx).1 (hall j (by simpa using h2)); omega
      have e : slF l res (st 0).slots (fun i => listed.getD i true) l.length = (st l.length).slots := by
        rw [← text l.length l.length (Nat.le_refl _) (Nat.le_refl _)]
        funext t
        refine slF_at (fun i oi hi _ => ?_) _
        have hil := (List.getElem?_eq_some_iff.1 hi).1
        rw [hall i (by simpa using hil), decide_eq_true hil]
      have e2 : (st p).mem = (st l.length).mem := by
        funext x
        exact (msame p l.length hp (Nat.le_refl _) x fun j h1 h2 h3 => by rw [hne j h1 h2] at h3; cases h3).symm
      rw [e, e2, ← nsame p l.length hp (Nat.le_refl _) hne] at hsim
      exact hQ E a w hsim
    intro fuel
    induction fuel with
    | zero =>
      intro listed p E a w hsz hl hC hp hpx hsim
      have hr : Region.ready .any l.toArray listed = [] := by
        rw [List.eq_nil_iff_forall_not_mem]
        intro i hi
        have h1 := (mem_ready.1 hi).1
        have h2 : i ∈ (List.range l.toArray.size).filter fun j => !listed.getD j true := by
          rw [List.mem_filter]
          refine ⟨List.mem_range.2 ?_, by rw [h1]; rfl⟩
          obtain ⟨o, ho, _⟩ := (mem_ready.1 hi).2
          exact (Array.getElem?_eq_some_iff.1 ho).1
        unfold leftOf at hl
        rw [List.length_eq_zero_iff.1 (Nat.le_zero.1 hl)] at h2
        cases h2
      exact ⟨hr, fin listed p E a w hsz hp hpx hsim hr⟩
    | succ fuel ih =>
      intro listed p E a w hsz hl hC hp hpx hsim
      refine ⟨fun hr => fin listed p E a w hsz hp hpx hsim hr, fun k hk => ?_⟩
      obtain ⟨hun, o, ho, hdep⟩ := mem_ready.1 hk
      have hkl : k < l.length := by have := (Array.getElem?_eq_some_iff.1 ho).1; simpa using this
      have hlk : l[k]? = some o := by simpa using ho
      have hA : ∀ i, Anc l i k → listed.getD i true = true := by
        intro i hi
        cases hi with
        | one h1 h2 h3 =>
          rw [hlk] at h1
          cases h1
          have h4 := hdep _ (by simpa using h2) h3
          rename_i e
          rcases Nat.lt_or_ge e.on listed.size with h5 | h5
          · simp [h5] at h4 ⊢; exact h4
          · simp [Array.getElem?_eq_none h5] at h4
        | more h1 h2 h3 h4 =>
          rw [hlk] at h1
          cases h1
          rename_i e
          have h5 := hdep _ (by simpa using h2) h3
          rcases Nat.lt_or_ge e.on listed.size with h6 | h6
          · refine hC i e.on h4 (by simpa [hsz] using h6) ?_
            simp [h6] at h5 ⊢; exact h5
          · simp [Array.getElem?_eq_none h6] at h5
      have hL' : ∀ i, (listed.setIfInBounds k true).getD i true = if i = k then true else listed.getD i true := fun i => by
        by_cases e : i = k
        · subst e; rw [if_pos rfl]; simp [hsz, hkl]
        · rw [if_neg e]; exact getD_set_ne true (Ne.symm e)
      have hmeet := meet (fun i => listed.getD i true) (fun i => (listed.setIfInBounds k true).getD i true) k o hlk hun hC hA hL'
      have hC' : Closed (fun i => (listed.setIfInBounds k true).getD i true) := by
        intro i j hij hj hLj
        have hLj := (hL' j).symm.trans hLj
        refine (hL' i).trans ?_
        split
        · rfl
        · rename_i hne
          by_cases e : j = k
          · subst e; exact hA i hij
          · rw [if_neg e] at hLj; exact hC i j hij hj hLj
      have hseeS : ∀ t, (t ∈ guardSlot l.toArray o ∨ t ∈ slotsOf o.op) → slF l res (st 0).slots (fun i => listed.getD i true) l.length t = (st k).slots t := see_slot _ k o hlk hun hC hA
      have hgs : ∀ b, guardS l.toArray ns (st k) o = some b → guardS l.toArray ns ⟨slF l res (st 0).slots (fun i => listed.getD i true) l.length, (st p).mem⟩ o = some b := by
        intro b hb
        unfold guardS at hb ⊢
        have hdo : dstOk ns o.dst = true := by by_cases hd : dstOk ns o.dst = true; exact hd; rw [if_neg hd] at hb; cases hb
        rw [if_pos hdo] at hb ⊢
        cases hgd : o.guard with
        | none => rw [hgd] at hb; exact hb
        | some p =>
          obtain ⟨j, want⟩ := p
          rw [hgd] at hb
          simp only at hb ⊢
          cases hj : (l.toArray[j]?).bind (·.dst) with
          | none => rw [hj] at hb; cases hb
          | some t =>
            rw [hj] at hb
            simp only at hb ⊢
            rw [hseeS t (.inl ?_)]
            · exact hb
            · simp only [guardSlot, hgd, hj]
              simp
      have hlf := leftOf_set hsz hun fuel hl
      -- not met: those of k's kind that keep memory
      have stay : (kd k).ex = false → ∀ e, e < l.length → (kd e).ex = true → ((listed.setIfInBounds k true).getD e true = true ↔ e < p) := fun hx e he1 he2 => by
        rw [hL' e, if_neg]
        · exact hpx e he1 he2
        · rintro rfl; rw [hx] at he2; cases he2
      unfold wpOpIn
      rw [show l.toArray[k]? = some o from ho]
      simp only
      cases hkd : kd k with
      | off =>
        have hg := H.off k o hlk hkd
        rw [guard_ok hsim (hgs _ hg), if_neg (by simp)]
        refine ⟨fun f _ => fen_fn _ f, ih _ p E _ w (by simpa using hsz) hlf hC' hp (stay (by rw [hkd]; rfl)) ?_⟩
        rw [hmeet]
        have := hsim.put (guardS_dst hg) rep_no
        simpa [res, hkd, Kd.res] using this
      | pure x ids =>
        obtain ⟨hg, hst⟩ := H.pure k o x ids hlk hkd
        rw [guard_ok hsim (hgs _ hg), if_pos rfl]
        refine hst p hp (fun e he1 he2 he3 => (hpx e he1 he2).1 (hA e he3)) (fun e he1 he2 he3 => ?_) ⟨slF l res (st 0).slots (fun i => listed.getD i true) l.length, (st p).mem⟩ (fun t ht => hseeS t (.inr ht)) rfl (N p) W0 R0 B E a w hi hsim (guardS_dst hg) _ Q fun n2 s2 E' a' w' hG hs' => ?_
        · rcases Nat.lt_or_ge e p with h5 | h5
          · have h6 : listed.getD k true = true := hC k e he3 he1 ((hpx e he1 he2).2 h5)
            rw [hun] at h6; cases h6
          · exact h5
        obtain ⟨rfl, rfl⟩ := hG
        refine ih _ p E' a' w' (by simpa using hsz) hlf hC' hp (stay (by rw [hkd]; rfl)) ?_
        rw [hmeet]
        simpa [res, hkd, Kd.res] using hs'
      | exact y n' m' =>
        obtain ⟨hg, hst⟩ := H.exact k o y n' m' hlk hkd
        rw [guard_ok hsim (hgs _ hg), if_pos rfl]
        have hex : (kd k).ex = true := by rw [hkd]; rfl
        have hpk : p ≤ k := by
          rcases Nat.lt_or_ge k p with h | h
          · have := (hpx k hkl hex).2 h; rw [hun] at this; cases this
          · exact h
        have hno : ∀ j, p ≤ j → j < k → (kd j).ex = false := fun j h1 h2 => by
          cases hx : (kd j).ex with
          | false => rfl
          | true => have := (hpx j (by omega) hx).1 (hA j (H.cex j k h2 hkl hx hex)); omega
        have hm : (st p).mem = (st k).mem := by
          funext x
          exact (msame p k hpk (by omega) x fun j h1 h2 h3 => by rw [hno j h1 h2] at h3; cases h3).symm
        have hsim2 := hsim
        rw [← nsame p k hpk (by omega) hno] at hsim2
        refine hst ⟨slF l res (st 0).slots (fun i => listed.getD i true) l.length, (st p).mem⟩ (fun t ht => hseeS t (.inr ht)) hm W0 R0 B E a w hi hsim2 (guardS_dst hg) _ Q fun n2 s2 E' a' w' hG hs' => ?_
        obtain ⟨rfl, rfl⟩ := hG
        refine ih _ (k + 1) E' a' w' (by simpa using hsz) hlf hC' (by omega) (fun e he1 he2 => ?_) ?_
        · rw [hL' e]
          by_cases e1 : e = k
          · subst e1; simp
          · rw [if_neg e1]
            refine ⟨fun h => ?_, fun h => (hpx e he1 he2).2 ?_⟩
            · have := (hpx e he1 he2).1 h; omega
            · rcases Nat.lt_or_ge e p with h2 | h2
              · exact h2
              · rw [hno e h2 (by omega)] at he2; cases he2
        · rw [hmeet, H.mem k hkl, (H.names k hkl).1, hkd]
          simpa [res, hkd, Kd.res, Kd.mem, Kd.n] using hs'
  have hL0 : ∀ i, i < l.length → (Array.replicate l.toArray.size false).getD i true = false := fun i hi => by simp [hi]
  refine key l.toArray.size _ 0 E a _ (by simp) (by unfold leftOf; exact Nat.le_trans (List.length_filter_le _ _) (by simp)) (fun i k hik hk hLk => by have hLk := (hL0 k hk).symm.trans hLk; cases hLk) (Nat.zero_le _) (fun e he _ => by rw [hL0 e he]; simp) ?_
  have e0 : slF l res (st 0).slots (fun i => (Array.replicate l.toArray.size false).getD i true) l.length = (st 0).slots := by
    refine Eq.trans ?_ (textE 0 (Nat.zero_le _) l.length (Nat.zero_le _))
    funext t
    exact slF_at (fun i oi hi _ => by rw [hL0 i (List.getElem?_eq_some_iff.1 hi).1]; rfl) _
  rw [e0]
  exact hs.drew
theorem AWi.drawsI2 (hm : P.follows .mixedOrders = true) {id : Nat} {l : List Oper} (hB : backB l.toArray = true) {st : Nat → St} {N : Nat → Nat} {kd : Nat → Kd} (H : Draw2 P r ns l st N kd) {Q : Post} (h : Q .normal (N l.length) (st l.length)) :
    AWi P r ns (.region id l.toArray true) (N 0) (st 0) Q := fun W0 R0 B E a w hi hs =>
  wpIn_region_any hm (draw_any2 hB H hi hs fun E' a' w' hs' => ⟨_, _, E', W0, Ext.refl _, hi, hs', h⟩)
def exAt (es : List En) (k : Nat) : Bool := match es[k]? with
  | some e => match e.k with
    | .exact _ => true
    | _ => false
  | none => false
theorem kd_exAt (es : List En) (k : Nat) : (kdOf es k).ex = exAt es k := by
  unfold kdOf exAt
  cases es[k]? with
  | none => rfl
  | some e =>
    simp only
    cases e.k <;> rfl
/-- Operations that turn memory stand in order. -/
def okEx (l : List Oper) (es : List En) : Bool := (List.range es.length).all fun k => (List.range k).all fun i => !exAt es i || (!exAt es k || ((ancs l []).getD k 0).testBit i)
/-- Operation k may come when those that turn memory and stand before p are met. -/
def winOk (l : List Oper) (es : List En) (k p : Nat) : Bool := (List.range es.length).all fun e => !exAt es e || ((!((ancs l []).getD k 0).testBit e || Nat.blt e p) && (!((ancs l []).getD e 0).testBit k || Nat.ble p e))
theorem draw2_of (hns : okN ns = true) {l : List Oper} {es : List En} {s sF : CS} (h : ChainS P r ns l.toArray l es s sF) (hst : stOk l.toArray = true) (hx : okEx l es = true) (hw : ∀ (k : Nat) o e x ids, l[k]? = some o → es[k]? = some e → e.k = .pure x ids → ∀ p, p ≤ l.length → winOk l es k p = true → ∀ s' : St, (∀ t ∈ slotsOf o.op, s'.slots t = e.s.den.slots t) → s'.mem = (stAt es sF p).den.mem → ROStep P r ns s' o x) :
    Draw2 P r ns l (fun k => (stAt es sF k).den) (fun k => (stAt es sF k).n) (kdOf es) := by
  have hlen := chainS_len h
  have at_ : ∀ (k : Nat), k < l.length → ∃ o e, l[k]? = some o ∧ es[k]? = some e ∧ EnS P r ns l.toArray o e ∧ stAt es sF k = e.s ∧ stAt es sF (k + 1) = e.s' := fun k hk => by
    obtain ⟨e, h1, h2, h3, h4⟩ := chainS_at h k _ (List.getElem?_eq_getElem hk)
    exact ⟨_, e, List.getElem?_eq_getElem hk, h1, h2, h3, h4⟩
  unfold stOk at hst
  rw [Bool.and_eq_true] at hst
  have bit : ∀ {i k b : Nat}, (ancs l [])[k]? = some b → b.testBit i = true → Anc l i k := fun {i k b} hb hbt => by
    refine ancs_ok l [] [] rfl rfl (fun k i hk => by simp at hk) k i ?_
    rw [List.getD_eq_getElem?_getD, hb]
    simpa using hbt
  have bitD : ∀ {i k : Nat}, ((ancs l []).getD k 0).testBit i = true → Anc l i k := fun {i k} hb => ancs_ok l [] [] rfl rfl (fun k i hk => by simp at hk) k i hb
  refine ⟨fun k o hk => ?_, fun k hk => ?_, fun k hk => ?_, fun k o hk hd => ?_, fun k o x ids hk hd => ?_, fun k o y n' m' hk hd => ?_, fun i k oi ok t hik hi hk ht => ?_, fun i k hik hk hi he => ?_⟩
  · obtain ⟨e, h1, h2, h3, h4⟩ := chainS_at h k o hk
    simp only [h3, h4, kdOf, h1]
    have hk2 := h2.k
    cases hek : e.k with
    | off => rw [hek] at hk2; simp only at hk2 ⊢; rw [hk2.2]; simp only [CS.den, sOf_dst hns hk2.1]; rfl
    | pure x ids => rw [hek] at hk2; simp only at hk2 ⊢; rw [hk2.2.2]; simp only [CS.den, sOf_dst hns hk2.1]; rfl
    | exact y => rw [hek] at hk2; simp only at hk2 ⊢; obtain ⟨hg, _, _, _, hs⟩ := hk2; simp only [CS.den, hs, sOf_dst hns hg]; rfl
  · obtain ⟨o, e, _, h1, h2, h3, h4⟩ := at_ k hk
    simp only [h3, h4, kdOf, h1]
    have hk2 := h2.k
    cases hek : e.k with
    | off => rw [hek] at hk2; simp only at hk2 ⊢; rw [hk2.2]; rfl
    | pure x ids => rw [hek] at hk2; simp only at hk2 ⊢; rw [hk2.2.2]; rfl
    | exact y => rfl
  · obtain ⟨o, e, _, h1, h2, h3, h4⟩ := at_ k hk
    simp only [h3, h4, kdOf, h1]
    have hk2 := h2.k
    cases hek : e.k with
    | off => rw [hek] at hk2; simp only at hk2 ⊢; rw [hk2.2]; exact ⟨rfl, Nat.le_refl _⟩
    | pure x ids => rw [hek] at hk2; simp only at hk2 ⊢; rw [hk2.2.2]; exact ⟨rfl, Nat.le_refl _⟩
    | exact y =>
      rw [hek] at hk2
      exact ⟨rfl, hk2.2.2.1⟩
  · obtain ⟨e, h1, h2, h3, h4⟩ := chainS_at h k o hk
    simp only [h3]
    simp only [kdOf, h1] at hd
    have hk2 := h2.k
    cases hek : e.k with
    | off => rw [hek] at hk2; exact hk2.1
    | pure x ids => rw [hek] at hd; cases hd
    | exact y => rw [hek] at hd; cases hd
  · obtain ⟨e, h1, h2, h3, h4⟩ := chainS_at h k o hk
    simp only [h3]
    simp only [kdOf, h1] at hd
    have hk2 := h2.k
    cases hek : e.k with
    | off => rw [hek] at hd; cases hd
    | exact y => rw [hek] at hd; cases hd
    | pure x' ids' =>
      rw [hek] at hd hk2
      cases hd
      simp only at hk2
      refine ⟨hk2.1, fun p hp q1 q2 s' hsl hme => hw k o e x ids hk h1 hek p hp ?_ s' hsl hme⟩
      unfold winOk
      rw [List.all_eq_true]
      intro g hg
      rw [List.mem_range, hlen] at hg
      cases hxg : exAt es g with
      | false => rfl
      | true =>
        have hxg' : (kdOf es g).ex = true := by rw [kd_exAt]; exact hxg
        simp only [Bool.not_true, Bool.false_or, Bool.and_eq_true, Bool.or_eq_true, Bool.not_eq_true', Nat.blt_eq, Nat.ble_eq]
        refine ⟨?_, ?_⟩
        · cases hb : ((ancs l []).getD k 0).testBit g with
          | false => exact .inl rfl
          | true => exact .inr (q1 g hg hxg' (bitD hb))
        · cases hb : ((ancs l []).getD g 0).testBit k with
          | false => exact .inl rfl
          | true => exact .inr (q2 g hg hxg' (bitD hb))
  · obtain ⟨e, h1, h2, h3, h4⟩ := chainS_at h k o hk
    simp only [h3]
    simp only [kdOf, h1] at hd
    have hk2 := h2.k
    cases hek : e.k with
    | off => rw [hek] at hd; cases hd
    | pure x ids => rw [hek] at hd; cases hd
    | exact y' =>
      rw [hek] at hd hk2
      cases hd
      simp only at hk2
      exact ⟨hk2.1, hk2.2.1⟩
  · have a1 : (l.toArray.toList.map fun o => (maskL (guardSlot l.toArray o ++ slotsOf o.op), maskL o.dst.toList))[i]? = some (maskL (guardSlot l.toArray oi ++ slotsOf oi.op), maskL oi.dst.toList) := by simp [hi]
    have a2 : (l.toArray.toList.map fun o => (maskL (guardSlot l.toArray o ++ slotsOf o.op), maskL o.dst.toList))[k]? = some (maskL (guardSlot l.toArray ok ++ slotsOf ok.op), maskL ok.dst.toList) := by simp [hk]
    obtain ⟨b, hb, h5⟩ := stAll_spec hst.2 (by rw [ancs_len]; simp) i k _ _ hik a1 a2
    rcases h5 with h5 | h6
    · exact bit hb (by simpa using h5)
    · exfalso
      obtain ⟨h7, h8⟩ := or_zero h6
      rcases ht with ⟨ht, h9⟩ | ⟨ht, h9⟩
      · refine and_bit h7 (x := t) (maskL_mem (by simp [ht])) ?_
        rw [Nat.testBit_or, Bool.or_eq_true]
        rcases h9 with h9 | h9 | h9
        · exact .inr (maskL_mem (by simp [h9]))
        · exact .inl (maskL_mem (List.mem_append_left _ h9))
        · exact .inl (maskL_mem (List.mem_append_right _ h9))
      · refine and_bit h8 (x := t) (maskL_mem ?_) (maskL_mem (by simp [ht]))
        rcases h9 with h9 | h9
        · exact List.mem_append_left _ h9
        · exact List.mem_append_right _ h9
  · rw [kd_exAt] at hi he
    unfold okEx at hx
    rw [List.all_eq_true] at hx
    have h1 := hx k (List.mem_range.2 (by rw [hlen]; exact hk))
    rw [List.all_eq_true] at h1
    have h2 := h1 i (List.mem_range.2 hik)
    rw [hi, he] at h2
    exact bitD (by simpa using h2)
/-- What is read is the same whenever it may be read. -/
def okReads (T : Tab) (Q : QTab) (M : MTab) (ns : Nat) (l : List Oper) (es : List En) (sF : CS) : Bool := (List.range es.length).all fun k => match l[k]?, es[k]? with
  | some o, some e => match e.k with
    | .pure x ids => ids.isEmpty || (List.range (es.length + 1)).all fun p => !winOk l es k p || ((ids.all fun j => sameB ((stAt es sF p).mem.get j) (e.s.mem.get j)) ||
        (plainS o.op && match xR T Q M (memC (stAt es sF p).mem ids) (evR (slotsOf o.op) ns (sOf e.s.sl)) o.op with
          | some y => same3 y x
          | none => false))
    | _ => true
  | _, _ => true
theorem okReads_ok (hT : TabOk P T) (hQ : QTabOk P Q) (hM : MTabOk P M) {l : List Oper} {es : List En} {s sF : CS} (h : ChainS P r ns l.toArray l es s sF) (hok : okReads T Q M ns l es sF = true) : ∀ (k : Nat) o e x ids, l[k]? = some o → es[k]? = some e → e.k = .pure x ids → ∀ p, p ≤ l.length → winOk l es k p = true → ∀ s' : St, (∀ t ∈ slotsOf o.op, s'.slots t = e.s.den.slots t) → s'.mem = (stAt es sF p).den.mem → ROStep P r ns s' o x := by
  intro k o e x ids hk he hek p hp hwin s' hsl hme
  obtain ⟨e', h1, h2, _, _⟩ := chainS_at h k o hk
  rw [he] at h1
  cases h1
  have hk2 := h2.k
  rw [hek] at hk2
  simp only at hk2
  unfold okReads at hok
  rw [List.all_eq_true] at hok
  have h3 := hok k (List.mem_range.2 (List.getElem?_eq_some_iff.1 he).1)
  rw [hk, he] at h3
  simp only [hek, Bool.or_eq_true] at h3
  rcases h3 with h3 | h3
  · have : ids = [] := by simpa using h3
    subst this
    exact hk2.2.1 s' hsl fun i hi => by cases hi
  · rw [List.all_eq_true] at h3
    have h4 := h3 p (List.mem_range.2 (by rw [chainS_len h]; omega))
    rw [hwin] at h4
    simp only [Bool.not_true, Bool.false_or, Bool.or_eq_true] at h4
    rcases h4 with h4 | h4
    · rw [List.all_eq_true] at h4
      refine hk2.2.1 s' hsl fun i hi => ?_
      rw [hme]
      show mOf _ i = mOf _ i
      simp only [mOf, sameB_eq (h4 i hi)]
    · rw [Bool.and_eq_true] at h4
      obtain ⟨hp1, h5⟩ := h4
      split at h5
      · rename_i y hy
        rw [same3_eq h5] at hy
        refine PureStep.ro (fun c e' => ?_) fun W0 R0 D E a w hsim => ?_
        · have hp2 := plainS_P hp1 (evR (slotsOf o.op) ns (sOf e.s.sl))
          unfold plainP at hp2
          split at hp2
          · rename_i hc; exact calleeC_plain hc c e'
          · cases hp2
        · exact xR_run hT hQ hM (fun y v hv => hsim.opd (evR_slots (s := s') hsl y v hv)) (fun i b hi => by
            obtain ⟨q1, q2⟩ := memC_sub hi
            exact hsim.mem i b (by rw [hme]; exact q2)) hy
      · cases h5
/-- The runner that knows iterators, read-only calls, and reads that no order changes. -/
def bodyZ (P : Program) (T : Tab) (Z : ZTab) (Q : QTab) (M : MTab) (K : Known) (X : Runner) : Runner := fun r ns cx c s => match bodyY P T Z Q M K X r ns cx c s with
  | some x => some x
  | none => match cx, c with
    | .no, .region _ ops true => match dr2 P T Z Q M K X ns ops ops.toList s with
      | some (es, s') => match stOk ops && (okEx ops.toList es && okReads T Q M ns ops.toList es s') with
        | true => some (.normal, s')
        | false => none
      | none => none
    | _, _ => none
theorem bodyZ_sound (hT : TabOk P T) (hZ : ZTabOk T Z) (hQ : QTabOk P Q) (hM : MTabOk P M) (hK : KnownOk P K) (hN : NoGor P) (hm : P.follows .mixedOrders = true) (hR : SoundR P R) : SoundR P (bodyZ P T Z Q M K R) := by
  intro r ns cx c s e s' hns h
  unfold bodyZ at h
  split at h
  · rename_i x hx
    cases h
    exact bodyY_sound hT hZ hQ hM hK hN hm hR r ns cx c s e s' hns hx
  · split at h
    · rename_i id ops _
      split at h
      · rename_i es sF hd
        split at h
        · rename_i hc
          cases h
          rw [Bool.and_eq_true, Bool.and_eq_true] at hc
          have hch := dr2_chain (r := r) hT hZ hQ hM hK hN hR _ _ hd
          have hops : ops = ops.toList.toArray := by simp
          have hch' : ChainS P r ns ops.toList.toArray ops.toList es s s' := by rw [← hops]; exact hch
          have hD := draw2_of hns hch' (by rw [← hops]; exact hc.1) hc.2.1 (okReads_ok hT hQ hM hch' hc.2.2)
          obtain ⟨m1, m2⟩ := chainS_mono hch
          refine ⟨?_, m1, m2⟩
          have h1 := AWi.drawsI2 (r := r) (id := id) hm (by rw [← hops]; have := hc.1; unfold stOk at this; rw [Bool.and_eq_true] at this; exact this.1) hD (Q := Is .normal s') (by
            simp only [chainS_end hch]
            exact Is.here)
          simp only [chainS_zero hch] at h1
          rw [← hops] at h1
          exact h1
        · cases h
      · cases h
    · cases h
def runZ (P : Program) (T : Tab) (Z : ZTab) (Q : QTab) (M : MTab) (K : Known) (n : Nat) : Runner := @Nat.rec (fun _ => Runner) (fun _ _ _ _ _ => none) (fun _ ih => bodyZ P T Z Q M K ih) n
theorem runZ_sound (hT : TabOk P T) (hZ : ZTabOk T Z) (hQ : QTabOk P Q) (hM : MTabOk P M) (hK : KnownOk P K) (hN : NoGor P) (hm : P.follows .mixedOrders = true) : ∀ n, SoundR P (runZ P T Z Q M K n)
  | 0 => fun _ _ _ _ _ _ _ _ h => by cases h
  | n + 1 => bodyZ_sound hT hZ hQ hM hK hN hm (runZ_sound hT hZ hQ hM hK hN hm n)
/-- The call ends as told, at least. -/
def chkZ (P : Program) (T : Tab) (Z : ZTab) (Q : QTab) (M : MTab) (K : Known) (fuel : Nat) (e : Ent) : Bool := match callFn P T (runZ P T Z Q M K fuel) e.f e.args e.n e.m with
  | some q => same3 q.y e.q.y && Nat.beq q.n e.q.n && subTr e.q.m q.m && noLoop e.m
  | none => false
theorem chkZ_ok (hT : TabOk P T) (hZ : ZTabOk T Z) (hQ : QTabOk P Q) (hM : MTabOk P M) (hK : KnownOk P K) (hN : NoGor P) (hm : P.follows .mixedOrders = true) {fuel : Nat} {e : Ent} (h : chkZ P T Z Q M K fuel e = true) : Calls2 P e.f e.args e.n e.m e.q := by
  unfold chkZ at h
  split at h
  · rename_i q hq
    simp only [Bool.and_eq_true, Nat.beq_eq] at h
    obtain ⟨⟨⟨h1, h2⟩, h3⟩, h4⟩ := h
    have H := callFn_sound hT hN (runZ_sound hT hZ hQ hM hK hN hm fuel) hq
    refine H.less (same3_eq h1).symm h2.symm (fun i b hb => ?_) fun id st pe k sl ps x y hh => absurd hh (noLoop_get h4 id st pe k sl ps x y)
    simp only [mOf, Option.map_eq_some_iff] at hb ⊢
    obtain ⟨c, hc, rfl⟩ := hb
    exact ⟨c, subTr_get h3 i c hc, rfl⟩
  · cases h
end Go.Proofs.Ytjjoiihgpkhndaa.Eng

/-
  The runner, part 13: a call that was run with names from n on holds whatever further names there are. No program is named here.
-/
noncomputable section
namespace Go.Proofs.Ytjjoiihgpkhndaa.Eng
open Go.RowKit
variable {P : Program} {T : Tab} {Z : ZTab} {Q : QTab} {M : MTab} {K : Known} {R : Runner} {r : Option Nat} {ns : Nat}

/-- Names in it are of this set. -/
inductive Of (S : Nat → Prop) : SV → Prop where
  | und : Of S .und
  | d (x : Dat) : Of S (.d x)
  | nilS : Of S .nilS
  | ptr (id i j : Nat) : S id → Of S (.ptr id i j)
  | mp (id : Nat) : S id → Of S (.mp id)
  | sl (id off k : Nat) (c : Option Nat) : S id → Of S (.sl id off k c)
  | yield (id : Nat) : S id → Of S (.yield id)
  | agg (cs : List SV) : (∀ c ∈ cs, Of S c) → Of S (.agg cs)
  | tup (cs : List SV) : (∀ c ∈ cs, Of S c) → Of S (.tup cs)
  | fn (f : FuncId) (us vs : List SV) : (∀ c ∈ us, Of S c) → (∀ c ∈ vs, Of S c) → Of S (.fn f us vs)
def of0 (S : Nat → Bool) : SV → Bool
  | .und | .d _ | .nilS => true
  | .ptr id _ _ | .mp id | .sl id _ _ _ | .yield id => S id
  | _ => false
def of1 (S : Nat → Bool) : SV → Bool
  | .fn _ us vs => us.all (of0 S) && vs.all (of0 S)
  | x => of0 S x
def of2 (S : Nat → Bool) : SV → Bool
  | .agg l => l.all (of1 S)
  | x => of1 S x
def of3 (S : Nat → Bool) : SV → Bool
  | .tup l => l.all (of2 S)
  | x => of2 S x
theorem of0_ok {S : Nat → Bool} {x : SV} (h : of0 S x = true) : Of (fun i => S i = true) x := by
  unfold of0 at h
  split at h
  · exact .und
  · exact .d _
  · exact .nilS
  · exact .ptr _ _ _ h
  · exact .mp _ h
  · exact .sl _ _ _ _ h
  · exact .yield _ h
  · cases h
theorem of1_ok {S : Nat → Bool} {x : SV} (h : of1 S x = true) : Of (fun i => S i = true) x := by
  unfold of1 at h
  split at h
  · rw [Bool.and_eq_true, List.all_eq_true, List.all_eq_true] at h
    exact .fn _ _ _ (fun c hc => of0_ok (h.1 c hc)) fun c hc => of0_ok (h.2 c hc)
  · exact of0_ok h
theorem of2_ok {S : Nat → Bool} {x : SV} (h : of2 S x = true) : Of (fun i => S i = true) x := by
  unfold of2 at h
  split at h
  · rw [List.all_eq_true] at h
    exact .agg _ fun c hc => of1_ok (h c hc)
  · exact of1_ok h
theorem of3_ok {S : Nat → Bool} {x : SV} (h : of3 S x = true) : Of (fun i => S i = true) x := by
  unfold of3 at h
  split at h
  · rw [List.all_eq_true] at h
    exact .tup _ fun c hc => of2_ok (h c hc)
  · exact of2_ok h
theorem Rep.of {S : Nat → Prop} {E E0 : Env} {w : World} {x : SV} {v : Value} (hr : E0.ro = E.ro) (hd : ∀ i, E.dom i → S i → E0.dom i) (hh : ∀ i, E.dom i → S i → E0.home i = E.home i) (h : Rep E w x v) : Of S x → Rep E0 w x v := by
  induction h with
  | und v => exact fun _ => .und v
  | d x v h => exact fun _ => .d x v (h.keep (fun b hb => by rw [hr]; exact hb) fun _ _ => rfl)
  | agg cs vs hs h1 _ ih => intro hf; cases hf with | agg _ k => exact .agg cs vs hs h1 fun i c v hc hv => ih i c v hc hv (k c (List.mem_of_getElem? hc))
  | nilS => exact fun _ => .nilS
  | lin id n _ hz hc => intro hf; cases hf
  | own id n z _ hz => intro hf; cases hf
  | rptr cs b off f hb h1 hc hr' => intro hf; cases hf
  | ptr id i j k => intro hf; cases hf with | ptr _ _ _ q => rw [← hh id k q]; exact .ptr id i j (hd _ k q)
  | fn f xs ys us vs h1 h2 _ _ ih1 ih2 =>
    intro hf
    cases hf with
    | fn _ _ _ q1 q2 => exact .fn f xs ys us vs h1 h2 (fun i c v hc hv => ih1 i c v hc hv (q1 c (List.mem_of_getElem? hc))) fun i c v hc hv => ih2 i c v hc hv (q2 c (List.mem_of_getElem? hc))
  | tup cs vs hs _ ih => intro hf; cases hf with | tup _ k => exact .tup cs vs hs fun i c v hc hv => ih i c v hc hv (k c (List.mem_of_getElem? hc))
  | yield id k => intro hf; cases hf with | yield _ q => rw [← hh id k q]; exact .yield id (hd _ k q)
  | sl id off n c o k h1 hk ho hn => intro hf; cases hf with | sl _ _ _ _ q => rw [← hh id h1 q] at hk ⊢; exact .sl id off n c o k (hd _ h1 q) hk ho hn
  | mp id k => intro hf; cases hf with | mp _ q => rw [← hh id k q]; exact .mp id (hd _ k q)
  | full rows A h => intro hf; cases hf
inductive OfB (S : Nat → Prop) : Blk → Prop where
  | box (ty : TypeId) (cs : List SV) (f : Bool) : (∀ c ∈ cs, Of S c) → OfB S (.box ty cs f)
  | part (z : Nat) (ty : TypeId) (cs : List SV) (f : Bool) : (∀ c ∈ cs, Of S c) → OfB S (.part z ty cs f)
  | map (es : List (Value × SV × Nat)) (clock : Nat) (f : Bool) : (∀ q ∈ es, Of S q.2.1) → OfB S (.map es clock f)
theorem Holds.of {S : Nat → Prop} {E E0 : Env} {w : World} {h : Home} {b : Blk} (hr : E0.ro = E.ro) (hd : ∀ i, E.dom i → S i → E0.dom i) (hh : ∀ i, E.dom i → S i → E0.home i = E.home i) (k : Holds E w h b) (hb : OfB S b) : Holds E0 w h b := by
  cases hb with
  | box ty cs f q =>
    cases k with
    | box _ _ _ cur h1 h2 h3 h4 => exact .box ty cs f cur h1 h2 h3 fun j c v hc hv => (h4 j c v hc hv).of hr hd hh (q c (List.mem_of_getElem? hc))
  | part z ty cs f q =>
    cases k with
    | part _ _ _ _ cur h0 h1 h2 h3 h4 => exact .part z ty cs f cur h0 h1 h2 h3 fun j c v hc hv => (h4 j c v hc hv).of hr hd hh (q c (List.mem_of_getElem? hc))
  | map es clock f q =>
    cases k with
    | map _ _ _ ents h1 h2 h3 =>
      refine .map es clock f ents h1 h2 fun i x e hx he => ?_
      obtain ⟨a, b, c⟩ := h3 i x e hx he
      exact ⟨a, b, c.of hr hd hh (q x (List.mem_of_getElem? hx))⟩
def ofB (S : Nat → Bool) : CB → Bool
  | .bx _ _ k d t _ => (cellsOf k d t 0).all (of2 S)
  | .mp _ _ es _ => es.all fun q => of2 S q.2.1
  | _ => false
theorem ofB_ok {S : Nat → Bool} {c : CB} (h : ofB S c = true) : OfB (fun i => S i = true) c.den := by
  unfold ofB at h
  split at h
  · rename_i w ty k d t f
    rw [List.all_eq_true] at h
    cases w with
    | none => exact .box _ _ _ fun c hc => of2_ok (h c hc)
    | some z => exact .part _ _ _ _ fun c hc => of2_ok (h c hc)
  · rename_i es _
    rw [List.all_eq_true] at h
    refine .map _ _ _ fun q hq => ?_
    obtain ⟨p, hp, rfl⟩ := List.mem_map.1 hq
    exact of2_ok (h p hp)
  · cases h
/-- Names that a call with names from n to n' lays. -/
def New (n n' i : Nat) : Prop := n ≤ i ∧ i < n'
open Classical in
/-- Memory behind a call that was told of m0 and left mq. -/
def behind (m m0 mq : Mem) (n n' : Nat) : Mem := fun i => if (m0 i).isSome = true ∨ New n n' i then mq i else m i
/-- A call in memory of which at least m0 is told, whatever names there are besides those that it lays. -/
structure NCall (P : Program) (f : FuncId) (svs : List SV) (m0 : Mem) (n n' : Nat) (y : SV) (mq : Mem) : Prop where
  callable : Callable P f
  calls : ∀ (W0 : Fix) (R0 D : Nat → Prop) (m : Mem) (E : Env) (w : World) (vs : Array Value), (∀ i, D i → ¬ New n n' i) → (∀ i b, m0 i = some b → m i = some b) → MS W0 R0 D m E w → vs.size = svs.length → (∀ (i : Nat) x v, svs[i]? = some x → vs[i]? = some v → Rep E w x v) →
    Calls P f vs w fun e w' => ∃ v E', e = .returned v ∧ MS W0 R0 (fun i => D i ∨ New n n' i) (behind m m0 mq n n') E' w' ∧ E.le E' ∧ (∀ b, E.ro b → w'.heap[b]? = w.heap[b]?) ∧ Rep E' w' y v
open Classical in
theorem ncall_of {f : FuncId} {svs : List SV} {n : Nat} {m0 : Mem} {q : Rs} (h : CWp P f svs n m0 (ResIs q)) (hlt : ∀ i b, m0 i = some b → i < n) (hm0 : ∀ i b, m0 i = some b → OfB (fun i => (m0 i).isSome = true) b) (hargs : ∀ x ∈ svs, Of (fun i => (m0 i).isSome = true) x)
    (hq : ∀ i b, mOf q.m i = some b → ((m0 i).isSome = true ∨ New n q.n i) ∧ OfB (fun i => (m0 i).isSome = true ∨ New n q.n i) b) (hy : Of (fun i => (m0 i).isSome = true ∨ New n q.n i) q.y) : NCall P f svs m0 n q.n q.y (mOf q.m) :=
  ⟨h.callable, fun W0 R0 D m E w vs hD hm M h1 h2 => by
    have some_of : ∀ i, (m0 i).isSome = true → ∃ b, m0 i = some b := fun i hi => Option.isSome_iff_exists.1 hi
    let W1 : Fix := { w := w, U := fun b => b < w.heap.size ∧ ∀ i c, m0 i = some c → (E.home i).blk ≠ b, lt := fun _ h => h.1, g := fun _ => undef }
    have hU : ∀ b, W0.U b → W1.U b := fun b hb => ⟨Nat.lt_of_lt_of_le (W0.lt b hb) M.below.size, fun i c hi e => M.base i c (hm i c hi) (e ▸ hb)⟩
    have hUn : ∀ i b, m i = some b → ¬ (m0 i).isSome = true → W1.U (E.home i).blk := fun i b hi hn => ⟨(M.mem i b hi).lt, fun j c hj => M.inj j i c b (hm j c hj) hi fun e => hn (by rw [← e, hj]; rfl)⟩
    let E0 : Env := { E with dom := fun i => E.dom i ∧ (m0 i).isSome = true }
    have M0 : MS W1 E.ro (· < n) m0 E0 w := ⟨Kept.refl _ _, fun _ h => h, fun _ h => .inl h, M.rlt, fun i hi => by obtain ⟨b, hb⟩ := some_of i hi.2; exact hlt i b hb, fun i b hi => ⟨M.live i b (hm i b hi), by rw [hi]; rfl⟩, fun i b hi => Holds.of (E := E) (E0 := E0) rfl (fun i a b => ⟨a, b⟩) (fun _ _ _ => rfl) (M.mem i b (hm i b hi)) (hm0 i b hi), fun i b hi h => h.2 i b hi rfl, fun i b hi => M.frz i b (hm i b hi), fun i j b c hi hj hn => M.inj i j b c (hm i b hi) (hm j c hj) hn⟩
    refine ((h.calls W1 E.ro E0 w vs M0 h1 fun i x v hx hv => Rep.of (E := E) (E0 := E0) rfl (fun i a b => ⟨a, b⟩) (fun _ _ _ => rfl) (h2 i x v hx hv) (hargs x (List.mem_of_getElem? hx)))).mono ?_
    rintro e w' ⟨v, E', n', m', y, rfl, M2, hE, hw, hv, rfl, rfl, rfl⟩
    have hro : ∀ b, E'.ro b → E.ro b ∨ ¬ W1.U b := M2.ro1
    let E2 : Env := { E' with dom := fun i => E.dom i ∨ (New n q.n i ∧ E'.dom i), home := fun i => if New n q.n i then E'.home i else E.home i }
    have live0 : ∀ i, (m0 i).isSome = true → E.dom i := fun i hi => by obtain ⟨b, hb⟩ := some_of i hi; exact M.live i b (hm i b hb)
    have not_new : ∀ i, E.dom i → ¬ New n q.n i := fun i hi => hD i (M.dom i hi)
    have home2 : ∀ i, (m0 i).isSome = true ∨ New n q.n i → E2.home i = E'.home i := fun i hi => by
      by_cases hn : New n q.n i
      · show (if New n q.n i then E'.home i else E.home i) = _
        rw [if_pos hn]
      · show (if New n q.n i then E'.home i else E.home i) = _
        rw [if_neg hn]
        have hs := hi.resolve_right hn
        exact (hE.home i ⟨live0 i hs, hs⟩).symm
    have homeE : ∀ i, E.dom i → E2.home i = E.home i := fun i hi => by
      show (if New n q.n i then E'.home i else E.home i) = _
      rw [if_neg (not_new i hi)]
    have dom2 : ∀ i, E'.dom i → (m0 i).isSome = true ∨ New n q.n i → E2.dom i := fun i hd hi => by
      rcases hi with hi | hi
      · exact .inl (live0 i hi)
      · exact .inr ⟨hi, hd⟩
    have hle : E.le E2 := ⟨hE.ro, fun _ h => .inl h, homeE⟩
    have cases_ : ∀ i b, behind m m0 (mOf q.m) n q.n i = some b → (((m0 i).isSome = true ∨ New n q.n i) ∧ mOf q.m i = some b) ∨ (¬ ((m0 i).isSome = true ∨ New n q.n i) ∧ m i = some b) := fun i b hb => by
      unfold behind at hb
      split at hb
      · rename_i c; exact .inl ⟨c, hb⟩
      · rename_i c; exact .inr ⟨c, hb⟩
    refine ⟨v, E2, rfl, ⟨M.below.trans (M2.below.mono hU), fun b hb => hE.ro b (M.ro0 b hb), fun b hb => ?_, M2.rlt, fun i hi => ?_, fun i b hi => ?_, fun i b hi => ?_, fun i b hi => ?_, fun i b hi => ?_, fun i j b c hi hj hn => ?_⟩, hle, hw, ?_⟩
    · rcases hro b hb with h3 | h3
      · exact M.ro1 b h3
      · exact .inr fun h4 => h3 (hU b h4)
    · rcases hi with hi | hi
      · exact .inl (M.dom i hi)
      · exact .inr hi.1
    · rcases cases_ i b hi with ⟨h3, h4⟩ | ⟨_, h4⟩
      · exact dom2 i (M2.live i b h4) h3
      · exact .inl (M.live i b h4)
    · rcases cases_ i b hi with ⟨h3, h4⟩ | ⟨h3, h4⟩
      · rw [home2 i h3]
        exact Holds.of (E := E') (E0 := E2) rfl dom2 (fun i _ hs => home2 i hs) (M2.mem i b h4) (hq i b h4).2
      · rw [homeE i (M.live i b h4)]
        exact (M.mem i b h4).keep hle hw (M2.below.block _ (hUn i b h4 fun hs => h3 (.inl hs)))
    · rcases cases_ i b hi with ⟨h3, h4⟩ | ⟨h3, h4⟩
      · rw [home2 i h3]
        exact fun h5 => M2.base i b h4 (hU _ h5)
      · rw [homeE i (M.live i b h4)]
        exact M.base i b h4
    · rcases cases_ i b hi with ⟨h3, h4⟩ | ⟨h3, h4⟩
      · rw [home2 i h3]
        exact M2.frz i b h4
      · rw [homeE i (M.live i b h4)]
        refine (M.frz i b h4).trans ⟨fun h => hE.ro _ h, fun h => ?_⟩
        rcases hro _ h with h5 | h5
        · exact h5
        · exact absurd (hUn i b h4 fun hs => h3 (.inl hs)) h5
    · rcases cases_ i b hi with ⟨h3, h4⟩ | ⟨h3, h4⟩
      · rcases cases_ j c hj with ⟨k3, k4⟩ | ⟨k3, k4⟩
        · rw [home2 i h3, home2 j k3]
          exact M2.inj i j b c h4 k4 hn
        · rw [home2 i h3, homeE j (M.live j c k4)]
          exact fun e => M2.base i b h4 (e ▸ hUn j c k4 fun hs => k3 (.inl hs))
      · rcases cases_ j c hj with ⟨k3, k4⟩ | ⟨k3, k4⟩
        · rw [homeE i (M.live i b h4), home2 j k3]
          exact fun e => M2.base j c k4 (e ▸ hUn i b h4 fun hs => h3 (.inl hs))
        · rw [homeE i (M.live i b h4), homeE j (M.live j c k4)]
          exact M.inj i j b c h4 k4 hn
    · exact Rep.of (E := E') (E0 := E2) rfl dom2 (fun i _ hs => home2 i hs) hv hy⟩
end Go.Proofs.Ytjjoiihgpkhndaa.Eng

/-
  The runner, part 14: drawn regions: blocks of memory as slots, names by the text's order. No program is named here.
-/
noncomputable section
namespace Go.Proofs.Ytjjoiihgpkhndaa.Eng
open Go.RowKit
variable {P : Program} {T : Tab} {r : Option Nat} {ns : Nat}

/-- What becomes of an operation: it is not wanted; it reads these blocks; it reads and writes these. -/
inductive Kd3 where
  | off
  | pure (x : SV) (ids : List Nat)
  | act (y : SV) (R : List Nat)
def Kd3.res : Kd3 → SV
  | .off => .tup []
  | .pure x _ => x
  | .act y _ => y
/-- Operation k touches block i. -/
def tch (N : Nat → Nat) (kd : Nat → Kd3) (k i : Nat) : Prop := ∃ y R, kd k = .act y R ∧ (i ∈ R ∨ New (N k) (N (k + 1)) i)
/-- An operation that leaves what is told of memory as it is, with these names. -/
def StepD (P : Program) (r : Option Nat) (ns : Nat) (D D' : Nat → Prop) (s : St) (o : Oper) (s2 : St) : Prop :=
  ∀ (W0 : Fix) (R0 : Nat → Prop) (B : Nat) (E : Env) (a : Act) (w : World), InAct r W0 R0 B → Sim W0 R0 ns D s E a w → (∀ t, o.dst = some t → t < ns) →
    ∀ (K : Act → World → Prop) (Q : Exit → Act → World → Prop), (∀ E' a' w', Sim W0 R0 ns D' s2 E' a' w' → K a' w') → o.wpIn (fen (rOf W0 r)) 0 P a w K Q
open Classical in
/-- The operations of a region in the order of the text; each touches few blocks. -/
structure Draw3 (P : Program) (r : Option Nat) (ns : Nat) (l : List Oper) (st : Nat → St) (N : Nat → Nat) (kd : Nat → Kd3) : Prop where
  slots : ∀ k o, l[k]? = some o → (st (k + 1)).slots = setSlot (st k).slots o.dst (kd k).res
  mem : ∀ k, k < l.length → ∀ i, ¬ tch N kd k i → (st (k + 1)).mem i = (st k).mem i
  names : ∀ k, k < l.length → N k ≤ N (k + 1)
  off : ∀ k o, l[k]? = some o → kd k = .off → guardS l.toArray ns (st k) o = some false
  pure : ∀ k o x ids, l[k]? = some o → kd k = .pure x ids → guardS l.toArray ns (st k) o = some true ∧ ∃ j0,
    (∀ i ∈ ids, i ≠ j0 → ∀ e, e < l.length → tch N kd e i → (e < k → Anc l e k) ∧ (k < e → Anc l k e)) ∧
    ∀ p, p ≤ l.length → (∀ e, e < l.length → tch N kd e j0 → Anc l e k → e < p) → (∀ e, e < l.length → tch N kd e j0 → Anc l k e → p ≤ e) →
      ∀ (D : Nat → Prop) s', (∀ i, D i → i < N l.length) → (∀ t ∈ slotsOf o.op, s'.slots t = (st k).slots t) → (∀ i ∈ ids, i ≠ j0 → s'.mem i = (st k).mem i) → s'.mem j0 = (st p).mem j0 → StepD P r ns D D s' o ⟨setSlot s'.slots o.dst x, s'.mem⟩
  act : ∀ k o y R, l[k]? = some o → kd k = .act y R → guardS l.toArray ns (st k) o = some true ∧ ∃ I : List Nat, (∀ i ∈ I, ∀ e, e < l.length → e ≠ k → tch N kd e i → (e < k → Anc l e k) ∧ (k < e → Anc l k e)) ∧
    ∀ (D : Nat → Prop) s', (∀ i, D i → i < N l.length) → (∀ i, D i → ¬ New (N k) (N (k + 1)) i) → (∀ t ∈ slotsOf o.op, s'.slots t = (st k).slots t) → (∀ i ∈ R, s'.mem i = (st k).mem i) → (∀ i ∈ I, s'.mem i = (st k).mem i) →
      StepD P r ns D (fun i => D i ∨ New (N k) (N (k + 1)) i) s' o ⟨setSlot s'.slots o.dst y, fun i => if i ∈ R ∨ New (N k) (N (k + 1)) i then (st (k + 1)).mem i else s'.mem i⟩
  cslot : ∀ i k oi ok t, i < k → l[i]? = some oi → l[k]? = some ok → ((oi.dst = some t ∧ (ok.dst = some t ∨ t ∈ guardSlot l.toArray ok ∨ t ∈ slotsOf ok.op)) ∨ (ok.dst = some t ∧ (t ∈ guardSlot l.toArray oi ∨ t ∈ slotsOf oi.op))) → Anc l i k
  cmem : ∀ i k b, i < k → k < l.length → tch N kd i b → tch N kd k b → Anc l i k
open Classical in
def mF (st : Nat → St) (N : Nat → Nat) (kd : Nat → Kd3) (L : Nat → Bool) : Nat → Mem
  | 0 => (st 0).mem
  | k + 1 => fun i => if L k = true ∧ tch N kd k i then (st (k + 1)).mem i else mF st N kd L k i
theorem mF_at {st : Nat → St} {N : Nat → Nat} {kd : Nat → Kd3} {L M : Nat → Bool} {i : Nat} : ∀ n, (∀ k, k < n → tch N kd k i → L k = M k) → mF st N kd L n i = mF st N kd M n i
  | 0, _ => rfl
  | n + 1, h => by
    have ih := mF_at (st := st) n fun k hk => h k (by omega)
    simp only [mF]
    by_cases ht : tch N kd n i
    · rw [h n (by omega) ht, ih]
    · rw [if_neg (fun c => ht c.2), if_neg (fun c => ht c.2), ih]
theorem mF_text {st : Nat → St} {N : Nat → Nat} {kd : Nat → Kd3} {len : Nat} (hm : ∀ k, k < len → ∀ i, ¬ tch N kd k i → (st (k + 1)).mem i = (st k).mem i) (k : Nat) (hk : k ≤ len) : mF st N kd (fun i => decide (i < k)) len = (st k).mem := by
  have h1 : ∀ j, j ≤ k → mF st N kd (fun i => decide (i < k)) j = (st j).mem := by
    intro j
    induction j with
    | zero => intro _; rfl
    | succ j ih =>
      intro hj
      funext i
      simp only [mF]
      by_cases ht : tch N kd j i
      · rw [if_pos ⟨by simp; omega, ht⟩]
      · rw [if_neg (fun c => ht c.2), ih (by omega), hm j (by omega) i ht]
  have h2 : ∀ j, k ≤ j → mF st N kd (fun i => decide (i < k)) j = (st k).mem := by
    intro j
    induction j with
    | zero => intro hj; obtain rfl : k = 0 := by omega
              rfl
    | succ j ih =>
      intro hj
      rcases Nat.lt_or_ge j k with h | h
      · obtain rfl : k = j + 1 := by omega
        exact h1 (j + 1) (Nat.le_refl _)
      · funext i
        simp only [mF]
        rw [if_neg (fun c => by have := c.1; simp at this; omega), ih h]
  exact h2 len hk
/-- The names there are when these operations are met. -/
def dF (N : Nat → Nat) (kd : Nat → Kd3) (len : Nat) (L : Nat → Bool) (i : Nat) : Prop := i < N 0 ∨ ∃ k y R, k < len ∧ L k = true ∧ kd k = .act y R ∧ New (N k) (N (k + 1)) i
open Classical in
theorem draw_any3 {l : List Oper} (hB : backB l.toArray = true) {st : Nat → St} {N : Nat → Nat} {kd : Nat → Kd3} (H : Draw3 P r ns l st N kd) {W0 : Fix} {R0 : Nat → Prop} {B : Nat} (hi : InAct r W0 R0 B)
    {E : Env} {a : Act} {w : World} (hs : Sim W0 R0 ns (· < N 0) (st 0) E a w) {Q : Exit → Act → World → Prop} (hQ : ∀ E' a' w', Sim W0 R0 ns (· < N l.length) (st l.length) E' a' w' → Q .normal a' w') :
    wpAnyIn (fen (rOf W0 r)) 0 P .any l.toArray Q l.toArray.size (Array.replicate l.toArray.size false) a { w with drawn := w.drawn + 1 } := by
  have mono : ∀ i k, i ≤ k → k ≤ l.length → N i ≤ N k := by
    intro i k hik
    induction k with
    | zero => intro _; (obtain rfl : i = 0 := (by omega)); exact Nat.le_refl _
    | succ k ih =>
      intro hk
      rcases Nat.lt_or_ge i (k + 1) with h | h
      · exact Nat.le_trans (ih (by omega) (by omega)) (H.names k (by omega))
      · obtain rfl : i = k + 1 := by omega
        exact Nat.le_refl _
  let res : Nat → SV := fun k => (kd k).res
  have text : ∀ (k j : Nat), j ≤ k → k ≤ l.length → slF l res (st 0).slots (fun i => decide (i < k)) j = (st j).slots := by
    intro k j
    induction j with
    | zero => intro _ _; rfl
    | succ j ih =>
      intro hj hk
      have hjl : l[j]? = some l[j] := List.getElem?_eq_getElem (by omega)
      simp only [slF, hjl]
      rw [if_pos (by simp; omega), ih (by omega) hk]
      exact (H.slots j _ hjl).symm
  have textE : ∀ (k : Nat), k ≤ l.length → ∀ j, k ≤ j → slF l res (st 0).slots (fun i => decide (i < k)) j = (st k).slots := by
    intro k hk j
    induction j with
    | zero =>
      intro hj
      obtain rfl : k = 0 := by omega
      rfl
    | succ j ih =>
      intro hj
      rcases Nat.lt_or_ge j k with h | h
      · obtain rfl : k = j + 1 := by omega
        exact text (j + 1) (j + 1) (Nat.le_refl _) hk
      · simp only [slF]
        cases l[j]? with
        | none => exact ih h
        | some o => simp only; rw [if_neg (by simp; omega)]; exact ih h
  let Closed (L : Nat → Bool) : Prop := ∀ i k, Anc l i k → k < l.length → L k = true → L i = true
  -- what operation k sees of the slots
  have see : ∀ (L : Nat → Bool) (k : Nat) (o : Oper), l[k]? = some o → L k = false → Closed L → (∀ i, Anc l i k → L i = true) → ∀ t, (o.dst = some t ∨ t ∈ guardSlot l.toArray o ∨ t ∈ slotsOf o.op) →
      ∀ i oi, l[i]? = some oi → oi.dst = some t → i ≠ k → L i = decide (i < k) := by
    intro L k o hk hLk hC hA t hx i oi hi hw hne
    rcases Nat.lt_or_gt_of_ne hne with h | h
    · rw [decide_eq_true h]
      exact hA i (H.cslot i k oi o t h hi hk (.inl ⟨hw, hx⟩))
    · rw [decide_eq_false (by omega)]
      have hanc : Anc l k i := H.cslot k i o oi t h hk hi (by
        rcases hx with hx | hx
        · exact .inl ⟨hx, .inl hw⟩
        · exact .inr ⟨hw, hx⟩)
      cases hLi : L i with
      | false => rfl
      | true =>
        have := hC k i hanc (List.getElem?_eq_some_iff.1 hi).1 hLi
        rw [hLk] at this
        cases this
  have see_slot : ∀ (L : Nat → Bool) (k : Nat) (o : Oper), l[k]? = some o → L k = false → Closed L → (∀ i, Anc l i k → L i = true) → ∀ t, (t ∈ guardSlot l.toArray o ∨ t ∈ slotsOf o.op) → slF l res (st 0).slots L l.length t = (st k).slots t := by
    intro L k o hk hLk hC hA t hx
    have hkl := (List.getElem?_eq_some_iff.1 hk).1
    rw [← textE k (by omega) l.length (by omega)]
    refine slF_at (fun i oi hi hd => ?_) _
    by_cases e : i = k
    · subst e; rw [hLk]; simp
    · exact see L k o hk hLk hC hA t (.inr hx) i oi hi hd e
  have meet : ∀ (L L' : Nat → Bool) (k : Nat) (o : Oper), l[k]? = some o → L k = false → Closed L → (∀ i, Anc l i k → L i = true) → (∀ i, L' i = if i = k then true else L i) → slF l res (st 0).slots L' l.length = setSlot (slF l res (st 0).slots L l.length) o.dst (res k) := by
    intro L L' k o hk hLk hC hA hL'
    have hkl := (List.getElem?_eq_some_iff.1 hk).1
    funext t
    rw [setSlot_at]
    by_cases hd : o.dst = some t
    · rw [if_pos hd, slF_at (M := fun i => decide (i < k + 1)) (fun i oi hi hdi => ?_) _, textE (k + 1) (by omega) l.length (by omega), H.slots k o hk, setSlot_at, if_pos hd]
      rw [hL']
      by_cases e : i = k
      · subst e; simp
      · rw [if_neg e, see L k o hk hLk hC hA t (.inl hd) i oi hi hdi e]
        by_cases h : i < k
        · rw [decide_eq_true h, decide_eq_true (by omega)]
        · rw [decide_eq_false h, decide_eq_false (by omega)]
    · rw [if_neg hd]
      refine slF_at (fun i oi hi hdi => ?_) _
      rw [hL', if_neg]
      rintro rfl
      rw [hk] at hi
      cases hi
      exact hd hdi
  have key : ∀ (fuel : Nat) (listed : Array Bool) (E : Env) (a : Act) (w : World), listed.size = l.toArray.size → leftOf l.toArray.size listed ≤ fuel → Closed (fun i => listed.getD i true) →
      Sim W0 R0 ns (dF N kd l.length (fun i => listed.getD i true)) ⟨slF l res (st 0).slots (fun i => listed.getD i true) l.length, mF st N kd (fun i => listed.getD i true) l.length⟩ E a w → wpAnyIn (fen (rOf W0 r)) 0 P .any l.toArray Q fuel listed a w := by
    have bound : ∀ (L : Nat → Bool) i, dF N kd l.length L i → i < N l.length := fun L i hi => by
      rcases hi with hi | ⟨k, _, _, hk, _, _, h1, h2⟩
      · exact Nat.lt_of_lt_of_le hi (mono 0 _ (Nat.zero_le _) (Nat.le_refl _))
      · exact Nat.lt_of_lt_of_le h2 (mono (k + 1) _ (by omega) (Nat.le_refl _))
    have fin : ∀ (listed : Array Bool) (E : Env) (a : Act) (w : World), listed.size = l.toArray.size →
        Sim W0 R0 ns (dF N kd l.length (fun i => listed.getD i true)) ⟨slF l res (st 0).slots (fun i => listed.getD i true) l.length, mF st N kd (fun i => listed.getD i true) l.length⟩ E a w → Region.ready .any l.toArray listed = [] → Q .normal a w := by
      intro listed E a w hsz hsim hr
      have hall := all_listed hsz hB hr
      have e : slF l res (st 0).slots (fun i => listed.getD i true) l.length = (st l.length).slots := by
        rw [← text l.length l.length (Nat.le_refl _) (Nat.le_refl _)]
        funext t
        refine slF_at (fun i oi hi _ => ?_) _
        have hil := (List.getElem?_eq_some_iff.1 hi).1
        rw [hall i (by simpa using hil), decide_eq_true hil]
      have e2 : mF st N kd (fun i => listed.getD i true) l.length = (st l.length).mem := by
        rw [← mF_text H.mem l.length (Nat.le_refl _)]
        funext x
        refine mF_at _ fun i hi _ => ?_
        rw [hall i (by simpa using hi), decide_eq_true hi]
      rw [e, e2] at hsim
      exact hQ E a w (hsim.weak (bound _))
    intro fuel
    induction fuel with
    | zero =>
      intro listed E a w hsz hl hC hsim
      have hr : Region.ready .any l.toArray listed = [] := by
        rw [List.eq_nil_iff_forall_not_mem]
        intro i hi
        have h1 := (mem_ready.1 hi).1
        have h2 : i ∈ (List.range l.toArray.size).filter fun j => !listed.getD j true := by
          rw [List.mem_filter]
          refine ⟨List.mem_range.2 ?_, by rw [h1]; rfl⟩
          obtain ⟨o, ho, _⟩ := (mem_ready.1 hi).2
          exact (Array.getElem?_eq_some_iff.1 ho).1
        unfold leftOf at hl
        rw [List.length_eq_zero_iff.1 (Nat.le_zero.1 hl)] at h2
        cases h2
      exact ⟨hr, fin listed E a w hsz hsim hr⟩
    | succ fuel ih =>
      intro listed E a w hsz hl hC hsim
      refine ⟨fun hr => fin listed E a w hsz hsim hr, fun k hk => ?_⟩
      obtain ⟨hun, o, ho, hdep⟩ := mem_ready.1 hk
      have hkl : k < l.length := by have := (Array.getElem?_eq_some_iff.1 ho).1; simpa using this
      have hlk : l[k]? = some o := by simpa using ho
      have hA : ∀ i, Anc l i k → listed.getD i true = true := by
        intro i hi
        cases hi with
        | one h1 h2 h3 =>
          rw [hlk] at h1
          cases h1
          have h4 := hdep _ (by simpa using h2) h3
          rename_i e
          rcases Nat.lt_or_ge e.on listed.size with h5 | h5
          · simp [h5] at h4 ⊢; exact h4
          · simp [Array.getElem?_eq_none h5] at h4
        | more h1 h2 h3 h4 =>
          rw [hlk] at h1
          cases h1
          rename_i e
          have h5 := hdep _ (by simpa using h2) h3
          rcases Nat.lt_or_ge e.on listed.size with h6 | h6
          · refine hC i e.on h4 (by simpa [hsz] using h6) ?_
            simp [h6] at h5 ⊢; exact h5
          · simp [Array.getElem?_eq_none h6] at h5
      have hL' : ∀ i, (listed.setIfInBounds k true).getD i true = if i = k then true else listed.getD i true := fun i => by
        by_cases e : i = k
        · subst e; rw [if_pos rfl]; simp [hsz, hkl]
        · rw [if_neg e]; exact getD_set_ne true (Ne.symm e)
      have hmeet := meet (fun i => listed.getD i true) (fun i => (listed.setIfInBounds k true).getD i true) k o hlk hun hC hA hL'
      have hC' : Closed (fun i => (listed.setIfInBounds k true).getD i true) := by
        intro i j hij hj hLj
        have hLj := (hL' j).symm.trans hLj
        refine (hL' i).trans ?_
        split
        · rfl
        · rename_i hne
          by_cases e : j = k
          · subst e; exact hA i hij
          · rw [if_neg e] at hLj; exact hC i j hij hj hLj
      have hseeS : ∀ t, (t ∈ guardSlot l.toArray o ∨ t ∈ slotsOf o.op) → slF l res (st 0).slots (fun i => listed.getD i true) l.length t = (st k).slots t := see_slot _ k o hlk hun hC hA
      have hgs : ∀ b, guardS l.toArray ns (st k) o = some b → guardS l.toArray ns ⟨slF l res (st 0).slots (fun i => listed.getD i true) l.length, mF st N kd (fun i => listed.getD i true) l.length⟩ o = some b := by
        intro b hb
        unfold guardS at hb ⊢
        have hdo : dstOk ns o.dst = true := by by_cases hd : dstOk ns o.dst = true; exact hd; rw [if_neg hd] at hb; cases hb
        rw [if_pos hdo] at hb ⊢
        cases hgd : o.guard with
        | none => rw [hgd] at hb; exact hb
        | some p =>
          obtain ⟨j, want⟩ := p
          rw [hgd] at hb
          simp only at hb ⊢
          cases hj : (l.toArray[j]?).bind (·.dst) with
          | none => rw [hj] at hb; cases hb
          | some t =>
            rw [hj] at hb
            simp only at hb ⊢
            rw [hseeS t (.inl ?_)]
            · exact hb
            · simp only [guardSlot, hgd, hj]
              simp
      have hlf := leftOf_set hsz hun fuel hl
      have dmore : ∀ i, dF N kd l.length (fun i => listed.getD i true) i → dF N kd l.length (fun i => (listed.setIfInBounds k true).getD i true) i := fun i hi => by
        rcases hi with hi | ⟨e, y, R, h1, h2, h3, h4⟩
        · exact .inl hi
        · refine .inr ⟨e, y, R, h1, ?_, h3, h4⟩
          show (listed.setIfInBounds k true).getD e true = true
          rw [hL' e]
          split
          · rfl
          · exact h2
      have keep : (∀ i, ¬ tch N kd k i) → mF st N kd (fun i => (listed.setIfInBounds k true).getD i true) l.length = mF st N kd (fun i => listed.getD i true) l.length := fun hno => by
        funext i
        refine mF_at _ fun e he ht => ?_
        rw [hL' e, if_neg]
        rintro rfl
        exact hno i ht
      unfold wpOpIn
      rw [show l.toArray[k]? = some o from ho]
      simp only
      cases hkd : kd k with
      | off =>
        have hg := H.off k o hlk hkd
        rw [guard_ok hsim (hgs _ hg), if_neg (by simp)]
        refine ⟨fun f _ => fen_fn _ f, ih _ E _ w (by simpa using hsz) hlf hC' ?_⟩
        rw [hmeet, keep (fun i ⟨y, R, h, _⟩ => by rw [hkd] at h; cases h)]
        have := (hsim.weak dmore).put (guardS_dst hg) rep_no
        simpa [res, hkd, Kd3.res] using this
      | pure x ids =>
        obtain ⟨hg, j0, hord, hst⟩ := H.pure k o x ids hlk hkd
        rw [guard_ok hsim (hgs _ hg), if_pos rfl]
        have hnot : ∀ i, ¬ tch N kd k i := fun i ⟨y, R, h, _⟩ => by rw [hkd] at h; cases h
        have hpre : ∀ n, n ≤ l.length → ∃ p, p ≤ n ∧ ∀ e, e < n → tch N kd e j0 → (listed.getD e true = true ↔ e < p) := by
          intro n
          induction n with
          | zero => intro _; exact ⟨0, Nat.le_refl _, fun e he => by omega⟩
          | succ n ihn =>
            intro hn
            obtain ⟨p, hp, h1⟩ := ihn (by omega)
            by_cases ht : tch N kd n j0
            · cases hLn : listed.getD n true with
              | true =>
                refine ⟨n + 1, Nat.le_refl _, fun e he hte => ⟨fun _ => he, fun _ => ?_⟩⟩
                by_cases hen : e = n
                · rw [hen]; exact hLn
                · exact hC e n (H.cmem e n j0 (by omega) (by omega) hte ht) (by omega) hLn
              | false =>
                refine ⟨p, by omega, fun e he hte => ?_⟩
                by_cases hen : e = n
                · rw [hen, hLn]
                  exact ⟨fun h => (by cases h), fun h => (by omega)⟩
                · exact h1 e (by omega) hte
            · refine ⟨p, by omega, fun e he hte => ?_⟩
              by_cases hen : e = n
              · rw [hen] at hte; exact absurd hte ht
              · exact h1 e (by omega) hte
        obtain ⟨p, hp, hpx⟩ := hpre l.length (Nat.le_refl _)
        refine hst p hp (fun e he1 he2 he3 => (hpx e he1 he2).1 (hA e he3)) (fun e he1 he2 he3 => ?_) _ ⟨slF l res (st 0).slots (fun i => listed.getD i true) l.length, mF st N kd (fun i => listed.getD i true) l.length⟩ (bound _) (fun t ht => hseeS t (.inr ht)) (fun i hi hne => ?_) ?_ W0 R0 B E a w hi hsim (guardS_dst hg) _ Q fun E' a' w' hs' => ?_
        · rcases Nat.lt_or_ge e p with h5 | h5
          · have h6 : listed.getD k true = true := hC k e he3 he1 ((hpx e he1 he2).2 h5)
            rw [hun] at h6; cases h6
          · exact h5
        · rw [← mF_text H.mem k (by omega)]
          refine mF_at _ fun e he ht => ?_
          obtain ⟨q1, q2⟩ := hord i hi hne e he ht
          rcases Nat.lt_trichotomy e k with h | h | h
          · rw [decide_eq_true h]; exact hA e (q1 h)
          · subst h; exact absurd ht (hnot i)
          · rw [decide_eq_false (by omega)]
            cases hLe : listed.getD e true with
            | false => rfl
            | true =>
              have h6 : listed.getD k true = true := hC k e (q2 h) he hLe
              rw [hun] at h6; cases h6
        · rw [← mF_text H.mem p hp]
          refine mF_at _ fun e he ht => ?_
          rw [Bool.eq_iff_iff, decide_eq_true_iff]
          exact hpx e he ht
        · refine ih _ E' a' w' (by simpa using hsz) hlf hC' ?_
          rw [hmeet, keep hnot]
          have := hs'.weak dmore
          simpa [res, hkd, Kd3.res] using this
      | act y R =>
        obtain ⟨hg, I, hord, hst⟩ := H.act k o y R hlk hkd
        rw [guard_ok hsim (hgs _ hg), if_pos rfl]
        have htk : ∀ i, tch N kd k i ↔ (i ∈ R ∨ New (N k) (N (k + 1)) i) := fun i => ⟨fun ⟨y', R', h, h2⟩ => by rw [hkd] at h; cases h; exact h2, fun h => ⟨y, R, hkd, h⟩⟩
        have hsee : ∀ i, tch N kd k i → ∀ e, e < l.length → tch N kd e i → e ≠ k → listed.getD e true = decide (e < k) := fun i hti e he hte hne => by
          rcases Nat.lt_or_gt_of_ne hne with h | h
          · rw [decide_eq_true h]; exact hA e (H.cmem e k i h hkl hte hti)
          · rw [decide_eq_false (by omega)]
            cases hLe : listed.getD e true with
            | false => rfl
            | true =>
              have h6 : listed.getD k true = true := hC k e (H.cmem k e i h he hti hte) he hLe
              rw [hun] at h6; cases h6
        refine hst _ ⟨slF l res (st 0).slots (fun i => listed.getD i true) l.length, mF st N kd (fun i => listed.getD i true) l.length⟩ (bound _) (fun i hd hnw => ?_) (fun t ht => hseeS t (.inr ht)) (fun i hi => ?_) (fun i hi => ?_) W0 R0 B E a w hi hsim (guardS_dst hg) _ Q fun E' a' w' hs' => ?_
        · rcases hd with hd | ⟨e, y', R', h1, h2, h3, h4⟩
          · have := mono 0 k (Nat.zero_le _) (by omega)
            have := hnw.1
            omega
          · rcases Nat.lt_trichotomy e k with h | h | h
            · have := mono (e + 1) k (by omega) (by omega)
              have := h4.2
              have := hnw.1
              omega
            · subst h
              have h2 : listed.getD e true = true := h2
              rw [hun] at h2; cases h2
            · have := mono (k + 1) e (by omega) (by omega)
              have := h4.1
              have := hnw.2
              omega
        · rw [← mF_text H.mem k (by omega)]
          refine mF_at _ fun e he ht => ?_
          by_cases hek : e = k
          · subst hek
            have hun' : listed.getD e true = false := hun
            rw [hun']; simp
          · exact hsee i ((htk i).2 (.inl hi)) e he ht hek
        · rw [← mF_text H.mem k (by omega)]
          refine mF_at _ fun e he ht => ?_
          by_cases hek : e = k
          · subst hek
            have hun' : listed.getD e true = false := hun
            rw [hun']; simp
          · obtain ⟨q1, q2⟩ := hord i hi e he hek ht
            rcases Nat.lt_or_gt_of_ne hek with h | h
            · rw [decide_eq_true h]; exact hA e (q1 h)
            · rw [decide_eq_false (by omega)]
              cases hLe : listed.getD e true with
              | false => rfl
              | true =>
                have h6 : listed.getD k true = true := hC k e (q2 h) he hLe
                rw [hun] at h6; cases h6
        · refine ih _ E' a' w' (by simpa using hsz) hlf hC' ?_
          have hmem : mF st N kd (fun i => (listed.setIfInBounds k true).getD i true) l.length = fun i => if i ∈ R ∨ New (N k) (N (k + 1)) i then (st (k + 1)).mem i else mF st N kd (fun i => listed.getD i true) l.length i := by
            funext i
            split
            · rename_i hti
              rw [← mF_text H.mem (k + 1) (by omega)]
              refine mF_at _ fun e he ht => ?_
              rw [hL' e]
              by_cases hek : e = k
              · subst hek; simp
              · rw [if_neg hek, hsee i ((htk i).2 hti) e he ht hek]
                by_cases h : e < k
                · rw [decide_eq_true h, decide_eq_true (by omega)]
                · rw [decide_eq_false h, decide_eq_false (by omega)]
            · rename_i hti
              refine mF_at _ fun e he ht => ?_
              rw [hL' e, if_neg]
              rintro rfl
              exact hti ((htk i).1 ht)
          rw [hmeet, hmem]
          have := hs'.weak (D' := dF N kd l.length (fun i => (listed.setIfInBounds k true).getD i true)) fun i hi => by
            rcases hi with hi | hi
            · exact dmore i hi
            · refine .inr ⟨k, y, R, hkl, ?_, hkd, hi⟩
              show (listed.setIfInBounds k true).getD k true = true
              rw [hL' k, if_pos rfl]
          simpa [res, hkd, Kd3.res] using this
  have hL0 : ∀ i, i < l.length → (Array.replicate l.toArray.size false).getD i true = false := fun i hi => by simp [hi]
  refine key l.toArray.size _ E a _ (by simp) (by unfold leftOf; exact Nat.le_trans (List.length_filter_le _ _) (by simp)) (fun i k hik hk hLk => by have hLk := (hL0 k hk).symm.trans hLk; cases hLk) ?_
  have e0 : slF l res (st 0).slots (fun i => (Array.replicate l.toArray.size false).getD i true) l.length = (st 0).slots := by
    refine Eq.trans ?_ (textE 0 (Nat.zero_le _) l.length (Nat.zero_le _))
    funext t
    exact slF_at (fun i oi hi _ => by rw [hL0 i (List.getElem?_eq_some_iff.1 hi).1]; rfl) _
  have e1 : mF st N kd (fun i => (Array.replicate l.toArray.size false).getD i true) l.length = (st 0).mem := by
    rw [← mF_text H.mem 0 (Nat.zero_le _)]
    funext i
    exact mF_at _ fun k hk _ => by rw [hL0 k hk]; simp
  rw [e0, e1]
  exact hs.drew.weak fun i hi => .inl hi
theorem AWi.drawsI3 (hm : P.follows .mixedOrders = true) {id : Nat} {l : List Oper} (hB : backB l.toArray = true) {st : Nat → St} {N : Nat → Nat} {kd : Nat → Kd3} (H : Draw3 P r ns l st N kd) {Q : Post} (h : Q .normal (N l.length) (st l.length)) :
    AWi P r ns (.region id l.toArray true) (N 0) (st 0) Q := fun W0 R0 B E a w hi hs =>
  wpIn_region_any hm (draw_any3 hB H hi hs fun E' a' w' hs' => ⟨_, _, E', W0, Ext.refl _, hi, hs', h⟩)
end Go.Proofs.Ytjjoiihgpkhndaa.Eng

/-
  The runner, part 15: an operation that is run in a part of memory leaves the rest as it is. No program is named here.
-/
noncomputable section
namespace Go.Proofs.Ytjjoiihgpkhndaa.Eng
open Go.RowKit
variable {P : Program} {T : Tab} {r : Option Nat} {ns : Nat}

open Classical in
/-- Memory behind an operation that was told of m0 and left m1. -/
def over (m m0 m1 : Mem) (nid : Nat) : Mem := fun i => if (m0 i).isSome = true ∨ i = nid then m1 i else m i
open Classical in
theorem op_frame {W0 : Fix} {R0 D : Nat → Prop} {s : St} {E : Env} {a : Act} {w : World} {m0 m1 : Tr CB} {nid : Nat} {o : Oper} {x : SV} (h : Sim W0 R0 ns D s E a w) (hm : ∀ i b, mOf m0 i = some b → s.mem i = some b)
    (hrun : ∀ (W1 : Fix) (R1 : Nat → Prop), Sim W1 R1 ns D ⟨s.slots, mOf m0⟩ E a w → OpW P W1 R1 ns D nid s.slots a w o x m1) (hT : ∀ i b, mOf m1 i = some b → (mOf m0 i).isSome = true ∨ i = nid) (hnid : ¬ D nid) :
    ∃ E' w', Sim W0 R0 ns (fun k => k = nid ∨ D k) ⟨s.slots, over s.mem (mOf m0) (mOf m1) nid⟩ E' a w' ∧ ((∃ v, (execOp a.eval o).run P w = .ok (.value v) w' ∧ Rep E' w' x v) ∨ ((execOp a.eval o).run P w = .ok .skip w' ∧ x = .und)) := by
  let W1 : Fix := { w := w, U := fun b => b < w.heap.size ∧ ∀ i c, mOf m0 i = some c → (E.home i).blk ≠ b, lt := fun _ h => h.1, g := W0.g, ds := W0.ds, e0 := E }
  have hU : ∀ b, W0.U b → W1.U b := fun b hb => ⟨Nat.lt_of_lt_of_le (W0.lt b hb) h.below.size, fun i c hi e => h.base i c (hm i c hi) (e ▸ hb)⟩
  have hUn : ∀ i b, s.mem i = some b → ¬ (mOf m0 i).isSome = true → W1.U (E.home i).blk := fun i b hi hn => ⟨(h.mem i b hi).lt, fun j c hj => h.inj j i c b (hm j c hj) hi fun e => hn (by rw [← e, hj]; rfl)⟩
  have h1 : Sim W1 E.ro ns D ⟨s.slots, mOf m0⟩ E a w := ⟨Kept.refl _ _, fun _ h => h, fun _ h => .inl h, h.rlt, h.size, h.dfr, h.slot, h.dom, fun i b hi => h.live i b (hm i b hi), fun i b hi => h.mem i b (hm i b hi), fun i b hi h2 => h2.2 i b hi rfl, fun i b hi => h.frz i b (hm i b hi), fun i j b c hi hj hn => h.inj i j b c (hm i b hi) (hm j c hj) hn, fun i hi => ⟨hi, rfl⟩, fun b hb => ⟨hb, rfl⟩⟩
  obtain ⟨E', w', h2, h3⟩ := hrun W1 E.ro h1
  have hle : E.le E' := ⟨h2.ro0, fun i hi => (h2.le0 i hi).1, fun i hi => (h2.le0 i hi).2⟩
  have hw : ∀ b, E.ro b → w'.heap[b]? = w.heap[b]? := fun b hb => (h2.re0 b hb).2
  have hro : ∀ b, E'.ro b → E.ro b ∨ ¬ W1.U b := h2.ro1
  have cases_ : ∀ i b, over s.mem (mOf m0) (mOf m1) nid i = some b → (((mOf m0 i).isSome = true ∨ i = nid) ∧ mOf m1 i = some b) ∨ (¬ ((mOf m0 i).isSome = true ∨ i = nid) ∧ s.mem i = some b) := fun i b hb => by
    unfold over at hb
    split at hb
    · rename_i c; exact .inl ⟨c, hb⟩
    · rename_i c; exact .inr ⟨c, hb⟩
  refine ⟨E', w', ⟨h.below.trans (h2.below.mono hU), fun b hb => hle.ro b (h.ro0 b hb), fun b hb => ?_, h2.rlt, h2.size, h2.dfr, h2.slot, h2.dom, fun i b hi => ?_, fun i b hi => ?_, fun i b hi => ?_, fun i b hi => ?_, fun i j b c hi hj hn => ?_, fun i hi => ?_, fun b hb => ?_⟩, h3⟩
  · rcases hro b hb with h4 | h4
    · exact h.ro1 b h4
    · exact .inr fun h5 => h4 (hU b h5)
  · rcases cases_ i b hi with ⟨_, h5⟩ | ⟨_, h5⟩
    · exact h2.live i b h5
    · exact hle.dom i (h.live i b h5)
  · rcases cases_ i b hi with ⟨_, h5⟩ | ⟨h4, h5⟩
    · exact h2.mem i b h5
    · show Holds E' w' (E'.home i) b
      rw [hle.home i (h.live i b h5)]
      exact (h.mem i b h5).keep hle hw (h2.below.block _ (hUn i b h5 fun hs => h4 (.inl hs)))
  · rcases cases_ i b hi with ⟨_, h5⟩ | ⟨_, h5⟩
    · exact fun h6 => h2.base i b h5 (hU _ h6)
    · show ¬ W0.U (E'.home i).blk
      rw [hle.home i (h.live i b h5)]
      exact h.base i b h5
  · rcases cases_ i b hi with ⟨_, h5⟩ | ⟨h4, h5⟩
    · exact h2.frz i b h5
    · show b.frz = true ↔ E'.ro (E'.home i).blk
      rw [hle.home i (h.live i b h5)]
      refine (h.frz i b h5).trans ⟨fun h => hle.ro _ h, fun h6 => ?_⟩
      rcases hro _ h6 with h7 | h7
      · exact h7
      · exact absurd (hUn i b h5 fun hs => h4 (.inl hs)) h7
  · show (E'.home i).blk ≠ (E'.home j).blk
    rcases cases_ i b hi with ⟨_, h5⟩ | ⟨h4, h5⟩
    · rcases cases_ j c hj with ⟨_, k5⟩ | ⟨k4, k5⟩
      · exact h2.inj i j b c h5 k5 hn
      · rw [hle.home j (h.live j c k5)]
        exact fun e => h2.base i b h5 (e ▸ hUn j c k5 fun hs => k4 (.inl hs))
    · rcases cases_ j c hj with ⟨_, k5⟩ | ⟨k4, k5⟩
      · rw [hle.home i (h.live i b h5)]
        exact fun e => h2.base j c k5 (e ▸ hUn i b h5 fun hs => h4 (.inl hs))
      · rw [hle.home i (h.live i b h5), hle.home j (h.live j c k5)]
        exact h.inj i j b c h5 k5 hn
  · exact ⟨hle.dom i (h.le0 i hi).1, (hle.home i (h.le0 i hi).1).trans (h.le0 i hi).2⟩
  · exact ⟨hle.ro b (h.re0 b hb).1, (hw b (h.re0 b hb).1).trans (h.re0 b hb).2⟩
end Go.Proofs.Ytjjoiihgpkhndaa.Eng

/-
  The runner, part 16: drawn regions by Draw3. No program is named here.
-/
noncomputable section
namespace Go.Proofs.Ytjjoiihgpkhndaa.Eng
open Go.RowKit
variable {P : Program} {T : Tab} {Z : ZTab} {Q : QTab} {M : MTab} {K : Known} {R : Runner} {r : Option Nat} {ns : Nat}

theorem Sim.lessM {W0 : Fix} {R0 D : Nat → Prop} {s : St} {E : Env} {a : Act} {w : World} {m : Mem} (h : Sim W0 R0 ns D s E a w) (hm : ∀ i b, m i = some b → s.mem i = some b) : Sim W0 R0 ns D ⟨s.slots, m⟩ E a w :=
  ⟨h.below, h.ro0, h.ro1, h.rlt, h.size, h.dfr, h.slot, h.dom, fun i b hi => h.live i b (hm i b hi), fun i b hi => h.mem i b (hm i b hi), fun i b hi => h.base i b (hm i b hi), fun i b hi => h.frz i b (hm i b hi), fun i j b c hi hj hn => h.inj i j b c (hm i b hi) (hm j c hj) hn, h.le0, h.re0⟩
structure En3 where
  k : Kd3
  s : CS
  s' : CS
  rd : List Nat
open Classical in
structure EnT (P : Program) (r : Option Nat) (ns : Nat) (ops : Array Oper) (o : Oper) (e : En3) : Prop where
  k : match e.k with
    | .off => guardS ops ns e.s.den o = some false ∧ e.s' = ⟨e.s.n, putD e.s.sl o.dst (.tup []), e.s.mem⟩
    | .pure x ids => guardS ops ns e.s.den o = some true ∧ (∀ (s' : St) (D : Nat → Prop) (N : Nat), (∀ i, D i → i < N) → (∀ t ∈ slotsOf o.op, s'.slots t = e.s.den.slots t) → (∀ i ∈ ids, s'.mem i = e.s.den.mem i) → StepD P r ns D D s' o ⟨setSlot s'.slots o.dst x, s'.mem⟩) ∧ e.s' = ⟨e.s.n, putD e.s.sl o.dst x, e.s.mem⟩
    | .act y R => guardS ops ns e.s.den o = some true ∧ (∀ (D : Nat → Prop) (s' : St), (∀ i, D i → ¬ New e.s.n e.s'.n i) → (∀ t ∈ slotsOf o.op, s'.slots t = e.s.den.slots t) → (∀ i ∈ R, s'.mem i = e.s.den.mem i) → (∀ i ∈ e.rd, s'.mem i = e.s.den.mem i) →
        StepD P r ns D (fun i => D i ∨ New e.s.n e.s'.n i) s' o ⟨setSlot s'.slots o.dst y, fun i => if i ∈ R ∨ New e.s.n e.s'.n i then mOf e.s'.mem i else s'.mem i⟩) ∧ e.s.n ≤ e.s'.n ∧ e.s'.sl = putD e.s.sl o.dst y ∧ ∀ i, ¬ (i ∈ R ∨ New e.s.n e.s'.n i) → mOf e.s'.mem i = mOf e.s.mem i
inductive ChainT (P : Program) (r : Option Nat) (ns : Nat) (ops : Array Oper) : List Oper → List En3 → CS → CS → Prop
  | nil (s) : ChainT P r ns ops [] [] s s
  | cons {o l e es sF} : EnT P r ns ops o e → ChainT P r ns ops l es e.s' sF → ChainT P r ns ops (o :: l) (e :: es) e.s sF
def stAt3 (es : List En3) (sF : CS) (k : Nat) : CS := match es[k]? with
  | some e => e.s
  | none => sF
theorem chainT_len {ops : Array Oper} {l : List Oper} {es : List En3} {s sF : CS} (h : ChainT P r ns ops l es s sF) : es.length = l.length := by
  induction h with
  | nil => rfl
  | cons _ _ ih => simp [ih]
theorem chainT_zero {ops : Array Oper} {l : List Oper} {es : List En3} {s sF : CS} (h : ChainT P r ns ops l es s sF) : stAt3 es sF 0 = s := by
  cases h with
  | nil => rfl
  | cons => rfl
theorem chainT_at {ops : Array Oper} {l : List Oper} {es : List En3} {s sF : CS} (h : ChainT P r ns ops l es s sF) : ∀ (k : Nat) o, l[k]? = some o → ∃ e, es[k]? = some e ∧ EnT P r ns ops o e ∧ stAt3 es sF k = e.s ∧ stAt3 es sF (k + 1) = e.s' := by
  induction h with
  | nil => intro k o hk; simp at hk
  | @cons o l e es sF he hc ih =>
    intro k o' hk
    match k with
    | 0 =>
      simp only [List.getElem?_cons_zero, Option.some.injEq] at hk
      subst hk
      exact ⟨e, rfl, he, rfl, chainT_zero hc⟩
    | k + 1 =>
      obtain ⟨e', h1, h2, h3, h4⟩ := ih k o' (by simpa using hk)
      exact ⟨e', by simpa using h1, h2, h3, h4⟩
theorem chainT_end {ops : Array Oper} {l : List Oper} {es : List En3} {s sF : CS} (h : ChainT P r ns ops l es s sF) : stAt3 es sF l.length = sF := by
  unfold stAt3
  rw [List.getElem?_eq_none (by rw [chainT_len h]; omega)]
def kd3 (es : List En3) (k : Nat) : Kd3 := match es[k]? with
  | some e => e.k
  | none => .off
/-- Blocks that operation k touches. -/
def tchB (es : List En3) (k i : Nat) : Bool := match es[k]? with
  | some e => match e.k with
    | .act _ R => memN R i || (Nat.ble e.s.n i && Nat.ble (i + 1) e.s'.n)
    | _ => false
  | none => false
def tchL (es : List En3) (k : Nat) : List Nat := match es[k]? with
  | some e => match e.k with
    | .act _ R => R ++ upN (e.s'.n - e.s.n) e.s.n
    | _ => []
  | none => []
def ordB (l : List Oper) (i k : Nat) : Bool := ((ancs l []).getD k 0).testBit i
def okMem3 (l : List Oper) (es : List En3) : Bool := (List.range es.length).all fun k => (List.range k).all fun i => ordB l i k || (tchL es k).all fun b => !tchB es i b
def okPure3 (l : List Oper) (es : List En3) : Bool := (List.range es.length).all fun k => match es[k]? with
  | some e => match e.k with
    | .pure _ ids => ids.all fun b => (List.range es.length).all fun i => !tchB es i b || ((!Nat.blt i k || ordB l i k) && (!Nat.blt k i || ordB l k i))
    | .act _ _ => e.rd.all fun b => (List.range es.length).all fun i => Nat.beq i k || (!tchB es i b || ((!Nat.blt i k || ordB l i k) && (!Nat.blt k i || ordB l k i)))
    | _ => true
  | none => true
theorem fresh_nat : ∀ ids : List Nat, ∃ j, ∀ i ∈ ids, i < j
  | [] => ⟨0, by simp⟩
  | a :: l => by
    obtain ⟨j, hj⟩ := fresh_nat l
    refine ⟨max (a + 1) j, fun i hi => ?_⟩
    rcases List.mem_cons.1 hi with rfl | hi
    · omega
    · have := hj i hi; omega
theorem draw3_of (hns : okN ns = true) {l : List Oper} {es : List En3} {s sF : CS} (h : ChainT P r ns l.toArray l es s sF) (hst : stOk l.toArray = true) (h1 : okMem3 l es = true) (h2 : okPure3 l es = true) :
    Draw3 P r ns l (fun k => (stAt3 es sF k).den) (fun k => (stAt3 es sF k).n) (kd3 es) := by
  have hlen := chainT_len h
  have at_ : ∀ (k : Nat), k < l.length → ∃ o e, l[k]? = some o ∧ es[k]? = some e ∧ EnT P r ns l.toArray o e ∧ stAt3 es sF k = e.s ∧ stAt3 es sF (k + 1) = e.s' := fun k hk => by
    obtain ⟨e, h1, h2, h3, h4⟩ := chainT_at h k _ (List.getElem?_eq_getElem hk)
    exact ⟨_, e, List.getElem?_eq_getElem hk, h1, h2, h3, h4⟩
  unfold stOk at hst
  rw [Bool.and_eq_true] at hst
  have bitD : ∀ {i k : Nat}, ((ancs l []).getD k 0).testBit i = true → Anc l i k := fun {i k} hb => ancs_ok l [] [] rfl rfl (fun k i hk => by simp at hk) k i hb
  have bit : ∀ {i k b : Nat}, (ancs l [])[k]? = some b → b.testBit i = true → Anc l i k := fun {i k b} hb hbt => bitD (by rw [List.getD_eq_getElem?_getD, hb]; simpa using hbt)
  have tch_B : ∀ k i, k < l.length → tch (fun k => (stAt3 es sF k).n) (kd3 es) k i → tchB es k i = true ∧ i ∈ tchL es k := fun k i hk ⟨y, R, hkd, ht⟩ => by
    obtain ⟨o, e, _, g1, _, g3, g4⟩ := at_ k hk
    simp only [kd3, g1] at hkd
    simp only [New, g3, g4] at ht
    simp only [tchB, tchL, g1, hkd, Bool.or_eq_true, Bool.and_eq_true, memN_iff, Nat.ble_eq, List.mem_append]
    refine ⟨ht.imp id fun q => ⟨q.1, q.2⟩, ht.imp id fun q => ?_⟩
    refine List.mem_of_getElem? (i := i - e.s.n) ?_
    have := q.1
    have := q.2
    rw [upN_get, if_pos (by omega)]
    congr 1
    omega
  refine ⟨fun k o hk => ?_, fun k hk i hi => ?_, fun k hk => ?_, fun k o hk hd => ?_, fun k o x ids hk hd => ?_, fun k o y R hk hd => ?_, fun i k oi ok t hik hi hk ht => ?_, fun i k b hik hk hi he => ?_⟩
  · obtain ⟨e, g1, g2, g3, g4⟩ := chainT_at h k o hk
    have hk2 := g2.k
    simp only [g3, g4, kd3, g1]
    cases hek : e.k with
    | off => rw [hek] at hk2; simp only at hk2 ⊢; rw [hk2.2]; simp only [CS.den, sOf_dst hns hk2.1]; rfl
    | pure x ids => rw [hek] at hk2; simp only at hk2 ⊢; rw [hk2.2.2]; simp only [CS.den, sOf_dst hns hk2.1]; rfl
    | act y R => rw [hek] at hk2; simp only at hk2 ⊢; obtain ⟨hg, _, _, hs, _⟩ := hk2; simp only [CS.den, hs, sOf_dst hns hg]; rfl
  · obtain ⟨o, e, _, g1, g2, g3, g4⟩ := at_ k hk
    have hk2 := g2.k
    show (stAt3 es sF (k + 1)).den.mem i = (stAt3 es sF k).den.mem i
    rw [g3, g4]
    cases hek : e.k with
    | off => rw [hek] at hk2; simp only at hk2; rw [hk2.2]; rfl
    | pure x ids => rw [hek] at hk2; simp only at hk2; rw [hk2.2.2]; rfl
    | act y R =>
      rw [hek] at hk2
      simp only at hk2
      refine hk2.2.2.2.2 i fun hc => hi ⟨y, R, by simp only [kd3, g1, hek], ?_⟩
      simp only [g3, g4]
      exact hc
  · obtain ⟨o, e, _, g1, g2, g3, g4⟩ := at_ k hk
    have hk2 := g2.k
    simp only [g3, g4]
    cases hek : e.k with
    | off => rw [hek] at hk2; simp only at hk2; rw [hk2.2]; exact Nat.le_refl _
    | pure x ids => rw [hek] at hk2; simp only at hk2; rw [hk2.2.2]; exact Nat.le_refl _
    | act y R => rw [hek] at hk2; exact hk2.2.2.1
  · obtain ⟨e, g1, g2, g3, g4⟩ := chainT_at h k o hk
    simp only [kd3, g1] at hd
    have hk2 := g2.k
    rw [hd] at hk2
    simp only [g3]
    exact hk2.1
  · obtain ⟨e, g1, g2, g3, g4⟩ := chainT_at h k o hk
    simp only [kd3, g1] at hd
    have hk2 := g2.k
    rw [hd] at hk2
    simp only at hk2
    obtain ⟨j0, hj0⟩ := fresh_nat ids
    have hkl : k < l.length := (List.getElem?_eq_some_iff.1 hk).1
    simp only [g3]
    refine ⟨hk2.1, j0, fun i hi _ e' he' ht => ?_, fun p _ _ _ D s' hDN hsl hme _ => hk2.2.1 s' D _ hDN hsl fun i hi => hme i hi (Nat.ne_of_lt (hj0 i hi))⟩
    unfold okPure3 at h2
    rw [List.all_eq_true] at h2
    have q := h2 k (List.mem_range.2 (by omega))
    rw [g1] at q
    simp only [hd, List.all_eq_true] at q
    have q2 := q i hi e' (List.mem_range.2 (by omega))
    rw [(tch_B e' i he' ht).1] at q2
    simp only [Bool.not_true, Bool.false_or, Bool.and_eq_true, Bool.or_eq_true, Bool.not_eq_true'] at q2
    refine ⟨fun hlt => bitD (q2.1.resolve_left fun c => ?_), fun hlt => bitD (q2.2.resolve_left fun c => ?_)⟩
    · rw [show Nat.blt e' k = true by rw [Nat.blt_eq]; exact hlt] at c; cases c
    · rw [show Nat.blt k e' = true by rw [Nat.blt_eq]; exact hlt] at c; cases c
  · obtain ⟨e, g1, g2, g3, g4⟩ := chainT_at h k o hk
    simp only [kd3, g1] at hd
    have hk2 := g2.k
    rw [hd] at hk2
    simp only at hk2
    have hrd : ∀ i ∈ e.rd, ∀ e', e' < l.length → e' ≠ k → tch (fun k => (stAt3 es sF k).n) (kd3 es) e' i → (e' < k → Anc l e' k) ∧ (k < e' → Anc l k e') := fun i hi e' he' hne ht => by
      have hkl : k < l.length := (List.getElem?_eq_some_iff.1 hk).1
      unfold okPure3 at h2
      rw [List.all_eq_true] at h2
      have q := h2 k (List.mem_range.2 (by omega))
      rw [g1] at q
      simp only [hd, List.all_eq_true] at q
      have q2 := q i hi e' (List.mem_range.2 (by omega))
      rw [(tch_B e' i he' ht).1] at q2
      simp only [Bool.not_true, Bool.false_or, Bool.and_eq_true, Bool.or_eq_true, Bool.not_eq_true', Nat.beq_eq] at q2
      replace q2 := q2.resolve_left hne
      refine ⟨fun hlt => bitD (q2.1.resolve_left fun c => ?_), fun hlt => bitD (q2.2.resolve_left fun c => ?_)⟩
      · rw [show Nat.blt e' k = true by rw [Nat.blt_eq]; exact hlt] at c; cases c
      · rw [show Nat.blt k e' = true by rw [Nat.blt_eq]; exact hlt] at c; cases c
    rw [← g3, ← g4] at hk2
    exact ⟨hk2.1, e.rd, hrd, fun D s' _ hD hsl hR hI => hk2.2.1 D s' hD hsl hR hI⟩
  · have a1 : (l.toArray.toList.map fun o => (maskL (guardSlot l.toArray o ++ slotsOf o.op), maskL o.dst.toList))[i]? = some (maskL (guardSlot l.toArray oi ++ slotsOf oi.op), maskL oi.dst.toList) := by simp [hi]
    have a2 : (l.toArray.toList.map fun o => (maskL (guardSlot l.toArray o ++ slotsOf o.op), maskL o.dst.toList))[k]? = some (maskL (guardSlot l.toArray ok ++ slotsOf ok.op), maskL ok.dst.toList) := by simp [hk]
    obtain ⟨b, hb, h5⟩ := stAll_spec hst.2 (by rw [ancs_len]; simp) i k _ _ hik a1 a2
    rcases h5 with h5 | h6
    · exact bit hb (by simpa using h5)
    · exfalso
      obtain ⟨h7, h8⟩ := or_zero h6
      rcases ht with ⟨ht, h9⟩ | ⟨ht, h9⟩
      · refine and_bit h7 (x := t) (maskL_mem (by simp [ht])) ?_
        rw [Nat.testBit_or, Bool.or_eq_true]
        rcases h9 with h9 | h9 | h9
        · exact .inr (maskL_mem (by simp [h9]))
        · exact .inl (maskL_mem (List.mem_append_left _ h9))
        · exact .inl (maskL_mem (List.mem_append_right _ h9))
      · refine and_bit h8 (x := t) (maskL_mem ?_) (maskL_mem (by simp [ht]))
        rcases h9 with h9 | h9
        · exact List.mem_append_left _ h9
        · exact List.mem_append_right _ h9
  · unfold okMem3 at h1
    rw [List.all_eq_true] at h1
    have q := h1 k (List.mem_range.2 (by omega))
    rw [List.all_eq_true] at q
    have q2 := q i (List.mem_range.2 hik)
    rw [Bool.or_eq_true] at q2
    rcases q2 with q2 | q2
    · exact bitD q2
    · rw [List.all_eq_true] at q2
      have q3 := q2 b (tch_B k b hk he).2
      rw [(tch_B i b (by omega) hi).1] at q3
      cases q3
end Go.Proofs.Ytjjoiihgpkhndaa.Eng

/-
  The runner, part 19: maps are ranged over in a round of a range over a function: the records of loops stay. No program is named here.
-/
noncomputable section
namespace Go.Proofs.Ytjjoiihgpkhndaa.Eng
open Go.RowKit
variable {P : Program} {T : Tab} {Z : ZTab} {Q : QTab} {M : MTab} {K : Known} {R : Runner} {r : Option Nat} {ns : Nat}

def sameSt : LoopState → LoopState → Bool
  | .ready, .ready | .busy, .busy | .done, .done | .exhausted, .exhausted => true
  | _, _ => false
theorem sameSt_eq {a b : LoopState} (h : sameSt a b = true) : a = b := by cases a <;> cases b <;> first | rfl | cases h
def samePe : Option Code → Option Code → Bool
  | none, none => true
  | some .ret, some .ret => true
  | some (.exit a), some (.exit b) => Nat.beq a b
  | _, _ => false
theorem samePe_eq {a b : Option Code} (h : samePe a b = true) : a = b := by
  unfold samePe at h
  split at h
  · rfl
  · rfl
  · rw [Nat.beq_eq] at h; rw [h]
  · cases h
/-- What two blocks have in common; w is what was there before. -/
def meet1 (w v v' : Option CB) : Option CB := match w with
  | some (.loop ..) => match v with
    | some (.loop st1 pe1 _ _ _ _ _) => match v' with
      | some (.loop st2 pe2 _ _ _ _ _) => bif sameSt st1 st2 && samePe pe1 pe2 then v else none
      | _ => none
    | _ => none
  | _ => bif sameB v v' then v else none
def meetM3 : Tr CB → Tr CB → Tr CB → Tr CB
  | .lf, a, b => meetM a b
  | .nd w lw rw, .nd v l r, .nd v' l' r' => .nd (meet1 w v v') (meetM3 lw l l') (meetM3 rw r r')
  | .nd _ _ _, _, _ => .lf
/-- Where w has the record of a loop, a has none or one with the same parts. -/
def AgrAt (w a : Tr CB) (i : Nat) : Prop := ∀ st pe k sl ps c d st' pe' k' sl' ps' c' d', w.get i = some (.loop st pe k sl ps c d) → a.get i = some (.loop st' pe' k' sl' ps' c' d') → k' = k ∧ sl' = sl ∧ ps' = ps ∧ c' = c ∧ d' = d
def Agr (w a : Tr CB) : Prop := ∀ i, AgrAt w a i
theorem Agr.of {w a : Tr CB} (h : Recs w a) : Agr w a := fun i st pe k sl ps c d st' pe' k' sl' ps' c' d' h1 h2 => by
  obtain ⟨s2, p2, h3⟩ := h i st pe k sl ps c d h1
  rw [h2] at h3
  cases h3
  exact ⟨rfl, rfl, rfl, rfl, rfl⟩
theorem Agr.less {w a b : Tr CB} (h : Agr w a) (hl : ∀ i x, b.get i = some x → a.get i = some x) : Agr w b := fun i st pe k sl ps c d st' pe' k' sl' ps' c' d' h1 h2 => h i st pe k sl ps c d st' pe' k' sl' ps' c' d' h1 (hl _ _ h2)
theorem meet1_eq {w v v' : Option CB} {x : CB} (h : meet1 w v v' = some x) (ha : ∀ st pe k sl ps c d, w = some (.loop st pe k sl ps c d) → (∀ st' pe' k' sl' ps' c' d', v = some (.loop st' pe' k' sl' ps' c' d') → k' = k ∧ sl' = sl ∧ ps' = ps ∧ c' = c ∧ d' = d) ∧ (∀ st' pe' k' sl' ps' c' d', v' = some (.loop st' pe' k' sl' ps' c' d') → k' = k ∧ sl' = sl ∧ ps' = ps ∧ c' = c ∧ d' = d)) : v = some x ∧ v' = some x := by
  unfold meet1 at h
  split at h
  · rename_i st pe k sl ps c d
    split at h
    · rename_i st1 pe1 k1 sl1 ps1 c1 d1
      split at h
      · rename_i st2 pe2 k2 sl2 ps2 c2 d2
        cases hc : (sameSt st1 st2 && samePe pe1 pe2) with
        | false => rw [hc] at h; cases h
        | true =>
          rw [hc] at h
          rw [Bool.and_eq_true] at hc
          have e1 := sameSt_eq hc.1
          have e2 := samePe_eq hc.2
          subst e1
          subst e2
          cases h
          obtain ⟨h1, h2⟩ := ha _ _ _ _ _ _ _ rfl
          obtain ⟨rfl, rfl, rfl, rfl, rfl⟩ := h1 _ _ _ _ _ _ _ rfl
          obtain ⟨rfl, rfl, rfl, rfl, rfl⟩ := h2 _ _ _ _ _ _ _ rfl
          exact ⟨rfl, rfl⟩
      · cases h
    · cases h
  · cases hc : sameB v v' with
    | false => rw [hc] at h; cases h
    | true =>
      rw [hc] at h
      have := sameB_eq hc
      subst this
      exact ⟨h, h⟩
theorem meetM3_get : ∀ (w a b : Tr CB) (i : Nat) (x : CB), AgrAt w a i → AgrAt w b i → (meetM3 w a b).get i = some x → a.get i = some x ∧ b.get i = some x
  | .lf, a, b, i, x, _, _, h => meetM_get a b i x h
  | .nd _ _ _, .lf, _, i, x, _, _, h => by simp [meetM3, Tr.get_lf] at h
  | .nd _ _ _, .nd _ _ _, .lf, i, x, _, _, h => by simp [meetM3, Tr.get_lf] at h
  | .nd w lw rw_, .nd v l r, .nd v' l' r', i, x, ha, hb, h => by
    simp only [meetM3, Tr.get_nd] at h ⊢
    unfold AgrAt at ha hb
    simp only [Tr.get_nd] at ha hb
    split at h
    · rename_i e
      simp only [if_pos e] at ha hb ⊢
      exact meet1_eq h fun st pe k sl ps c d hw => ⟨fun _ _ _ _ _ _ _ hv => ha _ _ _ _ _ _ _ _ _ _ _ _ _ _ hw hv, fun _ _ _ _ _ _ _ hv => hb _ _ _ _ _ _ _ _ _ _ _ _ _ _ hw hv⟩
    · rename_i e
      simp only [if_neg e] at ha hb ⊢
      split at h
      · rename_i e2
        simp only [if_pos e2] at ha hb ⊢
        exact meetM3_get _ _ _ _ _ ha hb h
      · rename_i e2
        simp only [if_neg e2] at ha hb ⊢
        exact meetM3_get _ _ _ _ _ ha hb h
def meetS3 (m0 : Tr CB) (s t : CS) : CS := ⟨Nat.max s.n t.n, meetT s.sl t.sl, meetM3 m0 s.mem t.mem⟩
theorem meet3_l {m0 : Tr CB} (s t : CS) (h1 : Agr m0 s.mem) (h2 : Agr m0 t.mem) : LeS (meetS3 m0 s t) s := ⟨Nat.le_max_left _ _, fun i x h => (meetT_get _ _ i x h).1, fun i x h => (meetM3_get _ _ _ i x (h1 i) (h2 i) h).1⟩
theorem meet3_r {m0 : Tr CB} (s t : CS) (h1 : Agr m0 s.mem) (h2 : Agr m0 t.mem) : LeS (meetS3 m0 s t) t := ⟨Nat.le_max_right _ _, fun i x h => (meetT_get _ _ i x h).2, fun i x h => (meetM3_get _ _ _ i x (h1 i) (h2 i) h).2⟩
def meetAll3 {α : Type} (m0 : Tr CB) (f : α → Option (Exit × CS)) : List α → Option (Exit × CS)
  | [] => none
  | q :: l => match l with
    | [] => f q
    | _ :: _ => match f q, meetAll3 m0 f l with
      | some (e, a), some (e', b) => match sameEx e e' with
        | true => some (e, meetS3 m0 a b)
        | false => none
      | _, _ => none
theorem meetAll3_ok {α : Type} {m0 : Tr CB} {f : α → Option (Exit × CS)} {e : Exit} : ∀ {l : List α} {t : CS}, (∀ q ∈ l, ∀ e u, f q = some (e, u) → Agr m0 u.mem) → meetAll3 m0 f l = some (e, t) → Agr m0 t.mem ∧ ∀ q ∈ l, ∃ u, f q = some (e, u) ∧ LeS t u
  | [], t, _, h => by cases h
  | p :: l, t, hr, h => by
    unfold meetAll3 at h
    split at h
    · refine ⟨hr p List.mem_cons_self _ _ h, fun q hq => ?_⟩
      rw [List.mem_singleton] at hq
      subst hq
      exact ⟨t, h, LeS.refl t⟩
    · rename_i x l'
      split at h
      · rename_i e1 a e2 b h1 h2
        split at h
        · rename_i hc
          cases h
          have := sameEx_eq hc
          subst this
          obtain ⟨hb, hall⟩ := meetAll3_ok (fun q hq => hr q (List.mem_cons_of_mem _ hq)) h2
          have ha := hr p List.mem_cons_self _ _ h1
          refine ⟨ha.less (meet3_l a b ha hb).mem, fun q hq => ?_⟩
          rcases List.mem_cons.1 hq with rfl | hq
          · exact ⟨a, h1, meet3_l a b ha hb⟩
          · obtain ⟨u, h3, h4⟩ := hall q hq
            exact ⟨u, h3, (meet3_r a b ha hb).trans h4⟩
        · cases h
      · cases h
def isLoop : Option CB → Bool
  | some (.loop ..) => true
  | _ => false
/-- All records of loops are there yet. -/
def keepL : Tr CB → Tr CB → Bool
  | .lf, _ => true
  | .nd w lw rw, .nd v l r => (!isLoop w || isLoop v) && (keepL lw l && keepL rw r)
  | .nd w lw rw, .lf => !isLoop w && (keepL lw .lf && keepL rw .lf)
theorem keepL_get : ∀ (s t : Tr CB) (i : Nat), keepL s t = true → isLoop (s.get i) = true → isLoop (t.get i) = true
  | .lf, t, i, _, h => by rw [Tr.get_lf] at h; cases h
  | .nd w lw rw_, .nd v l r, i, hk, h => by
    simp only [keepL, Bool.and_eq_true, Bool.or_eq_true, Bool.not_eq_true'] at hk
    rw [Tr.get_nd] at h ⊢
    split at h
    · rename_i e
      rw [if_pos e]
      rcases hk.1 with q | q
      · rw [q] at h; cases h
      · exact q
    · rename_i e
      rw [if_neg e]
      split at h
      · rename_i e; rw [if_pos e]; exact keepL_get _ _ _ hk.2.1 h
      · rename_i e; rw [if_neg e]; exact keepL_get _ _ _ hk.2.2 h
  | .nd w lw rw_, .lf, i, hk, h => by
    simp only [keepL, Bool.and_eq_true, Bool.not_eq_true'] at hk
    rw [Tr.get_nd] at h
    split at h
    · rw [hk.1] at h; cases h
    · split at h
      · have := keepL_get _ _ _ hk.2.1 h
        rw [Tr.get_lf] at this; cases this
      · have := keepL_get _ _ _ hk.2.2 h
        rw [Tr.get_lf] at this; cases this
theorem recs_keepL {m m' : Tr CB} (h : keepL m m' = true) (ha : Agr m m') : Recs m m' := fun id st pe k sl ps x y e => by
  have h1 := keepL_get m m' id h (by rw [e]; rfl)
  unfold isLoop at h1
  split at h1
  · rename_i st' pe' k' sl' ps' x' y' e'
    obtain ⟨rfl, rfl, rfl, rfl, rfl⟩ := ha id _ _ _ _ _ _ _ _ _ _ _ _ _ _ e e'
    exact ⟨st', pe', e'⟩
  · cases h1
/-- A round for one of the entries that may come next. -/
def roundL (P : Program) (T : Tab) (Z : ZTab) (Q : QTab) (M : MTab) (K : Known) (X : Runner) (r : Option Nat) (ns : Nat) (ops : Array Oper) (o : Oper) (l : List Oper) (rest c0 : Code) (s : CS) (i : ItD) (q : Value × SV × Nat) : Option (Exit × CS) :=
  match doX P T Z Q M K X ns ops l ⟨s.n, putD s.sl o.dst (.tup [.d (.val (.bool true)), keyS q.1, q.2.1]), putM s.mem i.id (some (.b (.iter i.mid i.since i.clock (q.2.2 :: i.seen) false)))⟩ with
  | some s2 => match X r ns .no rest s2 with
    | some (.normal, s3) => X r ns (.lp c0) c0 s3
    | x => x
  | none => none
def nextL (P : Program) (T : Tab) (Z : ZTab) (Q : QTab) (M : MTab) (K : Known) (X : Runner) (r : Option Nat) (ns : Nat) (ops : Array Oper) (rest c0 : Code) (s : CS) : Option (Exit × CS) := match ops.toList with
  | [] => none
  | o :: l => match o.op with
    | .next x false => match guardS ops ns s.den o, itOf ns s x with
      | some true, some i => match meetAll3 s.mem (roundL P T Z Q M K X r ns ops o l rest c0 s i) (unseen i) with
        | some (e, t) => match keepL s.mem t.mem with
          | true => some (e, t)
          | false => none
        | none => none
      | _, _ => none
    | _ => none
theorem nextL_sound (hT : TabOk P T) (hZ : ZTabOk T Z) (hQ : QTabOk P Q) (hM : MTabOk P M) (hK : KnownOk P K) (hN : NoGor P) (hR : SoundR P R) (hns : okN ns = true) {id : Nat} {ops : Array Oper} {rest c0 : Code} {s t : CS} {e : Exit} (h : nextL P T Z Q M K R r ns ops rest c0 s = some (e, t)) : Runs P r ns (.lp c0) (.seq (.region id ops false) rest) s e t := by
  unfold nextL at h
  split at h
  · cases h
  rename_i o l hol
  split at h
  · rename_i x ho
    split at h
    · rename_i i hg hi
      have I := itOf_ok hi
      split at h
      · rename_i e0 t0 h0
        split at h
        · rename_i hkl
          cases h
          have hrecs : ∀ q ∈ unseen i, ∀ e u, roundL P T Z Q M K R r ns ops o l rest c0 s i q = some (e, u) → Recs s.mem u.mem := fun q hq e u hu => by
            unfold roundL at hu
            split at hu
            · rename_i s2 h2
              obtain ⟨i1, i2, i3⟩ := doX_sound (r := r) hT hZ hQ hM hK hN hR hns _ _ h2
              have r0 : Recs s.mem s2.mem := (Recs.put I.lt fun st pe k sl ps x y e => by rw [I.it] at e; cases e).trans i2
              split at hu
              · rename_i s3 h3
                exact (r0.trans (hR r ns .no rest s2 .normal s3 hns h3).recs).trans (hR r ns (.lp c0) c0 _ e u hns hu).recs
              · exact r0.trans (hR r ns .no rest s2 e u hns hu).recs
            · cases hu
          obtain ⟨hagr, hall⟩ := meetAll3_ok (fun q hq e u hu => Agr.of (hrecs q hq e u hu)) h0
          have hpair : ∀ q ∈ unseen i, ∃ s2 : CS, s.n ≤ s2.n ∧ s.n ≤ t.n ∧ AWi P r ns rest s2.n s2.den (thenP (fun n s => AWl P r ns c0 c0 n s (Is e t)) (Is e t)) ∧ ∀ {W0 : Fix} {R0 : Nat → Prop} {B : Nat} {E : Env} {a : Act} {w : World} {Q : Exit → Act → World → Prop}, InAct r W0 R0 B → Sim W0 R0 ns (· < s.n) ⟨setSlot (sOf s.sl) o.dst (.tup [.d (.val (.bool true)), keyS q.1, q.2.1]), setMem (mOf s.mem) i.id (some (.iter i.mid i.since i.clock (q.2.2 :: i.seen) false))⟩ E a w → (∀ E' a' w', Sim W0 R0 ns (· < s2.n) s2.den E' a' w' → Q .normal a' w') → wpListIn (fen (rOf W0 r)) 0 P ops Q l a w := by
            intro q hq
            obtain ⟨u, hu, hle⟩ := hall q hq
            unfold roundL at hu
            split at hu
            · rename_i s2 h2
              obtain ⟨i1, i2, i3⟩ := doX_sound (r := r) hT hZ hQ hM hK hN hR hns _ _ h2
              have e1 : (CS.den ⟨s.n, putD s.sl o.dst (.tup [.d (.val (.bool true)), keyS q.1, q.2.1]), putM s.mem i.id (some (.b (.iter i.mid i.since i.clock (q.2.2 :: i.seen) false)))⟩) = ⟨setSlot (sOf s.sl) o.dst (.tup [.d (.val (.bool true)), keyS q.1, q.2.1]), setMem (mOf s.mem) i.id (some (.iter i.mid i.since i.clock (q.2.2 :: i.seen) false))⟩ := by
                simp only [CS.den, sOf_dst hns hg, mOf_put I.lt]
                rfl
              rw [e1] at i3
              refine ⟨s2, i1, ?_, ?_, i3⟩
              · split at hu
                · rename_i s3 h3
                  have k1 := hR r ns .no rest s2 .normal s3 hns h3
                  have k2 := hR r ns (.lp c0) c0 _ e u hns hu
                  have := k1.n
                  have h4 : s3.n ≤ u.n := k2.n
                  have h5 : u.n ≤ t.n := hle.n
                  have h6 : s.n ≤ s2.n := i1
                  omega
                · have k1 := hR r ns .no rest s2 e u hns hu
                  have := k1.n
                  have h5 : u.n ≤ t.n := hle.n
                  have h6 : s.n ≤ s2.n := i1
                  omega
              · split at hu
                · rename_i s3 h3
                  have k1 := hR r ns .no rest s2 .normal s3 hns h3
                  have k2 := hR r ns (.lp c0) c0 _ e u hns hu
                  have k3 : AWl P r ns c0 c0 s3.n s3.den (Is e u) := k2.walk
                  exact k1.on (k3.lePost hle)
                · rename_i hne
                  have k1 := hR r ns .no rest s2 e u hns hu
                  have he : e ≠ .normal := fun he => by subst he; exact hne _ hu
                  have k2 : AWi P r ns rest s2.n s2.den (Is e u) := k1.walk
                  refine AWi.mono (k2.lePost hle) fun e2 _ _ ⟨a, b, c⟩ => ?_
                  subst a
                  cases e2 <;> first | exact absurd rfl he | exact ⟨rfl, b, c⟩
            · cases hu
          have hex : ∃ q, q ∈ unseen i := by
            cases hU : unseen i with
            | nil => rw [hU] at h0; cases h0
            | cons q _ => exact ⟨q, List.mem_cons_self⟩
          obtain ⟨q0, hq0⟩ := hex
          obtain ⟨_, _, hn, _⟩ := hpair q0 hq0
          refine ⟨AWl.of (AWi.seq fun W0 R0 B E a w hin hs => ?_), hn, recs_keepL hkl hagr⟩
          have hops : ops = ops.toList.toArray := by simp
          rw [hops]
          refine wpIn_region_lit ?_
          rw [← hops, hol]
          refine wpListIn_step fun K hK => ?_
          rw [guard_ok hs hg, if_pos rfl]
          refine stepI_next ho I.op I.im I.mp I.born I.since I.key _ _ _ _ _ _ hin hs (guardS_dst hg) K _ fun n2 st E' a' w' hG hs2 => ?_
          obtain ⟨rfl, hG⟩ := hG
          rcases hG with ⟨hno, _⟩ | ⟨q, hq, hns', rfl⟩
          · exact absurd (hno q0 ((List.mem_filter.1 hq0).1)) (by
              have := (List.mem_filter.1 hq0).2
              intro h1
              rw [memN_iff.2 h1] at this
              cases this)
          · obtain ⟨s2, j1, _, j2, j3⟩ := hpair q (unseen_mem hq hns')
            exact hK _ _ (j3 hin hs2 fun E2 a2 w2 h5 => ⟨_, _, E2, W0, Ext.refl _, hin, h5, j2⟩)
        · cases h
      · cases h
    · cases h
  · cases h
end Go.Proofs.Ytjjoiihgpkhndaa.Eng

/-
  The runner, part 17: the runner that runs drawn regions by Draw3. No program is named here.
-/
noncomputable section
namespace Go.Proofs.Ytjjoiihgpkhndaa.Eng
open Go.RowKit
variable {P : Program} {T : Tab} {Z : ZTab} {Q : QTab} {M : MTab} {K : Known} {R : Runner} {r : Option Nat} {ns : Nat}

def putL (m q : Tr CB) : List Nat → Tr CB
  | [] => m
  | i :: l => putM (putL m q l) i (q.get i)
theorem putL_get {m q : Tr CB} : ∀ {l : List Nat}, (∀ j ∈ l, okN j = true) → ∀ i, (putL m q l).get i = if i ∈ l then q.get i else m.get i
  | [], _, i => by simp [putL]
  | j :: l, h, i => by
    simp only [putL]
    rw [get_putM (okN_lt (h j List.mem_cons_self)), putL_get (fun k hk => h k (List.mem_cons_of_mem _ hk))]
    by_cases e : i = j
    · subst e; simp
    · rw [if_neg e]
      simp [e]
theorem putL_mem {m q : Tr CB} {l : List Nat} (h : ∀ j ∈ l, okN j = true) (i : Nat) : mOf (putL m q l) i = if i ∈ l then mOf q i else mOf m i := by
  simp only [mOf, putL_get h]
  split <;> rfl
def xAny (T : Tab) (Z : ZTab) (M : MTab) (m : Tr CB) (n : Nat) (ev : Operand → Option SV) (op : Op) : Option (SV × Tr CB) := match xW2 T M m ev op with
  | some p => some p
  | none => match isW op with
    | true => xW T Z M m n ev op
    | false => none
theorem xAny_run (hT : TabOk P T) (hZ : ZTabOk T Z) (hM : MTabOk P M) {W0 : Fix} {R0 D : Nat → Prop} {s : St} {E : Env} {a : Act} {w : World} {m : Tr CB} (h : Sim W0 R0 ns D s E a w) (hs : s.mem = mOf m) {n : Nat} (hD : ¬ D n) {ev : Operand → Option SV} (hev : ∀ x v, ev x = some v → Rep E w v (a.eval x)) {o : Oper} {x : SV} {m' : Tr CB} (hx : xAny T Z M m n ev o.op = some (x, m')) : OpW P W0 R0 ns D n s.slots a w o x m' := by
  unfold xAny at hx
  split at hx
  · rename_i p hp
    cases hx
    exact xW2_run hT hM h hs hev hp
  · split at hx
    · exact (xW_run hT hZ hM h hs hD hev hx).1
    · cases hx
theorem new_one {n i : Nat} : New n (n + 1) i ↔ i = n := ⟨fun h => by have := h.1; have := h.2; omega, fun h => by subst h; exact ⟨Nat.le_refl _, Nat.lt_succ_self _⟩⟩
open Classical in
theorem stepD_op (hT : TabOk P T) (hZ : ZTabOk T Z) (hM : MTabOk P M) {m m1 : Tr CB} {n : Nat} {Rs : List Nat} {ev : Operand → Option SV} {o : Oper} {x : SV} (hx : xAny T Z M (memC m Rs) n ev o.op = some (x, m1)) (hn : okN n = true) (hR : ∀ i ∈ Rs, okN i = true ∧ (m.get i).isSome = true)
    {D : Nat → Prop} {s' : St} (hD : ∀ i, D i → ¬ New n (n + 1) i) (hev : ∀ x v, ev x = some v → opd ns s' x = some v) (hme : ∀ i ∈ Rs, s'.mem i = mOf m i) :
    StepD P r ns D (fun i => D i ∨ New n (n + 1) i) s' o ⟨setSlot s'.slots o.dst x, fun i => if i ∈ Rs ∨ New n (n + 1) i then mOf (putL m (memC m1 (n :: Rs)) (n :: Rs)) i else s'.mem i⟩ := by
  intro W0 R0 B E a w hin hs hd K1 Q' hK1
  have live : ∀ i, i ∈ Rs ↔ (mOf (memC m Rs) i).isSome = true := fun i => ⟨fun hi => by
      simp only [mOf, memC_get hi fun j hj => (hR j hj).1, Option.isSome_map]
      exact (hR i hi).2, fun hi => by
      obtain ⟨b, hb⟩ := Option.isSome_iff_exists.1 hi
      exact (memC_sub hb).1⟩
  have hnD : ¬ D n := fun hd => hD n hd (new_one.2 rfl)
  obtain ⟨E', w', h2, h3⟩ := op_frame (P := P) (m0 := memC m Rs) (m1 := memC m1 (n :: Rs)) (nid := n) (o := o) (x := x) hs (fun i b hb => (hme i (memC_sub hb).1).trans (memC_sub hb).2) (fun W1 R1 h1 => by
    obtain ⟨E', w', k1, k2⟩ := xAny_run hT hZ hM h1 rfl hnD (fun y v hy => hs.opd (hev y v hy)) hx
    exact ⟨E', w', k1.lessM (fun i b hb => (memC_sub hb).2), k2⟩) (fun i b hb => by
    rcases List.mem_cons.1 (memC_sub hb).1 with h | h
    · exact .inr h
    · exact .inl ((live i).1 h)) hnD
  have hmem : over s'.mem (mOf (memC m Rs)) (mOf (memC m1 (n :: Rs))) n = fun i => if i ∈ Rs ∨ New n (n + 1) i then mOf (putL m (memC m1 (n :: Rs)) (n :: Rs)) i else s'.mem i := by
    funext i
    unfold over
    have hiff : ((mOf (memC m Rs) i).isSome = true ∨ i = n) ↔ (i ∈ Rs ∨ New n (n + 1) i) := by rw [← live i, new_one]
    by_cases hc : i ∈ Rs ∨ New n (n + 1) i
    · rw [if_pos (hiff.2 hc), if_pos hc, putL_mem (fun j hj => by
        rcases List.mem_cons.1 hj with h | h
        · rw [h]; exact hn
        · exact (hR j h).1), if_pos]
      rcases hc with hc | hc
      · exact List.mem_cons_of_mem _ hc
      · rw [new_one.1 hc]; exact List.mem_cons_self
    · rw [if_neg fun h => hc (hiff.1 h), if_neg hc]
  rw [hmem] at h2
  have h4 := h2.weak (D' := fun i => D i ∨ New n (n + 1) i) fun i hi => hi.elim (fun e => .inr (new_one.2 e)) .inl
  refine oper_in (fun c e => by
    rw [e] at hx
    simp [xAny, xW2, isW] at hx) ?_
  unfold Oper.wp
  rcases h3 with ⟨v, hr, hv⟩ | ⟨hr, hu⟩
  · rw [hr]
    exact hK1 E' _ w' (h4.put hd hv)
  · rw [hr]
    have := h4.put hd (Rep.und (E := E') (w := w') undef)
    exact hK1 E' _ w' (by rw [hu]; exact this)
theorem stepD_call {f : FuncId} {svs : List SV} {m0 mq : Mem} {n n' : Nat} {y : SV} (h : NCall P f svs m0 n n' y mq) {D : Nat → Prop} {s' : St} {o : Oper} (hD : ∀ i, D i → ¬ New n n' i) (h1 : calleeS ns s' o.op = some (f, svs)) (hm : ∀ i b, m0 i = some b → s'.mem i = some b) :
    StepD P r ns D (fun i => D i ∨ New n n' i) s' o ⟨setSlot s'.slots o.dst y, behind s'.mem m0 mq n n'⟩ := by
  intro W0 R0 B E a w _ hs hd K1 Q' hK1
  obtain ⟨vs, hex, v1, v2⟩ := calleeS_run hs h1 h.callable
  refine oper_in (fun c e => by rw [e] at h1; cases h1) ?_
  unfold Oper.wp
  rw [hex, Oper.upon_enter]
  refine (h.calls W0 R0 D s'.mem E w vs hD hm hs.ms v1 v2).mono ?_
  rintro e w' ⟨v, E', rfl, M, hE, hw, hv⟩
  exact hK1 E' _ w' ((hs.back M hE hw).put hd hv)
theorem stepD_ro {f : FuncId} {svs : List SV} {m0 : Mem} {d : Dat} (h : RCall P f svs d m0) {D : Nat → Prop} {N : Nat} {s' : St} {o : Oper} (hD : ∀ i, D i → i < N) (h1 : calleeS ns s' o.op = some (f, svs)) (hm : ∀ i b, m0 i = some b → s'.mem i = some b) {x : SV} (hx : toD3 x = some d) :
    StepD P r ns D D s' o ⟨setSlot s'.slots o.dst x, s'.mem⟩ := by
  intro W0 R0 B E a w _ hs hd K1 Q' hK1
  obtain ⟨vs, hex, v1, v2⟩ := calleeS_run hs h1 h.callable
  refine oper_in (fun c e => by rw [e] at h1; cases h1) ?_
  unfold Oper.wp
  rw [hex, Oper.upon_enter]
  refine ((h.more hm).calls W0 R0 D N E w vs hD hs.ms v1 v2).mono ?_
  rintro e w' ⟨v, E', rfl, M, hE, hw, hv⟩
  exact hK1 E' _ w' ((hs.back M hE hw).put hd ((toD3_rep hx).2 hv))
def idsT : SV → List Nat
  | .tup l => l.flatMap idsV
  | x => idsV x
structure CW where
  y : SV
  n : Nat
  ids : List Nat
  all : List Nat
  m : Tr CB
def inN (ids : List Nat) (n n' i : Nat) : Bool := memN ids i || (Nat.ble n i && Nat.ble (i + 1) n')
def liveB (m : Tr CB) (S : Nat → Bool) (d : Bool) (i : Nat) : Bool := match m.get i with
  | some c => ofB S c
  | none => d
/-- A call of which it is known what it touches. -/
def callW (P : Program) (T : Tab) (K : Known) (R : Runner) (s : CS) (f : FuncId) (l : List SV) : Option CW :=
  match reachM s.mem 2000 (l.flatMap idsV) [] with
  | ids => match callK P T K R f l s.n (memC s.mem ids) with
    | some q => match reachM q.m 2000 (idsT q.y ++ ids) [] with
      | all => match noLoop (memC s.mem ids) && ids.all (fun i => Nat.ble (i + 1) s.n && okN i && liveB s.mem (memN ids) false i) && all.all (fun i => inN ids s.n q.n i && okN i && liveB q.m (inN ids s.n q.n) true i) &&
          l.all (of2 (memN ids)) && of3 (inN ids s.n q.n) q.y && (upN (q.n - s.n) s.n).all (fun i => (s.mem.get i).isNone) with
        | true => some ⟨q.y, q.n, ids, all, memC q.m all⟩
        | false => none
    | none => none
theorem inN_iff {ids : List Nat} {n n' i : Nat} : inN ids n n' i = true ↔ (i ∈ ids ∨ New n n' i) := by
  simp only [inN, Bool.or_eq_true, memN_iff, Bool.and_eq_true, Nat.ble_eq, New]
  exact Iff.rfl
theorem Of.mono {S S' : Nat → Prop} (hS : ∀ i, S i → S' i) {x : SV} (h : Of S x) : Of S' x := by
  induction h with
  | und => exact .und
  | d x => exact .d x
  | nilS => exact .nilS
  | ptr id i j h => exact .ptr id i j (hS _ h)
  | mp id h => exact .mp id (hS _ h)
  | sl id off k c h => exact .sl id off k c (hS _ h)
  | yield id h => exact .yield id (hS _ h)
  | agg cs _ ih => exact .agg cs ih
  | tup cs _ ih => exact .tup cs ih
  | fn f us vs _ _ h1 h2 => exact .fn f us vs h1 h2
theorem OfB.mono {S S' : Nat → Prop} (hS : ∀ i, S i → S' i) {b : Blk} (h : OfB S b) : OfB S' b := by
  cases h with
  | box ty cs f h => exact .box ty cs f fun c hc => (h c hc).mono hS
  | part z ty cs f h => exact .part z ty cs f fun c hc => (h c hc).mono hS
  | map es clock f h => exact .map es clock f fun q hq => (h q hq).mono hS
theorem callW_ok (hT : TabOk P T) (hK : KnownOk P K) (hN : NoGor P) (hR : SoundR P R) {s : CS} {f : FuncId} {l : List SV} {c : CW} (h : callW P T K R s f l = some c) :
    NCall P f l (mOf (memC s.mem c.ids)) s.n c.n c.y (mOf c.m) ∧ s.n ≤ c.n ∧ (∀ i ∈ c.ids, okN i = true ∧ (mOf (memC s.mem c.ids) i).isSome = true) ∧ (∀ i ∈ c.all, okN i = true ∧ (i ∈ c.ids ∨ New s.n c.n i)) ∧ (∀ i, New s.n c.n i → s.mem.get i = none) ∧ (∀ i b, mOf c.m i = some b → i ∈ c.all) := by
  unfold callW at h
  simp only at h
  split at h
  · rename_i q hq
    split at h
    · rename_i hc
      cases h
      simp only [Bool.and_eq_true, List.all_eq_true] at hc
      obtain ⟨⟨⟨⟨⟨c1, c2⟩, c3⟩, c4⟩, c5⟩, c6⟩ := hc
      have H := callK_sound hT hK hN hR hq
      generalize hids : reachM s.mem 2000 (l.flatMap idsV) [] = ids at *
      generalize hall : reachM q.m 2000 (idsT q.y ++ ids) [] = all at *
      have live : ∀ i ∈ ids, (mOf (memC s.mem ids) i).isSome = true := fun i hi => by
        simp only [mOf, memC_get hi fun j hj => (c2 j hj).1.2, Option.isSome_map]
        have := (c2 i hi).2
        unfold liveB at this
        split at this
        · rename_i e; rw [e]; rfl
        · cases this
      have S0 : ∀ i, memN ids i = true → (mOf (memC s.mem ids) i).isSome = true := fun i hi => live i (memN_iff.1 hi)
      have S1 : ∀ i, inN ids s.n q.n i = true → (mOf (memC s.mem ids) i).isSome = true ∨ New s.n q.n i := fun i hi => (inN_iff.1 hi).imp (live i) id
      have H2 : Calls2 P f l s.n (memC s.mem ids) ⟨q.y, q.n, memC q.m all⟩ := H.less rfl rfl (fun i b hb => (memC_sub hb).2) (recs_noLoop c1)
      refine ⟨ncall_of H2.call (fun i b hb => Nat.le_of_ble_eq_true (c2 i (memC_sub hb).1).1.1) (fun i b hb => ?_) (fun x hx => (of2_ok (c4 x hx)).mono S0) (fun i b hb => ⟨S1 i (c3 i (memC_sub hb).1).1.1, ?_⟩) ((of3_ok c5).mono S1), H2.n, fun i hi => ⟨(c2 i hi).1.2, live i hi⟩, fun i hi => ⟨(c3 i hi).1.2, inN_iff.1 (c3 i hi).1.1⟩, fun i hi => ?_, fun i b hb => (memC_sub hb).1⟩
      · obtain ⟨h1, h2⟩ := memC_sub hb
        simp only [mOf, Option.map_eq_some_iff] at h2
        obtain ⟨c, h3, rfl⟩ := h2
        have := (c2 i h1).2
        unfold liveB at this
        rw [h3] at this
        exact (ofB_ok this).mono S0
      · obtain ⟨h1, h2⟩ := memC_sub hb
        simp only [mOf, Option.map_eq_some_iff] at h2
        obtain ⟨c, h3, rfl⟩ := h2
        have := (c3 i h1).2
        unfold liveB at this
        rw [h3] at this
        exact (ofB_ok this).mono S1
      · have hm : i ∈ upN (q.n - s.n) s.n := by
          refine List.mem_of_getElem? (i := i - s.n) ?_
          have h8 : s.n ≤ i := hi.1
          have h9 : i < q.n := hi.2
          rw [upN_get, if_pos (by omega)]
          congr 1
          omega
        simpa using c6 i hm
    · cases h
  · cases h
def act3 (ns : Nat) (s : CS) (o : Oper) (T : Tab) (Z : ZTab) (M : MTab) : Option En3 :=
  match (slotsOf o.op).flatMap fun t => idsOf2 (sOf s.sl t) with
  | Rs => match xAny T Z M (memC s.mem Rs) s.n (evR (slotsOf o.op) ns (sOf s.sl)) o.op with
    | some (x, m1) => match okN s.n && Rs.all (fun i => okN i && (s.mem.get i).isSome) with
      | true => some ⟨.act x Rs, s, ⟨s.n + 1, putD s.sl o.dst x, putL s.mem (memC m1 (s.n :: Rs)) (s.n :: Rs)⟩, []⟩
      | false => none
    | none => none
def call3 (P : Program) (T : Tab) (K : Known) (R : Runner) (ns : Nat) (s : CS) (o : Oper) : Option En3 :=
  match calleeC (evR (slotsOf o.op) ns (sOf s.sl)) o.op with
  | .fn f l => match callW P T K R s f l with
    | some c => some ⟨.act c.y (c.ids.filter fun i => !sameB (s.mem.get i) (c.m.get i)), s, ⟨c.n, putD s.sl o.dst c.y, putL s.mem c.m (c.ids ++ c.all)⟩, c.ids.filter fun i => sameB (s.mem.get i) (c.m.get i)⟩
    | none => none
  | _ => none
def ro3 (P : Program) (T : Tab) (K : Known) (R : Runner) (ns : Nat) (s : CS) (o : Oper) : Option En3 :=
  match calleeC (evR (slotsOf o.op) ns (sOf s.sl)) o.op with
  | .fn f l => match roCall P T K R s f l with
    | some (d, ids) => some ⟨.pure d ids, s, ⟨s.n, putD s.sl o.dst d, s.mem⟩, []⟩
    | none => none
  | _ => none
def pure3 (T : Tab) (Q : QTab) (M : MTab) (ns : Nat) (s : CS) (o : Oper) : Option En3 := match plainS o.op with
  | true => match xR T Q M (memC s.mem (readsOf (sOf s.sl) o.op)) (evR (slotsOf o.op) ns (sOf s.sl)) o.op with
    | some x => some ⟨.pure x (readsOf (sOf s.sl) o.op), s, ⟨s.n, putD s.sl o.dst x, s.mem⟩, []⟩
    | none => none
  | false => none
def one3 (P : Program) (T : Tab) (Z : ZTab) (Q : QTab) (M : MTab) (K : Known) (R : Runner) (ns : Nat) (ops : Array Oper) (s : CS) (o : Oper) : Option En3 := match guardS ops ns s.den o with
  | some false => some ⟨.off, s, ⟨s.n, putD s.sl o.dst (.tup []), s.mem⟩, []⟩
  | some true => match act3 ns s o T Z M with
    | some e => some e
    | none => match ro3 P T K R ns s o with
      | some e => some e
      | none => match call3 P T K R ns s o with
        | some e => some e
        | none => pure3 T Q M ns s o
  | none => none
def dr3 (P : Program) (T : Tab) (Z : ZTab) (Q : QTab) (M : MTab) (K : Known) (R : Runner) (ns : Nat) (ops : Array Oper) : List Oper → CS → Option (List En3 × CS)
  | [], s => some ([], s)
  | o :: l, s => match one3 P T Z Q M K R ns ops s o with
    | some e => match dr3 P T Z Q M K R ns ops l e.s' with
      | some (es, sF) => some (e :: es, sF)
      | none => none
    | none => none
open Classical in
theorem one3_ok (hT : TabOk P T) (hZ : ZTabOk T Z) (hQ : QTabOk P Q) (hM : MTabOk P M) (hK : KnownOk P K) (hN : NoGor P) (hR : SoundR P R) {ops : Array Oper} {s : CS} {o : Oper} {e : En3} (h : one3 P T Z Q M K R ns ops s o = some e) : e.s = s ∧ EnT P r ns ops o e := by
  unfold one3 at h
  split at h
  · rename_i hg
    cases h
    exact ⟨rfl, ⟨hg, rfl⟩⟩
  · rename_i hg
    split at h
    · rename_i e' he
      cases h
      unfold act3 at he
      simp only at he
      split at he
      · rename_i x m1 hx
        split at he
        · rename_i hc
          cases he
          generalize hRs : ((slotsOf o.op).flatMap fun t => idsOf2 (sOf s.sl t)) = Rs at *
          simp only [Bool.and_eq_true, List.all_eq_true] at hc
          obtain ⟨hn, hR2⟩ := hc
          refine ⟨rfl, ⟨hg, fun D s' hD hsl hme _ => stepD_op hT hZ hM hx hn hR2 hD (evR_slots (s := s') hsl) hme, Nat.le_succ _, rfl, fun i hi => ?_⟩⟩
          show mOf (putL _ _ _) i = _
          rw [putL_mem (fun j hj => by
            rcases List.mem_cons.1 hj with h | h
            · rw [h]; exact hn
            · exact (hR2 j h).1), if_neg]
          intro hi2
          rcases List.mem_cons.1 hi2 with h | h
          · exact hi (.inr (new_one.2 h))
          · exact hi (.inl h)
        · cases he
      · cases he
    split at h
    · rename_i e' he
      cases h
      unfold ro3 at he
      split at he
      · rename_i f l hcal
        split at he
        · rename_i d ids hro
          cases he
          obtain ⟨m0, d', hd', q1, q2⟩ := roCall_ok hT hK hN hR hro
          exact ⟨rfl, ⟨hg, fun s' D N hDN hsl hme => stepD_ro q1 hDN (calleeC_fn (evR_slots (s := s') hsl) hcal) (fun i b hb => (hme i (q2 i b hb).1).trans (q2 i b hb).2) hd', rfl⟩⟩
        · cases he
      · cases he
    split at h
    · rename_i e' he
      cases h
      unfold call3 at he
      split at he
      · rename_i f l hcal
        split at he
        · rename_i c hc
          cases he
          obtain ⟨q1, q2, q3, q4, q5, q6⟩ := callW_ok hT hK hN hR hc
          have hok : ∀ j ∈ c.ids ++ c.all, okN j = true := fun j hj => by
            rcases List.mem_append.1 hj with h | h
            · exact (q3 j h).1
            · exact (q4 j h).1
          have hin : ∀ i, i ∈ c.ids ++ c.all → i ∈ c.ids ∨ New s.n c.n i := fun i hi => by
            rcases List.mem_append.1 hi with h | h
            · exact .inl h
            · exact (q4 i h).2
          have hmem : ∀ i, (i ∈ c.ids ∨ New s.n c.n i) → mOf (putL s.mem c.m (c.ids ++ c.all)) i = mOf c.m i := fun i hi => by
            rw [putL_mem hok]
            split
            · rfl
            · rename_i hn
              rcases hi with hi | hi
              · exact absurd (List.mem_append_left _ hi) hn
              · have e1 : mOf s.mem i = none := by simp only [mOf, q5 i hi]; rfl
                rw [e1]
                cases hb : mOf c.m i with
                | none => rfl
                | some b => exact absurd (List.mem_append_right _ (q6 i b hb)) hn
          have hR : ∀ i, i ∈ c.ids → i ∈ (c.ids.filter fun i => !sameB (s.mem.get i) (c.m.get i)) ∨ (i ∈ (c.ids.filter fun i => sameB (s.mem.get i) (c.m.get i)) ∧ mOf c.m i = mOf s.mem i) := fun i hi => by
            cases hb : sameB (s.mem.get i) (c.m.get i) with
            | true => exact .inr ⟨List.mem_filter.2 ⟨hi, hb⟩, by simp only [mOf]; rw [sameB_eq hb]⟩
            | false => exact .inl (List.mem_filter.2 ⟨hi, by rw [hb]; rfl⟩)
          have hRi : ∀ i, i ∈ (c.ids.filter fun i => !sameB (s.mem.get i) (c.m.get i)) → i ∈ c.ids := fun i hi => (List.mem_filter.1 hi).1
          generalize hRs : (c.ids.filter fun i => !sameB (s.mem.get i) (c.m.get i)) = Rs at *
          generalize hIs : (c.ids.filter fun i => sameB (s.mem.get i) (c.m.get i)) = Is at *
          refine ⟨rfl, ⟨hg, fun D s' hD hsl hme0 hmeI => ?_, q2, rfl, fun i hi => ?_⟩⟩
          · have hme : ∀ i ∈ c.ids, s'.mem i = s.den.mem i := fun i hi => by
              rcases hR i hi with h | h
              · exact hme0 i h
              · exact hmeI i h.1
            have hs := stepD_call (r := r) (ns := ns) q1 (D := D) (s' := s') (o := o) hD (calleeC_fn (evR_slots (s := s') hsl) hcal) fun i b hb => (hme i (memC_sub hb).1).trans (memC_sub hb).2
            have e2 : behind s'.mem (mOf (memC s.mem c.ids)) (mOf c.m) s.n c.n = fun i => if i ∈ Rs ∨ New s.n c.n i then mOf (putL s.mem c.m (c.ids ++ c.all)) i else s'.mem i := by
              funext i
              unfold behind
              by_cases hc : i ∈ c.ids ∨ New s.n c.n i
              · rw [if_pos (show (mOf (memC s.mem c.ids) i).isSome = true ∨ New s.n c.n i from hc.imp (fun h => (q3 i h).2) id)]
                by_cases hc2 : i ∈ Rs ∨ New s.n c.n i
                · rw [if_pos hc2, hmem i hc]
                · rw [if_neg hc2]
                  have hid : i ∈ c.ids := hc.resolve_right fun h => hc2 (.inr h)
                  obtain ⟨h8, h9⟩ := (hR i hid).resolve_left fun h => hc2 (.inl h)
                  rw [h9]
                  exact (hmeI i h8).symm
              · rw [if_neg (show ¬ (i ∈ Rs ∨ New s.n c.n i) from fun h => hc (h.imp (hRi i) id)), if_neg]
                rintro (h | h)
                · obtain ⟨b, hb⟩ := Option.isSome_iff_exists.1 h
                  exact hc (.inl (memC_sub hb).1)
                · exact hc (.inr h)
            rw [e2] at hs
            exact hs
          · show mOf (putL _ _ _) i = _
            by_cases hc : i ∈ c.ids
            · rw [hmem i (.inl hc)]
              exact ((hR i hc).resolve_left fun h => hi (.inl h)).2
            · rw [putL_mem hok, if_neg fun h => ((hin i h).elim hc fun h => hi (.inr h))]
        · cases he
      · cases he
    unfold pure3 at h
    split at h
    · rename_i hp
      split at h
      · rename_i x hx
        cases h
        refine ⟨rfl, ⟨hg, fun s' D N _ hsl hme W0 R0 B E a w hi hs hd K1 Q' hK1 => ?_, rfl⟩⟩
        have hdf : ∀ c, o.op ≠ .defer c := fun c e' => by
          have hp2 := plainS_P hp (evR (slotsOf o.op) ns (sOf s.sl))
          unfold plainP at hp2
          split at hp2
          · rename_i hc; exact calleeC_plain hc c e'
          · cases hp2
        exact oper_in hdf (PureStep.wp (P := P) (s := s') (x := x) (fun W0 R0 D E a w hsim => xR_run hT hQ hM (fun y v hv => hsim.opd (evR_slots (s := s') hsl y v hv)) (fun i b hi => by
            obtain ⟨q1, q2⟩ := memC_sub hi
            exact hsim.mem i b ((hme i q1).trans q2)) hx) hs hd fun a' hs' => hK1 E a' w hs')
      · cases h
    · cases h
  · cases h
theorem dr3_chain (hT : TabOk P T) (hZ : ZTabOk T Z) (hQ : QTabOk P Q) (hM : MTabOk P M) (hK : KnownOk P K) (hN : NoGor P) (hR : SoundR P R) {ops : Array Oper} : ∀ (l : List Oper) (s : CS) {es : List En3} {sF : CS}, dr3 P T Z Q M K R ns ops l s = some (es, sF) → ChainT P r ns ops l es s sF
  | [], s, es, sF, h => by cases h; exact .nil s
  | o :: l, s, es, sF, h => by
    simp only [dr3] at h
    split at h
    · rename_i e he
      split at h
      · rename_i es' s2 hr
        cases h
        obtain ⟨h1, h2⟩ := one3_ok (r := r) hT hZ hQ hM hK hN hR he
        have := ChainT.cons h2 (dr3_chain hT hZ hQ hM hK hN hR l _ hr)
        rw [h1] at this
        exact this
      · cases h
    · cases h
theorem chainT_n {ops : Array Oper} {l : List Oper} {es : List En3} {s sF : CS} (h : ChainT P r ns ops l es s sF) : s.n ≤ sF.n := by
  induction h with
  | nil => exact Nat.le_refl _
  | @cons o l e es sF he hc ih =>
    have hk := he.k
    have h0 : e.s.n ≤ e.s'.n := by
      cases hek : e.k with
      | off => rw [hek] at hk; simp only at hk; rw [hk.2]; exact Nat.le_refl _
      | pure x ids => rw [hek] at hk; simp only at hk; rw [hk.2.2]; exact Nat.le_refl _
      | act y R => rw [hek] at hk; exact hk.2.2.1
    exact Nat.le_trans h0 ih
/-- The runner that knows all of this. -/
def bodyW (P : Program) (T : Tab) (Z : ZTab) (Q : QTab) (M : MTab) (K : Known) (X : Runner) : Runner := fun r ns cx c s => match bodyZ P T Z Q M K X r ns cx c s with
  | some x => some x
  | none => match cx, c with
    | .no, .region _ ops true => match noLoop s.mem with
      | true => match dr3 P T Z Q M K X ns ops ops.toList s with
        | some (es, s') => match stOk ops && (okMem3 ops.toList es && okPure3 ops.toList es) with
          | true => some (.normal, s')
          | false => none
        | none => none
      | false => none
    | .lp c0, .seq (.region _ ops false) rest => nextL P T Z Q M K X r ns ops rest c0 s
    | _, _ => none
theorem bodyW_sound (hT : TabOk P T) (hZ : ZTabOk T Z) (hQ : QTabOk P Q) (hM : MTabOk P M) (hK : KnownOk P K) (hN : NoGor P) (hm : P.follows .mixedOrders = true) (hR : SoundR P R) : SoundR P (bodyW P T Z Q M K R) := by
  intro r ns cx c s e s' hns h
  unfold bodyW at h
  split at h
  · rename_i x hx
    cases h
    exact bodyZ_sound hT hZ hQ hM hK hN hm hR r ns cx c s e s' hns hx
  · split at h
    · rename_i id ops _
      split at h
      · rename_i hnl
        split at h
        · rename_i es sF hd
          split at h
          · rename_i hc
            cases h
            rw [Bool.and_eq_true, Bool.and_eq_true] at hc
            have hch := dr3_chain (r := r) hT hZ hQ hM hK hN hR _ _ hd
            have hops : ops = ops.toList.toArray := by simp
            have hch' : ChainT P r ns ops.toList.toArray ops.toList es s s' := by rw [← hops]; exact hch
            have hD := draw3_of hns hch' (by rw [← hops]; exact hc.1) hc.2.1 hc.2.2
            refine ⟨?_, chainT_n hch, recs_noLoop hnl⟩
            have h1 := AWi.drawsI3 (r := r) (id := id) hm (by rw [← hops]; have := hc.1; unfold stOk at this; rw [Bool.and_eq_true] at this; exact this.1) hD (Q := Is .normal s') (by
              simp only [chainT_end hch]
              exact Is.here)
            simp only [chainT_zero hch] at h1
            rw [← hops] at h1
            exact h1
          · cases h
        · cases h
      · cases h
    · exact nextL_sound hT hZ hQ hM hK hN hR hns h
    · cases h
def runW (P : Program) (T : Tab) (Z : ZTab) (Q : QTab) (M : MTab) (K : Known) (n : Nat) : Runner := @Nat.rec (fun _ => Runner) (fun _ _ _ _ _ => none) (fun _ ih => bodyW P T Z Q M K ih) n
theorem runW_sound (hT : TabOk P T) (hZ : ZTabOk T Z) (hQ : QTabOk P Q) (hM : MTabOk P M) (hK : KnownOk P K) (hN : NoGor P) (hm : P.follows .mixedOrders = true) : ∀ n, SoundR P (runW P T Z Q M K n)
  | 0 => fun _ _ _ _ _ _ _ _ h => by cases h
  | n + 1 => bodyW_sound hT hZ hQ hM hK hN hm (runW_sound hT hZ hQ hM hK hN hm n)
/-- The call ends as told, at least. -/
def chkW (P : Program) (T : Tab) (Z : ZTab) (Q : QTab) (M : MTab) (K : Known) (fuel : Nat) (e : Ent) : Bool := match callFn P T (runW P T Z Q M K fuel) e.f e.args e.n e.m with
  | some q => same3 q.y e.q.y && Nat.beq q.n e.q.n && subTr e.q.m q.m && noLoop e.m
  | none => false
theorem chkW_ok (hT : TabOk P T) (hZ : ZTabOk T Z) (hQ : QTabOk P Q) (hM : MTabOk P M) (hK : KnownOk P K) (hN : NoGor P) (hm : P.follows .mixedOrders = true) {fuel : Nat} {e : Ent} (h : chkW P T Z Q M K fuel e = true) : Calls2 P e.f e.args e.n e.m e.q := by
  unfold chkW at h
  split at h
  · rename_i q hq
    simp only [Bool.and_eq_true, Nat.beq_eq] at h
    obtain ⟨⟨⟨h1, h2⟩, h3⟩, h4⟩ := h
    have H := callFn_sound hT hN (runW_sound hT hZ hQ hM hK hN hm fuel) hq
    refine H.less (same3_eq h1).symm h2.symm (fun i b hb => ?_) fun id st pe k sl ps x y hh => absurd hh (noLoop_get h4 id st pe k sl ps x y)
    simp only [mOf, Option.map_eq_some_iff] at hb ⊢
    obtain ⟨c, hc, rfl⟩ := hb
    exact ⟨c, subTr_get h3 i c hc, rfl⟩
  · cases h
end Go.Proofs.Ytjjoiihgpkhndaa.Eng

/-
  The runner, part 18: closed calls by the runner that knows drawn regions. No program is named here.
-/
noncomputable section
namespace Go.Proofs.Ytjjoiihgpkhndaa.Eng
open Go.RowKit
variable {P : Program} {T : Tab} {Z : ZTab} {Q : QTab} {M : MTab} {K : Known}

/-- A closed call ends with this value. -/
def chkVW (P : Program) (T : Tab) (Z : ZTab) (Q : QTab) (M : MTab) (K : Known) (fuel : Nat) (f : FuncId) (v : Value) : Bool := match callFn P T (runW P T Z Q M K fuel) f [] 0 .lf with
  | some q => same1 q.y (.d (.val v))
  | none => false
theorem chkVW_ok {fuel : Nat} {f : FuncId} {v : Value} (h : chkVW P T Z Q M K fuel f v = true) : (callFn P T (runW P T Z Q M K fuel) f [] 0 .lf).map (·.y) = some (.d (.val v)) := by
  unfold chkVW at h
  split at h
  · rename_i q hq
    rw [hq, Option.map_some, same1_eq h]
  · cases h
theorem closed_callW (hT : TabOk P T) (hZ : ZTabOk T Z) (hQ : QTabOk P Q) (hM : MTabOk P M) (hK : KnownOk P K) (hN : NoGor P) (hm : P.follows .mixedOrders = true) {f : FuncId} {n : Nat} {b : Bool} (h : (callFn P T (runW P T Z Q M K n) f [] 0 .lf).map (·.y) = some (.d (.val (.bool b)))) : ACall P f [] (.val (.bool b)) := by
  rw [Option.map_eq_some_iff] at h
  obtain ⟨q, hq, hy⟩ := h
  have h1 := (callFn_sound hT hN (runW_sound hT hZ hQ hM hK hN hm n) hq).call
  refine ⟨h1.callable, fun ro w vs hro hsz hrep => ?_⟩
  let W1 : Fix := fixOf w
  let E : Env := ⟨ro, fun _ => False, fun _ => ⟨0, 0, 0⟩⟩
  have M0 : MS W1 ro (· < 0) (mOf .lf) E w := ⟨Kept.refl _ _, fun _ h => h, fun _ h => .inl h, hro, fun _ h => h.elim, (fun i b hi => by cases hi), (fun i b hi => by cases hi), (fun i b hi => by cases hi), (fun i b hi => by cases hi), fun i j b c hi => by cases hi⟩
  refine (h1.calls W1 ro E w vs M0 (by simpa using hsz) (by simp)).mono ?_
  rintro e w' ⟨v, E', n', m', y, rfl, M2, hE, hk, hv, rfl, rfl, rfl⟩
  refine ⟨v, rfl, M2.below.below, ?_⟩
  rw [hy] at hv
  cases hv with
  | d _ _ hv => cases hv with | val _ h => exact .val _ h
end Go.Proofs.Ytjjoiihgpkhndaa.Eng
