/-
  A part of the texts that the claim builds on: see the last one.
-/
import Derived.Test.YtdkneonokbakjaaFb5
import Derived.StillTail
import Derived.Deep.OwnRows
import Derived.Laws.CopyOwn
set_option linter.unusedSimpArgs false
set_option linter.unusedVariables false
noncomputable section
namespace Go.Proofs.Ytdkneonokbakjaa.Eng
open Go.RowKit
variable {P : Program} {T : Tab} {Z : ZTab} {Q : QTab} {M : MTab} {K : Known} {R : Runner} {r : Option Nat} {ns : Nat}
inductive Of (S : Nat → Prop) : SV → Prop where
  | und : Of S .und
  | d (x : Dat) : Of S (.d x)
  | nilS : Of S .nilS
  | ptr (id i j : Nat) : S id → Of S (.ptr id i j)
  | mp (id : Nat) : S id → Of S (.mp id)
  | sl (id off k : Nat) (c : Option Nat) : S id → Of S (.sl id off k c)
  | yield (id : Nat) : S id → Of S (.yield id)
  | agg (cs : List SV) : (∀ c ∈ cs, Of S c) → Of S (.agg cs)
  | tup (cs : List SV) : (∀ c ∈ cs, Of S c) → Of S (.tup cs)
  | fn (f : FuncId) (us vs : List SV) : (∀ c ∈ us, Of S c) → (∀ c ∈ vs, Of S c) → Of S (.fn f us vs)
theorem Rep.of {S : Nat → Prop} {E E0 : Env} {w : World} {x : SV} {v : Value} (hr : E0.ro = E.ro) (hd : ∀ i, E.dom i → S i → E0.dom i) (hh : ∀ i, E.dom i → S i → E0.home i = E.home i) (h : Rep E w x v) : Of S x → Rep E0 w x v := by
  induction h with
  | und v => exact fun _ => .und v
  | d x v h => exact fun _ => .d x v (h.keep (fun b hb => by rw [hr]; exact hb) fun _ _ => rfl)
  | agg cs vs hs h1 _ ih => intro hf; cases hf with | agg _ k => exact .agg cs vs hs h1 fun i c v hc hv => ih i c v hc hv (k c (List.mem_of_getElem? hc))
  | nilS => exact fun _ => .nilS
  | lin id n _ hz hc => intro hf; cases hf
  | own id n z _ hz => intro hf; cases hf
  | rptr cs b off f hb h1 hc hr' => intro hf; cases hf
  | ptr id i j k => intro hf; cases hf with | ptr _ _ _ q => rw [← hh id k q]; exact .ptr id i j (hd _ k q)
  | fn f xs ys us vs h1 h2 _ _ ih1 ih2 =>
    intro hf
    cases hf with
    | fn _ _ _ q1 q2 => exact .fn f xs ys us vs h1 h2 (fun i c v hc hv => ih1 i c v hc hv (q1 c (List.mem_of_getElem? hc))) fun i c v hc hv => ih2 i c v hc hv (q2 c (List.mem_of_getElem? hc))
  | tup cs vs hs _ ih => intro hf; cases hf with | tup _ k => exact .tup cs vs hs fun i c v hc hv => ih i c v hc hv (k c (List.mem_of_getElem? hc))
  | yield id k => intro hf; cases hf with | yield _ q => rw [← hh id k q]; exact .yield id (hd _ k q)
  | sl id off n c o k h1 hk ho hn => intro hf; cases hf with | sl _ _ _ _ q => rw [← hh id h1 q] at hk ⊢; exact .sl id off n c o k (hd _ h1 q) hk ho hn
  | mp id k => intro hf; cases hf with | mp _ q => rw [← hh id k q]; exact .mp id (hd _ k q)
  | full rows A h => intro hf; cases hf
inductive OfB (S : Nat → Prop) : Blk → Prop where
  | box (ty : TypeId) (cs : List SV) (f : Bool) : (∀ c ∈ cs, Of S c) → OfB S (.box ty cs f)
  | part (z : Nat) (ty : TypeId) (cs : List SV) (f : Bool) : (∀ c ∈ cs, Of S c) → OfB S (.part z ty cs f)
  | map (es : List (Value × SV × Nat)) (clock : Nat) (f : Bool) : (∀ q ∈ es, Of S q.2.1) → OfB S (.map es clock f)
theorem Holds.of {S : Nat → Prop} {E E0 : Env} {w : World} {h : Home} {b : Blk} (hr : E0.ro = E.ro) (hd : ∀ i, E.dom i → S i → E0.dom i) (hh : ∀ i, E.dom i → S i → E0.home i = E.home i) (k : Holds E w h b) (hb : OfB S b) : Holds E0 w h b := by
  cases hb with
  | box ty cs f q =>
    cases k with
    | box _ _ _ cur h1 h2 h3 h4 => exact .box ty cs f cur h1 h2 h3 fun j c v hc hv => (h4 j c v hc hv).of hr hd hh (q c (List.mem_of_getElem? hc))
  | part z ty cs f q =>
    cases k with
    | part _ _ _ _ cur h0 h1 h2 h3 h4 => exact .part z ty cs f cur h0 h1 h2 h3 fun j c v hc hv => (h4 j c v hc hv).of hr hd hh (q c (List.mem_of_getElem? hc))
  | map es clock f q =>
    cases k with
    | map _ _ _ ents h1 h2 h3 =>
      refine .map es clock f ents h1 h2 fun i x e hx he => ?_
      obtain ⟨a, b, c⟩ := h3 i x e hx he
      exact ⟨a, b, c.of hr hd hh (q x (List.mem_of_getElem? hx))⟩
def New (n n' i : Nat) : Prop := n ≤ i ∧ i < n'
open Classical in
def behind (m m0 mq : Mem) (n n' : Nat) : Mem := fun i => if (m0 i).isSome = true ∨ New n n' i then mq i else m i
structure NCall (P : Program) (f : FuncId) (svs : List SV) (m0 : Mem) (n n' : Nat) (y : SV) (mq : Mem) : Prop where
  callable : Callable P f
  calls : ∀ (W0 : Fix) (R0 D : Nat → Prop) (m : Mem) (E : Env) (w : World) (vs : Array Value), (∀ i, D i → ¬ New n n' i) → (∀ i b, m0 i = some b → m i = some b) → MS W0 R0 D m E w → vs.size = svs.length → (∀ (i : Nat) x v, svs[i]? = some x → vs[i]? = some v → Rep E w x v) →
    Calls P f vs w fun e w' => ∃ v E', e = .returned v ∧ MS W0 R0 (fun i => D i ∨ New n n' i) (behind m m0 mq n n') E' w' ∧ E.le E' ∧ (∀ b, E.ro b → w'.heap[b]? = w.heap[b]?) ∧ Rep E' w' y v
end Go.Proofs.Ytdkneonokbakjaa.Eng

noncomputable section
namespace Go.Proofs.Ytdkneonokbakjaa.Eng
open Go.RowKit
variable {P : Program} {T : Tab} {r : Option Nat} {ns : Nat}
inductive Kd3 where
  | off
  | pure (x : SV) (ids : List Nat)
  | act (y : SV) (R : List Nat)
def Kd3.res : Kd3 → SV
  | .off => .tup []
  | .pure x _ => x
  | .act y _ => y
def tch (N : Nat → Nat) (kd : Nat → Kd3) (k i : Nat) : Prop := ∃ y R, kd k = .act y R ∧ (i ∈ R ∨ New (N k) (N (k + 1)) i)
def StepD (P : Program) (r : Option Nat) (ns : Nat) (D D' : Nat → Prop) (s : St) (o : Oper) (s2 : St) : Prop :=
  ∀ (W0 : Fix) (R0 : Nat → Prop) (B : Nat) (E : Env) (a : Act) (w : World), InAct r W0 R0 B → Sim W0 R0 ns D s E a w → (∀ t, o.dst = some t → t < ns) →
    ∀ (K : Act → World → Prop) (Q : Exit → Act → World → Prop), (∀ E' a' w', Sim W0 R0 ns D' s2 E' a' w' → K a' w') → o.wpIn (fen (rOf W0 r)) 0 P a w K Q
open Classical in
structure Draw3 (P : Program) (r : Option Nat) (ns : Nat) (l : List Oper) (st : Nat → St) (N : Nat → Nat) (kd : Nat → Kd3) : Prop where
  slots : ∀ k o, l[k]? = some o → (st (k + 1)).slots = setSlot (st k).slots o.dst (kd k).res
  mem : ∀ k, k < l.length → ∀ i, ¬ tch N kd k i → (st (k + 1)).mem i = (st k).mem i
  names : ∀ k, k < l.length → N k ≤ N (k + 1)
  off : ∀ k o, l[k]? = some o → kd k = .off → guardS l.toArray ns (st k) o = some false
  pure : ∀ k o x ids, l[k]? = some o → kd k = .pure x ids → guardS l.toArray ns (st k) o = some true ∧ ∃ j0,
    (∀ i ∈ ids, i ≠ j0 → ∀ e, e < l.length → tch N kd e i → (e < k → Anc l e k) ∧ (k < e → Anc l k e)) ∧
    ∀ p, p ≤ l.length → (∀ e, e < l.length → tch N kd e j0 → Anc l e k → e < p) → (∀ e, e < l.length → tch N kd e j0 → Anc l k e → p ≤ e) →
      ∀ (D : Nat → Prop) s', (∀ i, D i → i < N l.length) → (∀ t ∈ slotsOf o.op, s'.slots t = (st k).slots t) → (∀ i ∈ ids, i ≠ j0 → s'.mem i = (st k).mem i) → s'.mem j0 = (st p).mem j0 → StepD P r ns D D s' o ⟨setSlot s'.slots o.dst x, s'.mem⟩
  act : ∀ k o y R, l[k]? = some o → kd k = .act y R → guardS l.toArray ns (st k) o = some true ∧ ∃ I : List Nat, (∀ i ∈ I, ∀ e, e < l.length → e ≠ k → tch N kd e i → (e < k → Anc l e k) ∧ (k < e → Anc l k e)) ∧
    ∀ (D : Nat → Prop) s', (∀ i, D i → i < N l.length) → (∀ i, D i → ¬ New (N k) (N (k + 1)) i) → (∀ t ∈ slotsOf o.op, s'.slots t = (st k).slots t) → (∀ i ∈ R, s'.mem i = (st k).mem i) → (∀ i ∈ I, s'.mem i = (st k).mem i) →
      StepD P r ns D (fun i => D i ∨ New (N k) (N (k + 1)) i) s' o ⟨setSlot s'.slots o.dst y, fun i => if i ∈ R ∨ New (N k) (N (k + 1)) i then (st (k + 1)).mem i else s'.mem i⟩
  cslot : ∀ i k oi ok t, i < k → l[i]? = some oi → l[k]? = some ok → ((oi.dst = some t ∧ (ok.dst = some t ∨ t ∈ guardSlot l.toArray ok ∨ t ∈ slotsOf ok.op)) ∨ (ok.dst = some t ∧ (t ∈ guardSlot l.toArray oi ∨ t ∈ slotsOf oi.op))) → Anc l i k
  cmem : ∀ i k b, i < k → k < l.length → tch N kd i b → tch N kd k b → Anc l i k
open Classical in
def mF (st : Nat → St) (N : Nat → Nat) (kd : Nat → Kd3) (L : Nat → Bool) : Nat → Mem
  | 0 => (st 0).mem
  | k + 1 => fun i => if L k = true ∧ tch N kd k i then (st (k + 1)).mem i else mF st N kd L k i
theorem mF_at {st : Nat → St} {N : Nat → Nat} {kd : Nat → Kd3} {L M : Nat → Bool} {i : Nat} : ∀ n, (∀ k, k < n → tch N kd k i → L k = M k) → mF st N kd L n i = mF st N kd M n i
  | 0, _ => rfl
  | n + 1, h => by
    have ih := mF_at (st := st) n fun k hk => h k (by omega)
    simp only [mF]
    by_cases ht : tch N kd n i
    · rw [h n (by omega) ht, ih]
    · rw [if_neg (fun c => ht c.2), if_neg (fun c => ht c.2), ih]
theorem mF_text {st : Nat → St} {N : Nat → Nat} {kd : Nat → Kd3} {len : Nat} (hm : ∀ k, k < len → ∀ i, ¬ tch N kd k i → (st (k + 1)).mem i = (st k).mem i) (k : Nat) (hk : k ≤ len) : mF st N kd (fun i => decide (i < k)) len = (st k).mem := by
  have h1 : ∀ j, j ≤ k → mF st N kd (fun i => decide (i < k)) j = (st j).mem := by
    intro j
    induction j with
    | zero => intro _; rfl
    | succ j ih =>
      intro hj
      funext i
      simp only [mF]
      by_cases ht : tch N kd j i
      · rw [if_pos ⟨by simp; omega, ht⟩]
      · rw [if_neg (fun c => ht c.2), ih (by omega), hm j (by omega) i ht]
  have h2 : ∀ j, k ≤ j → mF st N kd (fun i => decide (i < k)) j = (st k).mem := by
    intro j
    induction j with
    | zero => intro hj; obtain rfl : k = 0 := by omega
              rfl
    | succ j ih =>
      intro hj
      rcases Nat.lt_or_ge j k with h | h
      · obtain rfl : k = j + 1 := by omega
        exact h1 (j + 1) (Nat.le_refl _)
      · funext i
        simp only [mF]
        rw [if_neg (fun c => by have := c.1; simp at this; omega), ih h]
  exact h2 len hk
def dF (N : Nat → Nat) (kd : Nat → Kd3) (len : Nat) (L : Nat → Bool) (i : Nat) : Prop := i < N 0 ∨ ∃ k y R, k < len ∧ L k = true ∧ kd k = .act y R ∧ New (N k) (N (k + 1)) i
open Classical in
theorem draw_any3 {l : List Oper} (hB : backB l.toArray = true) {st : Nat → St} {N : Nat → Nat} {kd : Nat → Kd3} (H : Draw3 P r ns l st N kd) {W0 : Fix} {R0 : Nat → Prop} {B : Nat} (hi : InAct r W0 R0 B)
    {E : Env} {a : Act} {w : World} (hs : Sim W0 R0 ns (· < N 0) (st 0) E a w) {Q : Exit → Act → World → Prop} (hQ : ∀ E' a' w', Sim W0 R0 ns (· < N l.length) (st l.length) E' a' w' → Q .normal a' w') :
    wpAnyIn (fen (rOf W0 r)) 0 P .any l.toArray Q l.toArray.size (Array.replicate l.toArray.size false) a w := by
  have mono : ∀ i k, i ≤ k → k ≤ l.length → N i ≤ N k := by
    intro i k hik
    induction k with
    | zero => intro _; (obtain rfl : i = 0 := (by omega)); exact Nat.le_refl _
    | succ k ih =>
      intro hk
      rcases Nat.lt_or_ge i (k + 1) with h | h
      · exact Nat.le_trans (ih (by omega) (by omega)) (H.names k (by omega))
      · obtain rfl : i = k + 1 := by omega
        exact Nat.le_refl _
  let res : Nat → SV := fun k => (kd k).res
  have text : ∀ (k j : Nat), j ≤ k → k ≤ l.length → slF l res (st 0).slots (fun i => decide (i < k)) j = (st j).slots := by
    intro k j
    induction j with
    | zero => intro _ _; rfl
    | succ j ih =>
      intro hj hk
      have hjl : l[j]? = some l[j] := List.getElem?_eq_getElem (by omega)
      simp only [slF, hjl]
      rw [if_pos (by simp; omega), ih (by omega) hk]
      exact (H.slots j _ hjl).symm
  have textE : ∀ (k : Nat), k ≤ l.length → ∀ j, k ≤ j → slF l res (st 0).slots (fun i => decide (i < k)) j = (st k).slots := by
    intro k hk j
    induction j with
    | zero =>
      intro hj
      obtain rfl : k = 0 := by omega
      rfl
    | succ j ih =>
      intro hj
      rcases Nat.lt_or_ge j k with h | h
      · obtain rfl : k = j + 1 := by omega
        exact text (j + 1) (j + 1) (Nat.le_refl _) hk
      · simp only [slF]
        cases l[j]? with
        | none => exact ih h
        | some o => simp only; rw [if_neg (by simp; omega)]; exact ih h
  let Closed (L : Nat → Bool) : Prop := ∀ i k, Anc l i k → k < l.length → L k = true → L i = true
  -- what operation k sees of the slots
  have see : ∀ (L : Nat → Bool) (k : Nat) (o : Oper), l[k]? = some o → L k = false → Closed L → (∀ i, Anc l i k → L i = true) → ∀ t, (o.dst = some t ∨ t ∈ guardSlot l.toArray o ∨ t ∈ slotsOf o.op) →
      ∀ i oi, l[i]? = some oi → oi.dst = some t → i ≠ k → L i = decide (i < k) := by
    intro L k o hk hLk hC hA t hx i oi hi hw hne
    rcases Nat.lt_or_gt_of_ne hne with h | h
    · rw [decide_eq_true h]
      exact hA i (H.cslot i k oi o t h hi hk (.inl ⟨hw, hx⟩))
    · rw [decide_eq_false (by omega)]
      have hanc : Anc l k i := H.cslot k i o oi t h hk hi (by
        rcases hx with hx | hx
        · exact .inl ⟨hx, .inl hw⟩
        · exact .inr ⟨hw, hx⟩)
      cases hLi : L i with
      | false => rfl
      | true =>
        have := hC k i hanc (List.getElem?_eq_some_iff.1 hi).1 hLi
        rw [hLk] at this
        cases this
  have see_slot : ∀ (L : Nat → Bool) (k : Nat) (o : Oper), l[k]? = some o → L k = false → Closed L → (∀ i, Anc l i k → L i = true) → ∀ t, (t ∈ guardSlot l.toArray o ∨ t ∈ slotsOf o.op) → slF l res (st 0).slots L l.length t = (st k).slots t := by
    intro L k o hk hLk hC hA t hx
    have hkl := (List.getElem?_eq_some_iff.1 hk).1
    rw [← textE k (by omega) l.length (by omega)]
    refine slF_at (fun i oi hi hd => ?_) _
    by_cases e : i = k
    · subst e; rw [hLk]; simp
    · exact see L k o hk hLk hC hA t (.inr hx) i oi hi hd e
  have meet : ∀ (L L' : Nat → Bool) (k : Nat) (o : Oper), l[k]? = some o → L k = false → Closed L → (∀ i, Anc l i k → L i = true) → (∀ i, L' i = if i = k then true else L i) → slF l res (st 0).slots L' l.length = setSlot (slF l res (st 0).slots L l.length) o.dst (res k) := by
    intro L L' k o hk hLk hC hA hL'
    have hkl := (List.getElem?_eq_some_iff.1 hk).1
    funext t
    rw [setSlot_at]
    by_cases hd : o.dst = some t
    · rw [if_pos hd, slF_at (M := fun i => decide (i < k + 1)) (fun i oi hi hdi => ?_) _, textE (k + 1) (by omega) l.length (by omega), H.slots k o hk, setSlot_at, if_pos hd]
      rw [hL']
      by_cases e : i = k
      · subst e; simp
      · rw [if_neg e, see L k o hk hLk hC hA t (.inl hd) i oi hi hdi e]
        by_cases h : i < k
        · rw [decide_eq_true h, decide_eq_true (by omega)]
        · rw [decide_eq_false h, decide_eq_false (by omega)]
    · rw [if_neg hd]
      refine slF_at (fun i oi hi hdi => ?_) _
      rw [hL', if_neg]
      rintro rfl
      rw [hk] at hi
      cases hi
      exact hd hdi
  have key : ∀ (fuel : Nat) (listed : Array Bool) (E : Env) (a : Act) (w : World), listed.size = l.toArray.size → leftOf l.toArray.size listed ≤ fuel → Closed (fun i => listed.getD i true) →
      Sim W0 R0 ns (dF N kd l.length (fun i => listed.getD i true)) ⟨slF l res (st 0).slots (fun i => listed.getD i true) l.length, mF st N kd (fun i => listed.getD i true) l.length⟩ E a w → wpAnyIn (fen (rOf W0 r)) 0 P .any l.toArray Q fuel listed a w := by
    have bound : ∀ (L : Nat → Bool) i, dF N kd l.length L i → i < N l.length := fun L i hi => by
      rcases hi with hi | ⟨k, _, _, hk, _, _, h1, h2⟩
      · exact Nat.lt_of_lt_of_le hi (mono 0 _ (Nat.zero_le _) (Nat.le_refl _))
      · exact Nat.lt_of_lt_of_le h2 (mono (k + 1) _ (by omega) (Nat.le_refl _))
    have fin : ∀ (listed : Array Bool) (E : Env) (a : Act) (w : World), listed.size = l.toArray.size →
        Sim W0 R0 ns (dF N kd l.length (fun i => listed.getD i true)) ⟨slF l res (st 0).slots (fun i => listed.getD i true) l.length, mF st N kd (fun i => listed.getD i true) l.length⟩ E a w → Region.ready .any l.toArray listed = [] → Q .normal a w := by
      intro listed E a w hsz hsim hr
      have hall := all_listed hsz hB hr
      have e : slF l res (st 0).slots (fun i => listed.getD i true) l.length = (st l.length).slots := by
        rw [← text l.length l.length (Nat.le_refl _) (Nat.le_refl _)]
        funext t
        refine slF_at (fun i oi hi _ => ?_) _
        have hil := (List.getElem?_eq_some_iff.1 hi).1
        rw [hall i (by simpa using hil), decide_eq_true hil]
      have e2 : mF st N kd (fun i => listed.getD i true) l.length = (st l.length).mem := by
        rw [← mF_text H.mem l.length (Nat.le_refl _)]
        funext x
        refine mF_at _ fun i hi _ => ?_
        rw [hall i (by simpa using hi), decide_eq_true hi]
      rw [e, e2] at hsim
      exact hQ E a w (hsim.weak (bound _))
    intro fuel
    induction fuel with
    | zero =>
      intro listed E a w hsz hl hC hsim
      have hr : Region.ready .any l.toArray listed = [] := by
        rw [List.eq_nil_iff_forall_not_mem]
        intro i hi
        have h1 := (mem_ready.1 hi).1
        have h2 : i ∈ (List.range l.toArray.size).filter fun j => !listed.getD j true := by
          rw [List.mem_filter]
          refine ⟨List.mem_range.2 ?_, by rw [h1]; rfl⟩
          obtain ⟨o, ho, _⟩ := (mem_ready.1 hi).2
          exact (Array.getElem?_eq_some_iff.1 ho).1
        unfold leftOf at hl
        rw [List.length_eq_zero_iff.1 (Nat.le_zero.1 hl)] at h2
        cases h2
      exact ⟨hr, fin listed E a w hsz hsim hr⟩
    | succ fuel ih =>
      intro listed E a w hsz hl hC hsim
      refine ⟨fun hr => fin listed E a w hsz hsim hr, fun k hk => ?_⟩
      obtain ⟨hun, o, ho, hdep⟩ := mem_ready.1 hk
      have hkl : k < l.length := by have := (Array.getElem?_eq_some_iff.1 ho).1; simpa using this
      have hlk : l[k]? = some o := by simpa using ho
      have hA : ∀ i, Anc l i k → listed.getD i true = true := by
        intro i hi
        cases hi with
        | one h1 h2 h3 =>
          rw [hlk] at h1
          cases h1
          have h4 := hdep _ (by simpa using h2) h3
          rename_i e
          rcases Nat.lt_or_ge e.on listed.size with h5 | h5
          · simp [h5] at h4 ⊢; exact h4
          · simp [Array.getElem?_eq_none h5] at h4
        | more h1 h2 h3 h4 =>
          rw [hlk] at h1
          cases h1
          rename_i e
          have h5 := hdep _ (by simpa using h2) h3
          rcases Nat.lt_or_ge e.on listed.size with h6 | h6
          · refine hC i e.on h4 (by simpa [hsz] using h6) ?_
            simp [h6] at h5 ⊢; exact h5
          · simp [Array.getElem?_eq_none h6] at h5
      have hL' : ∀ i, (listed.setIfInBounds k true).getD i true = if i = k then true else listed.getD i true := fun i => by
        by_cases e : i = k
        · subst e; rw [if_pos rfl]; simp [hsz, hkl]
        · rw [if_neg e]; exact getD_set_ne true (Ne.symm e)
      have hmeet := meet (fun i => listed.getD i true) (fun i => (listed.setIfInBounds k true).getD i true) k o hlk hun hC hA hL'
      have hC' : Closed (fun i => (listed.setIfInBounds k true).getD i true) := by
        intro i j hij hj hLj
        have hLj := (hL' j).symm.trans hLj
        refine (hL' i).trans ?_
        split
        · rfl
        · rename_i hne
          by_cases e : j = k
          · subst e; exact hA i hij
          · rw [if_neg e] at hLj; exact hC i j hij hj hLj
      have hseeS : ∀ t, (t ∈ guardSlot l.toArray o ∨ t ∈ slotsOf o.op) → slF l res (st 0).slots (fun i => listed.getD i true) l.length t = (st k).slots t := see_slot _ k o hlk hun hC hA
      have hgs : ∀ b, guardS l.toArray ns (st k) o = some b → guardS l.toArray ns ⟨slF l res (st 0).slots (fun i => listed.getD i true) l.length, mF st N kd (fun i => listed.getD i true) l.length⟩ o = some b := by
        intro b hb
        unfold guardS at hb ⊢
        have hdo : dstOk ns o.dst = true := by by_cases hd : dstOk ns o.dst = true; exact hd; rw [if_neg hd] at hb; cases hb
        rw [if_pos hdo] at hb ⊢
        cases hgd : o.guard with
        | none => rw [hgd] at hb; exact hb
        | some p =>
          obtain ⟨j, want⟩ := p
          rw [hgd] at hb
          simp only at hb ⊢
          cases hj : (l.toArray[j]?).bind (·.dst) with
          | none => rw [hj] at hb; cases hb
          | some t =>
            rw [hj] at hb
            simp only at hb ⊢
            rw [hseeS t (.inl ?_)]
            · exact hb
            · simp only [guardSlot, hgd, hj]
              simp
      have hlf := leftOf_set hsz hun fuel hl
      have dmore : ∀ i, dF N kd l.length (fun i => listed.getD i true) i → dF N kd l.length (fun i => (listed.setIfInBounds k true).getD i true) i := fun i hi => by
        rcases hi with hi | ⟨e, y, R, h1, h2, h3, h4⟩
        · exact .inl hi
        · refine .inr ⟨e, y, R, h1, ?_, h3, h4⟩
          show (listed.setIfInBounds k true).getD e true = true
          rw [hL' e]
          split
          · rfl
          · exact h2
      have keep : (∀ i, ¬ tch N kd k i) → mF st N kd (fun i => (listed.setIfInBounds k true).getD i true) l.length = mF st N kd (fun i => listed.getD i true) l.length := fun hno => by
        funext i
        refine mF_at _ fun e he ht => ?_
        rw [hL' e, if_neg]
        rintro rfl
        exact hno i ht
      unfold wpOpIn
      rw [show l.toArray[k]? = some o from ho]
      simp only
      cases hkd : kd k with
      | off =>
        have hg := H.off k o hlk hkd
        rw [guard_ok hsim (hgs _ hg), if_neg (by simp)]
        refine ⟨fun f _ => fen_fn _ f, ih _ E _ w (by simpa using hsz) hlf hC' ?_⟩
        rw [hmeet, keep (fun i ⟨y, R, h, _⟩ => by rw [hkd] at h; cases h)]
        have := (hsim.weak dmore).put (guardS_dst hg) rep_no
        simpa [res, hkd, Kd3.res] using this
      | pure x ids =>
        obtain ⟨hg, j0, hord, hst⟩ := H.pure k o x ids hlk hkd
        rw [guard_ok hsim (hgs _ hg), if_pos rfl]
        have hnot : ∀ i, ¬ tch N kd k i := fun i ⟨y, R, h, _⟩ => by rw [hkd] at h; cases h
        have hpre : ∀ n, n ≤ l.length → ∃ p, p ≤ n ∧ ∀ e, e < n → tch N kd e j0 → (listed.getD e true = true ↔ e < p) := by
          intro n
          induction n with
          | zero => intro _; exact ⟨0, Nat.le_refl _, fun e he => by omega⟩
          | succ n ihn =>
            intro hn
            obtain ⟨p, hp, h1⟩ := ihn (by omega)
            by_cases ht : tch N kd n j0
            · cases hLn : listed.getD n true with
              | true =>
                refine ⟨n + 1, Nat.le_refl _, fun e he hte => ⟨fun _ => he, fun _ => ?_⟩⟩
                by_cases hen : e = n
                · rw [hen]; exact hLn
                · exact hC e n (H.cmem e n j0 (by omega) (by omega) hte ht) (by omega) hLn
              | false =>
                refine ⟨p, by omega, fun e he hte => ?_⟩
                by_cases hen : e = n
                · rw [hen, hLn]
                  exact ⟨fun h => (by cases h), fun h => (by omega)⟩
                · exact h1 e (by omega) hte
            · refine ⟨p, by omega, fun e he hte => ?_⟩
              by_cases hen : e = n
              · rw [hen] at hte; exact absurd hte ht
              · exact h1 e (by omega) hte
        obtain ⟨p, hp, hpx⟩ := hpre l.length (Nat.le_refl _)
        refine hst p hp (fun e he1 he2 he3 => (hpx e he1 he2).1 (hA e he3)) (fun e he1 he2 he3 => ?_) _ ⟨slF l res (st 0).slots (fun i => listed.getD i true) l.length, mF st N kd (fun i => listed.getD i true) l.length⟩ (bound _) (fun t ht => hseeS t (.inr ht)) (fun i hi hne => ?_) ?_ W0 R0 B E a w hi hsim (guardS_dst hg) _ Q fun E' a' w' hs' => ?_
        · rcases Nat.lt_or_ge e p with h5 | h5
          · have h6 : listed.getD k true = true := hC k e he3 he1 ((hpx e he1 he2).2 h5)
            rw [hun] at h6; cases h6
          · exact h5
        · rw [← mF_text H.mem k (by omega)]
          refine mF_at _ fun e he ht => ?_
          obtain ⟨q1, q2⟩ := hord i hi hne e he ht
          rcases Nat.lt_trichotomy e k with h | h | h
          · rw [decide_eq_true h]; exact hA e (q1 h)
          · subst h; exact absurd ht (hnot i)
          · rw [decide_eq_false (by omega)]
            cases hLe : listed.getD e true with
            | false => rfl
            | true =>
              have h6 : listed.getD k true = true := hC k e (q2 h) he hLe
              rw [hun] at h6; cases h6
        · rw [← mF_text H.mem p hp]
          refine mF_at _ fun e he ht => ?_
          rw [Bool.eq_iff_iff, decide_eq_true_iff]
          exact hpx e he ht
        · refine ih _ E' a' w' (by simpa using hsz) hlf hC' ?_
          rw [hmeet, keep hnot]
          have := hs'.weak dmore
          simpa [res, hkd, Kd3.res] using this
      | act y R =>
        obtain ⟨hg, I, hord, hst⟩ := H.act k o y R hlk hkd
        rw [guard_ok hsim (hgs _ hg), if_pos rfl]
        have htk : ∀ i, tch N kd k i ↔ (i ∈ R ∨ New (N k) (N (k + 1)) i) := fun i => ⟨fun ⟨y', R', h, h2⟩ => by rw [hkd] at h; cases h; exact h2, fun h => ⟨y, R, hkd, h⟩⟩
        have hsee : ∀ i, tch N kd k i → ∀ e, e < l.length → tch N kd e i → e ≠ k → listed.getD e true = decide (e < k) := fun i hti e he hte hne => by
          rcases Nat.lt_or_gt_of_ne hne with h | h
          · rw [decide_eq_true h]; exact hA e (H.cmem e k i h hkl hte hti)
          · rw [decide_eq_false (by omega)]
            cases hLe : listed.getD e true with
            | false => rfl
            | true =>
              have h6 : listed.getD k true = true := hC k e (H.cmem k e i h he hti hte) he hLe
              rw [hun] at h6; cases h6
        refine hst _ ⟨slF l res (st 0).slots (fun i => listed.getD i true) l.length, mF st N kd (fun i => listed.getD i true) l.length⟩ (bound _) (fun i hd hnw => ?_) (fun t ht => hseeS t (.inr ht)) (fun i hi => ?_) (fun i hi => ?_) W0 R0 B E a w hi hsim (guardS_dst hg) _ Q fun E' a' w' hs' => ?_
        · rcases hd with hd | ⟨e, y', R', h1, h2, h3, h4⟩
          · have := mono 0 k (Nat.zero_le _) (by omega)
            have := hnw.1
            omega
          · rcases Nat.lt_trichotomy e k with h | h | h
            · have := mono (e + 1) k (by omega) (by omega)
              have := h4.2
              have := hnw.1
              omega
            · subst h
              have h2 : listed.getD e true = true := h2
              rw [hun] at h2; cases h2
            · have := mono (k + 1) e (by omega) (by omega)
              have := h4.1
              have := hnw.2
              omega
        · rw [← mF_text H.mem k (by omega)]
          refine mF_at _ fun e he ht => ?_
          by_cases hek : e = k
          · subst hek
            have hun' : listed.getD e true = false := hun
            rw [hun']; simp
          · exact hsee i ((htk i).2 (.inl hi)) e he ht hek
        · rw [← mF_text H.mem k (by omega)]
          refine mF_at _ fun e he ht => ?_
          by_cases hek : e = k
          · subst hek
            have hun' : listed.getD e true = false := hun
            rw [hun']; simp
          · obtain ⟨q1, q2⟩ := hord i hi e he hek ht
            rcases Nat.lt_or_gt_of_ne hek with h | h
            · rw [decide_eq_true h]; exact hA e (q1 h)
            · rw [decide_eq_false (by omega)]
              cases hLe : listed.getD e true with
              | false => rfl
              | true =>
                have h6 : listed.getD k true = true := hC k e (q2 h) he hLe
                rw [hun] at h6; cases h6
        · refine ih _ E' a' w' (by simpa using hsz) hlf hC' ?_
          have hmem : mF st N kd (fun i => (listed.setIfInBounds k true).getD i true) l.length = fun i => if i ∈ R ∨ New (N k) (N (k + 1)) i then (st (k + 1)).mem i else mF st N kd (fun i => listed.getD i true) l.length i := by
            funext i
            split
            · rename_i hti
              rw [← mF_text H.mem (k + 1) (by omega)]
              refine mF_at _ fun e he ht => ?_
              rw [hL' e]
              by_cases hek : e = k
              · subst hek; simp
              · rw [if_neg hek, hsee i ((htk i).2 hti) e he ht hek]
                by_cases h : e < k
                · rw [decide_eq_true h, decide_eq_true (by omega)]
                · rw [decide_eq_false h, decide_eq_false (by omega)]
            · rename_i hti
              refine mF_at _ fun e he ht => ?_
              rw [hL' e, if_neg]
              rintro rfl
              exact hti ((htk i).1 ht)
          rw [hmeet, hmem]
          have := hs'.weak (D' := dF N kd l.length (fun i => (listed.setIfInBounds k true).getD i true)) fun i hi => by
            rcases hi with hi | hi
            · exact dmore i hi
            · refine .inr ⟨k, y, R, hkl, ?_, hkd, hi⟩
              show (listed.setIfInBounds k true).getD k true = true
              rw [hL' k, if_pos rfl]
          simpa [res, hkd, Kd3.res] using this
  have hL0 : ∀ i, i < l.length → (Array.replicate l.toArray.size false).getD i true = false := fun i hi => by simp [hi]
  refine key l.toArray.size _ E a _ (by simp) (by unfold leftOf; exact Nat.le_trans (List.length_filter_le _ _) (by simp)) (fun i k hik hk hLk => by have hLk := (hL0 k hk).symm.trans hLk; cases hLk) ?_
  have e0 : slF l res (st 0).slots (fun i => (Array.replicate l.toArray.size false).getD i true) l.length = (st 0).slots := by
    refine Eq.trans ?_ (textE 0 (Nat.zero_le _) l.length (Nat.zero_le _))
    funext t
    exact slF_at (fun i oi hi _ => by rw [hL0 i (List.getElem?_eq_some_iff.1 hi).1]; rfl) _
  have e1 : mF st N kd (fun i => (Array.replicate l.toArray.size false).getD i true) l.length = (st 0).mem := by
    rw [← mF_text H.mem 0 (Nat.zero_le _)]
    funext i
    exact mF_at _ fun k hk _ => by rw [hL0 k hk]; simp
  rw [e0, e1]
  exact hs.weak fun i hi => .inl hi
end Go.Proofs.Ytdkneonokbakjaa.Eng

noncomputable section
namespace Go.Proofs.Ytdkneonokbakjaa.Eng
open Go.RowKit
variable {P : Program} {T : Tab} {Z : ZTab} {Q : QTab} {M : MTab} {K : Known} {R : Runner} {r : Option Nat} {ns : Nat}
def ordB (l : List Oper) (i k : Nat) : Bool := ((ancs l []).getD k 0).testBit i
theorem fresh_nat : ∀ ids : List Nat, ∃ j, ∀ i ∈ ids, i < j
  | [] => ⟨0, by simp⟩
  | a :: l => by
    obtain ⟨j, hj⟩ := fresh_nat l
    refine ⟨max (a + 1) j, fun i hi => ?_⟩
    rcases List.mem_cons.1 hi with rfl | hi
    · omega
    · have := hj i hi; omega
end Go.Proofs.Ytdkneonokbakjaa.Eng

noncomputable section
namespace Go.Proofs.Ytdkneonokbakjaa.Eng
open Go.RowKit
variable {P : Program} {T : Tab} {Z : ZTab} {Q : QTab} {M : MTab} {K : Known} {R : Runner} {r : Option Nat} {ns : Nat}
theorem stepD_call {f : FuncId} {svs : List SV} {m0 mq : Mem} {n n' : Nat} {y : SV} (h : NCall P f svs m0 n n' y mq) {D : Nat → Prop} {s' : St} {o : Oper} (hD : ∀ i, D i → ¬ New n n' i) (h1 : calleeS ns s' o.op = some (f, svs)) (hm : ∀ i b, m0 i = some b → s'.mem i = some b) :
    StepD P r ns D (fun i => D i ∨ New n n' i) s' o ⟨setSlot s'.slots o.dst y, behind s'.mem m0 mq n n'⟩ := by
  intro W0 R0 B E a w _ hs hd K1 Q' hK1
  obtain ⟨vs, hex, v1, v2⟩ := calleeS_run hs h1 h.callable
  refine oper_in (fun c e => by rw [e] at h1; cases h1) ?_
  unfold Oper.wp
  rw [hex, Oper.upon_enter]
  refine (h.calls W0 R0 D s'.mem E w vs hD hm hs.ms v1 v2).mono ?_
  rintro e w' ⟨v, E', rfl, M, hE, hw, hv⟩
  exact hK1 E' _ w' ((hs.back M hE hw).put hd hv)
theorem stepD_ro {f : FuncId} {svs : List SV} {m0 : Mem} {d : Dat} (h : RCall P f svs d m0) {D : Nat → Prop} {N : Nat} {s' : St} {o : Oper} (hD : ∀ i, D i → i < N) (h1 : calleeS ns s' o.op = some (f, svs)) (hm : ∀ i b, m0 i = some b → s'.mem i = some b) {x : SV} (hx : toD3 x = some d) :
    StepD P r ns D D s' o ⟨setSlot s'.slots o.dst x, s'.mem⟩ := by
  intro W0 R0 B E a w _ hs hd K1 Q' hK1
  obtain ⟨vs, hex, v1, v2⟩ := calleeS_run hs h1 h.callable
  refine oper_in (fun c e => by rw [e] at h1; cases h1) ?_
  unfold Oper.wp
  rw [hex, Oper.upon_enter]
  refine ((h.more hm).calls W0 R0 D N E w vs hD hs.ms v1 v2).mono ?_
  rintro e w' ⟨v, E', rfl, M, hE, hw, hv⟩
  exact hK1 E' _ w' ((hs.back M hE hw).put hd ((toD3_rep hx).2 hv))
end Go.Proofs.Ytdkneonokbakjaa.Eng

noncomputable section
namespace Go.Proofs.Ytdkneonokbakjaa.Eng
open Go.RowKit
variable {P : Program} {T : Tab} {r : Option Nat} {ns : Nat}
open Classical in
theorem ncall_ofM {f : FuncId} {svs : List SV} {n : Nat} {m0 : Mem} {n1 : Nat} {y0 : SV} {mq : Mem} (h : CWp P f svs n m0 fun y n' m' => y0 = y ∧ n1 = n' ∧ mq = m') (hlt : ∀ i b, m0 i = some b → i < n) (hm0 : ∀ i b, m0 i = some b → OfB (fun i => (m0 i).isSome = true) b) (hargs : ∀ x ∈ svs, Of (fun i => (m0 i).isSome = true) x)
    (hq : ∀ i b, mq i = some b → ((m0 i).isSome = true ∨ New n n1 i) ∧ OfB (fun i => (m0 i).isSome = true ∨ New n n1 i) b) (hy : Of (fun i => (m0 i).isSome = true ∨ New n n1 i) y0) : NCall P f svs m0 n n1 y0 mq :=
  ⟨h.callable, fun W0 R0 D m E w vs hD hm M h1 h2 => by
    have some_of : ∀ i, (m0 i).isSome = true → ∃ b, m0 i = some b := fun i hi => Option.isSome_iff_exists.1 hi
    let W1 : Fix := { w := w, U := fun b => b < w.heap.size ∧ ∀ i c, m0 i = some c → (E.home i).blk ≠ b, lt := fun _ h => h.1, g := fun _ => undef }
    have hU : ∀ b, W0.U b → W1.U b := fun b hb => ⟨Nat.lt_of_lt_of_le (W0.lt b hb) M.below.size, fun i c hi e => M.base i c (hm i c hi) (e ▸ hb)⟩
    have hUn : ∀ i b, m i = some b → ¬ (m0 i).isSome = true → W1.U (E.home i).blk := fun i b hi hn => ⟨(M.mem i b hi).lt, fun j c hj => M.inj j i c b (hm j c hj) hi fun e => hn (by rw [← e, hj]; rfl)⟩
    let E0 : Env := { E with dom := fun i => E.dom i ∧ (m0 i).isSome = true }
    have M0 : MS W1 E.ro (· < n) m0 E0 w := ⟨Kept.refl _ _, fun _ h => h, fun _ h => .inl h, M.rlt, fun i hi => by obtain ⟨b, hb⟩ := some_of i hi.2; exact hlt i b hb, fun i b hi => ⟨M.live i b (hm i b hi), by rw [hi]; rfl⟩, fun i b hi => Holds.of (E := E) (E0 := E0) rfl (fun i a b => ⟨a, b⟩) (fun _ _ _ => rfl) (M.mem i b (hm i b hi)) (hm0 i b hi), fun i b hi h => h.2 i b hi rfl, fun i b hi => M.frz i b (hm i b hi), fun i j b c hi hj hn => M.inj i j b c (hm i b hi) (hm j c hj) hn⟩
    refine ((h.calls W1 E.ro E0 w vs M0 h1 fun i x v hx hv => Rep.of (E := E) (E0 := E0) rfl (fun i a b => ⟨a, b⟩) (fun _ _ _ => rfl) (h2 i x v hx hv) (hargs x (List.mem_of_getElem? hx)))).mono ?_
    rintro e w' ⟨v, E', n', m', y, rfl, M2, hE, hw, hv, rfl, rfl, rfl⟩
    have hro : ∀ b, E'.ro b → E.ro b ∨ ¬ W1.U b := M2.ro1
    let E2 : Env := { E' with dom := fun i => E.dom i ∨ (New n n1 i ∧ E'.dom i), home := fun i => if New n n1 i then E'.home i else E.home i }
    have live0 : ∀ i, (m0 i).isSome = true → E.dom i := fun i hi => by obtain ⟨b, hb⟩ := some_of i hi; exact M.live i b (hm i b hb)
    have not_new : ∀ i, E.dom i → ¬ New n n1 i := fun i hi => hD i (M.dom i hi)
    have home2 : ∀ i, (m0 i).isSome = true ∨ New n n1 i → E2.home i = E'.home i := fun i hi => by
      by_cases hn : New n n1 i
      · show (if New n n1 i then E'.home i else E.home i) = _
        rw [if_pos hn]
      · show (if New n n1 i then E'.home i else E.home i) = _
        rw [if_neg hn]
        have hs := hi.resolve_right hn
        exact (hE.home i ⟨live0 i hs, hs⟩).symm
    have homeE : ∀ i, E.dom i → E2.home i = E.home i := fun i hi => by
      show (if New n n1 i then E'.home i else E.home i) = _
      rw [if_neg (not_new i hi)]
    have dom2 : ∀ i, E'.dom i → (m0 i).isSome = true ∨ New n n1 i → E2.dom i := fun i hd hi => by
      rcases hi with hi | hi
      · exact .inl (live0 i hi)
      · exact .inr ⟨hi, hd⟩
    have hle : E.le E2 := ⟨hE.ro, fun _ h => .inl h, homeE⟩
    have cases_ : ∀ i b, behind m m0 mq n n1 i = some b → (((m0 i).isSome = true ∨ New n n1 i) ∧ mq i = some b) ∨ (¬ ((m0 i).isSome = true ∨ New n n1 i) ∧ m i = some b) := fun i b hb => by
      unfold behind at hb
      split at hb
      · rename_i c; exact .inl ⟨c, hb⟩
      · rename_i c; exact .inr ⟨c, hb⟩
    refine ⟨v, E2, rfl, ⟨M.below.trans (M2.below.mono hU), fun b hb => hE.ro b (M.ro0 b hb), fun b hb => ?_, M2.rlt, fun i hi => ?_, fun i b hi => ?_, fun i b hi => ?_, fun i b hi => ?_, fun i b hi => ?_, fun i j b c hi hj hn => ?_⟩, hle, hw, ?_⟩
    · rcases hro b hb with h3 | h3
      · exact M.ro1 b h3
      · exact .inr fun h4 => h3 (hU b h4)
    · rcases hi with hi | hi
      · exact .inl (M.dom i hi)
      · exact .inr hi.1
    · rcases cases_ i b hi with ⟨h3, h4⟩ | ⟨_, h4⟩
      · exact dom2 i (M2.live i b h4) h3
      · exact .inl (M.live i b h4)
    · rcases cases_ i b hi with ⟨h3, h4⟩ | ⟨h3, h4⟩
      · rw [home2 i h3]
        exact Holds.of (E := E') (E0 := E2) rfl dom2 (fun i _ hs => home2 i hs) (M2.mem i b h4) (hq i b h4).2
      · rw [homeE i (M.live i b h4)]
        exact (M.mem i b h4).keep hle hw (M2.below.block _ (hUn i b h4 fun hs => h3 (.inl hs)))
    · rcases cases_ i b hi with ⟨h3, h4⟩ | ⟨h3, h4⟩
      · rw [home2 i h3]
        exact fun h5 => M2.base i b h4 (hU _ h5)
      · rw [homeE i (M.live i b h4)]
        exact M.base i b h4
    · rcases cases_ i b hi with ⟨h3, h4⟩ | ⟨h3, h4⟩
      · rw [home2 i h3]
        exact M2.frz i b h4
      · rw [homeE i (M.live i b h4)]
        refine (M.frz i b h4).trans ⟨fun h => hE.ro _ h, fun h => ?_⟩
        rcases hro _ h with h5 | h5
        · exact h5
        · exact absurd (hUn i b h4 fun hs => h3 (.inl hs)) h5
    · rcases cases_ i b hi with ⟨h3, h4⟩ | ⟨h3, h4⟩
      · rcases cases_ j c hj with ⟨k3, k4⟩ | ⟨k3, k4⟩
        · rw [home2 i h3, home2 j k3]
          exact M2.inj i j b c h4 k4 hn
        · rw [home2 i h3, homeE j (M.live j c k4)]
          exact fun e => M2.base i b h4 (e ▸ hUn j c k4 fun hs => k3 (.inl hs))
      · rcases cases_ j c hj with ⟨k3, k4⟩ | ⟨k3, k4⟩
        · rw [homeE i (M.live i b h4), home2 j k3]
          exact fun e => M2.base j c k4 (e ▸ hUn i b h4 fun hs => h3 (.inl hs))
        · rw [homeE i (M.live i b h4), homeE j (M.live j c k4)]
          exact M.inj i j b c h4 k4 hn
    · exact Rep.of (E := E') (E0 := E2) rfl dom2 (fun i _ hs => home2 i hs) hv hy⟩
structure EnV where
  k : Kd3
  n : Nat
  s : St
  n' : Nat
  s' : St
  rd : List Nat
def EnV.reads (e : EnV) : List Nat := match e.k with
  | .pure _ ids => ids
  | .act _ _ => e.rd
  | .off => []
def EnV.tch (e : EnV) (b : Nat) : Prop := match e.k with
  | .act _ R => b ∈ R ∨ New e.n e.n' b
  | _ => False
open Classical in
structure EnVOk (P : Program) (r : Option Nat) (ns : Nat) (ops : Array Oper) (o : Oper) (e : EnV) : Prop where
  k : match e.k with
    | .off => guardS ops ns e.s o = some false ∧ e.n' = e.n ∧ e.s' = ⟨setSlot e.s.slots o.dst (.tup []), e.s.mem⟩
    | .pure x ids => guardS ops ns e.s o = some true ∧ (∀ (s' : St) (D : Nat → Prop) (N : Nat), (∀ i, D i → i < N) → (∀ t ∈ slotsOf o.op, s'.slots t = e.s.slots t) → (∀ i ∈ ids, s'.mem i = e.s.mem i) → StepD P r ns D D s' o ⟨setSlot s'.slots o.dst x, s'.mem⟩) ∧ e.n' = e.n ∧ e.s' = ⟨setSlot e.s.slots o.dst x, e.s.mem⟩
    | .act y R => guardS ops ns e.s o = some true ∧ (∀ (D : Nat → Prop) (s' : St), (∀ i, D i → ¬ New e.n e.n' i) → (∀ t ∈ slotsOf o.op, s'.slots t = e.s.slots t) → (∀ i ∈ R, s'.mem i = e.s.mem i) → (∀ i ∈ e.rd, s'.mem i = e.s.mem i) →
        StepD P r ns D (fun i => D i ∨ New e.n e.n' i) s' o ⟨setSlot s'.slots o.dst y, fun i => if i ∈ R ∨ New e.n e.n' i then e.s'.mem i else s'.mem i⟩) ∧ e.n ≤ e.n' ∧ e.s'.slots = setSlot e.s.slots o.dst y ∧ ∀ i, ¬ (i ∈ R ∨ New e.n e.n' i) → e.s'.mem i = e.s.mem i
inductive ChainV (P : Program) (r : Option Nat) (ns : Nat) (ops : Array Oper) : List Oper → List EnV → Nat → St → Nat → St → Prop
  | nil (n s) : ChainV P r ns ops [] [] n s n s
  | cons {o l e es nF sF} : EnVOk P r ns ops o e → ChainV P r ns ops l es e.n' e.s' nF sF → ChainV P r ns ops (o :: l) (e :: es) e.n e.s nF sF
def stV (es : List EnV) (sF : St) (k : Nat) : St := match es[k]? with
  | some e => e.s
  | none => sF
def nV (es : List EnV) (nF : Nat) (k : Nat) : Nat := match es[k]? with
  | some e => e.n
  | none => nF
def kdV (es : List EnV) (k : Nat) : Kd3 := match es[k]? with
  | some e => e.k
  | none => .off
theorem chainV_len {ops : Array Oper} {l : List Oper} {es : List EnV} {n nF : Nat} {s sF : St} (h : ChainV P r ns ops l es n s nF sF) : es.length = l.length := by
  induction h with
  | nil => rfl
  | cons _ _ ih => simp [ih]
theorem chainV_zero {ops : Array Oper} {l : List Oper} {es : List EnV} {n nF : Nat} {s sF : St} (h : ChainV P r ns ops l es n s nF sF) : stV es sF 0 = s ∧ nV es nF 0 = n := by
  cases h with
  | nil => exact ⟨rfl, rfl⟩
  | cons => exact ⟨rfl, rfl⟩
theorem chainV_at {ops : Array Oper} {l : List Oper} {es : List EnV} {n nF : Nat} {s sF : St} (h : ChainV P r ns ops l es n s nF sF) : ∀ (k : Nat) o, l[k]? = some o → ∃ e, es[k]? = some e ∧ EnVOk P r ns ops o e ∧ (stV es sF k = e.s ∧ nV es nF k = e.n) ∧ stV es sF (k + 1) = e.s' ∧ nV es nF (k + 1) = e.n' := by
  induction h with
  | nil => intro k o hk; simp at hk
  | @cons o l e es nF sF he hc ih =>
    intro k o' hk
    match k with
    | 0 =>
      simp only [List.getElem?_cons_zero, Option.some.injEq] at hk
      subst hk
      exact ⟨e, rfl, he, ⟨rfl, rfl⟩, chainV_zero hc⟩
    | k + 1 =>
      obtain ⟨e', h1, h2, h3, h4⟩ := ih k o' (by simpa using hk)
      exact ⟨e', by simpa using h1, h2, h3, h4⟩
theorem chainV_end {ops : Array Oper} {l : List Oper} {es : List EnV} {n nF : Nat} {s sF : St} (h : ChainV P r ns ops l es n s nF sF) : stV es sF l.length = sF ∧ nV es nF l.length = nF := by
  unfold stV nV
  rw [List.getElem?_eq_none (by rw [chainV_len h]; omega)]
  exact ⟨rfl, rfl⟩
def FreeV (a e : EnV) : Prop := (∀ b, ¬ (a.tch b ∧ e.tch b)) ∧ (∀ i ∈ e.reads, ¬ a.tch i) ∧ ∀ i ∈ a.reads, ¬ e.tch i
theorem draw3_V {l : List Oper} {es : List EnV} {n nF : Nat} {s sF : St} (h : ChainV P r ns l.toArray l es n s nF sF) (hst : stOk l.toArray = true) (hp : ∀ i k ei ek, i < k → es[i]? = some ei → es[k]? = some ek → ordB l i k = true ∨ FreeV ei ek) :
    Draw3 P r ns l (stV es sF) (nV es nF) (kdV es) := by
  have hlen := chainV_len h
  have at_ : ∀ (k : Nat), k < l.length → ∃ o e, l[k]? = some o ∧ es[k]? = some e ∧ EnVOk P r ns l.toArray o e ∧ (stV es sF k = e.s ∧ nV es nF k = e.n) ∧ stV es sF (k + 1) = e.s' ∧ nV es nF (k + 1) = e.n' := fun k hk => by
    obtain ⟨e, h1, h2, h3, h4⟩ := chainV_at h k _ (List.getElem?_eq_getElem hk)
    exact ⟨_, e, List.getElem?_eq_getElem hk, h1, h2, h3, h4⟩
  unfold stOk at hst
  rw [Bool.and_eq_true] at hst
  have bitD : ∀ {i k : Nat}, ordB l i k = true → Anc l i k := fun {i k} hb => ancs_ok l [] [] rfl rfl (fun k i hk => by simp at hk) k i hb
  have bit : ∀ {i k b : Nat}, (ancs l [])[k]? = some b → b.testBit i = true → Anc l i k := fun {i k b} hb hbt => bitD (by unfold ordB; rw [List.getD_eq_getElem?_getD, hb]; simpa using hbt)
  have tchV : ∀ k e i, es[k]? = some e → tch (nV es nF) (kdV es) k i → e.tch i := fun k e i he ht => by
    have hk : k < l.length := by rw [← hlen]; exact (List.getElem?_eq_some_iff.1 he).1
    obtain ⟨y, R, hkd, ht⟩ := ht
    obtain ⟨o, e', _, g1, _, g3, g4⟩ := at_ k hk
    rw [he] at g1
    cases g1
    simp only [kdV, he] at hkd
    simp only [New, g3.2, g4.2] at ht
    unfold EnV.tch
    rw [hkd]
    exact ht
  refine ⟨fun k o hk => ?_, fun k hk i hi => ?_, fun k hk => ?_, fun k o hk hd => ?_, fun k o x ids hk hd => ?_, fun k o y R hk hd => ?_, fun i k oi ok t hik hi hk ht => ?_, fun i k b hik hk hi he => ?_⟩
  · obtain ⟨e, g1, g2, g3, g4⟩ := chainV_at h k o hk
    have hk2 := g2.k
    rw [g3.1, g4.1]
    simp only [kdV, g1]
    cases hek : e.k with
    | off => rw [hek] at hk2; rw [hk2.2.2]; rfl
    | pure x ids => rw [hek] at hk2; rw [hk2.2.2.2]; rfl
    | act y R => rw [hek] at hk2; rw [hk2.2.2.2.1]; rfl
  · obtain ⟨o, e, _, g1, g2, g3, g4⟩ := at_ k hk
    have hk2 := g2.k
    rw [g3.1, g4.1]
    cases hek : e.k with
    | off => rw [hek] at hk2; rw [hk2.2.2]
    | pure x ids => rw [hek] at hk2; rw [hk2.2.2.2]
    | act y R =>
      rw [hek] at hk2
      refine hk2.2.2.2.2 i fun hc => hi ⟨y, R, by simp only [kdV, g1, hek], ?_⟩
      simp only [g3.2, g4.2]
      exact hc
  · obtain ⟨o, e, _, g1, g2, g3, g4⟩ := at_ k hk
    have hk2 := g2.k
    rw [g3.2, g4.2]
    cases hek : e.k with
    | off => rw [hek] at hk2; rw [hk2.2.1]; exact Nat.le_refl _
    | pure x ids => rw [hek] at hk2; rw [hk2.2.2.1]; exact Nat.le_refl _
    | act y R => rw [hek] at hk2; exact hk2.2.2.1
  · obtain ⟨e, g1, g2, g3, g4⟩ := chainV_at h k o hk
    simp only [kdV, g1] at hd
    have hk2 := g2.k
    rw [hd] at hk2
    rw [g3.1]
    exact hk2.1
  · obtain ⟨e, g1, g2, g3, g4⟩ := chainV_at h k o hk
    simp only [kdV, g1] at hd
    have hk2 := g2.k
    rw [hd] at hk2
    obtain ⟨j0, hj0⟩ := fresh_nat ids
    have hkl : k < l.length := (List.getElem?_eq_some_iff.1 hk).1
    rw [g3.1]
    refine ⟨hk2.1, j0, fun i hi _ e' he' ht => ?_, fun p _ _ _ D s' hDN hsl hme _ => hk2.2.1 s' D _ hDN hsl fun i hi => hme i hi (Nat.ne_of_lt (hj0 i hi))⟩
    obtain ⟨o', ee, _, q1, _⟩ := at_ e' he'
    have h9 := tchV e' ee i q1 ht
    have hri : i ∈ e.reads := by unfold EnV.reads; rw [hd]; exact hi
    refine ⟨fun hlt => ?_, fun hlt => ?_⟩
    · rcases hp e' k ee e hlt q1 g1 with q | q
      · exact bitD q
      · exact absurd h9 (q.2.1 i hri)
    · rcases hp k e' e ee hlt g1 q1 with q | q
      · exact bitD q
      · exact absurd h9 (q.2.2 i hri)
  · obtain ⟨e, g1, g2, g3, g4⟩ := chainV_at h k o hk
    simp only [kdV, g1] at hd
    have hk2 := g2.k
    rw [hd] at hk2
    rw [g3.1, g3.2, g4.1, g4.2]
    refine ⟨hk2.1, e.rd, fun i hi e' he' hne ht => ?_, fun D s' _ hD hsl hR hI => hk2.2.1 D s' hD hsl hR hI⟩
    obtain ⟨o', ee, _, q1, _⟩ := at_ e' he'
    have h9 := tchV e' ee i q1 ht
    have hri : i ∈ e.reads := by unfold EnV.reads; rw [hd]; exact hi
    refine ⟨fun hlt => ?_, fun hlt => ?_⟩
    · rcases hp e' k ee e hlt q1 g1 with q | q
      · exact bitD q
      · exact absurd h9 (q.2.1 i hri)
    · rcases hp k e' e ee hlt g1 q1 with q | q
      · exact bitD q
      · exact absurd h9 (q.2.2 i hri)
  · have a1 : (l.toArray.toList.map fun o => (maskL (guardSlot l.toArray o ++ slotsOf o.op), maskL o.dst.toList))[i]? = some (maskL (guardSlot l.toArray oi ++ slotsOf oi.op), maskL oi.dst.toList) := by simp [hi]
    have a2 : (l.toArray.toList.map fun o => (maskL (guardSlot l.toArray o ++ slotsOf o.op), maskL o.dst.toList))[k]? = some (maskL (guardSlot l.toArray ok ++ slotsOf ok.op), maskL ok.dst.toList) := by simp [hk]
    obtain ⟨b, hb, h5⟩ := stAll_spec hst.2 (by rw [ancs_len]; simp) i k _ _ hik a1 a2
    rcases h5 with h5 | h6
    · exact bit hb (by simpa using h5)
    · exfalso
      obtain ⟨h7, h8⟩ := or_zero h6
      rcases ht with ⟨ht, h9⟩ | ⟨ht, h9⟩
      · refine and_bit h7 (x := t) (maskL_mem (by simp [ht])) ?_
        rw [Nat.testBit_or, Bool.or_eq_true]
        rcases h9 with h9 | h9 | h9
        · exact .inr (maskL_mem (by simp [h9]))
        · exact .inl (maskL_mem (List.mem_append_left _ h9))
        · exact .inl (maskL_mem (List.mem_append_right _ h9))
      · refine and_bit h8 (x := t) (maskL_mem ?_) (maskL_mem (by simp [ht]))
        rcases h9 with h9 | h9
        · exact List.mem_append_left _ h9
        · exact List.mem_append_right _ h9
  · obtain ⟨o1, e1, _, q1, _⟩ := at_ i (by omega)
    obtain ⟨o2, e2, _, q2, _⟩ := at_ k hk
    rcases hp i k e1 e2 hik q1 q2 with q | q
    · exact bitD q
    · exact absurd ⟨tchV i e1 b q1 hi, tchV k e2 b q2 he⟩ (q.1 b)
structure FtV where
  n : Nat
  n' : Nat
  wr : List Nat
  rd : List Nat
def EnV.wr (e : EnV) : List Nat := match e.k with
  | .act _ R => R
  | _ => []
def EnV.ft (e : EnV) : FtV := ⟨e.n, e.n', e.wr, e.reads⟩
def AllAcc (f : Nat → FtV → Prop) : Nat → List FtV → Prop
  | _, [] => True
  | i, a :: acc => f i a ∧ AllAcc f (i + 1) acc
theorem allAcc_at {f : Nat → FtV → Prop} : ∀ {acc : List FtV} {i : Nat}, AllAcc f i acc → ∀ j a, acc[j]? = some a → f (i + j) a
  | [], i, _, j, a, h => by simp at h
  | a0 :: acc, i, hf, 0, a, h => by simp at h; subst h; exact hf.1
  | a0 :: acc, i, hf, j + 1, a, h => by
    have := allAcc_at hf.2 j a (by simpa using h)
    rwa [show i + 1 + j = i + (j + 1) by omega] at this
def IdOk (l : List Oper) (k n0 : Nat) (acc : List FtV) (id : Nat) : Prop := (id < n0 ∧ AllAcc (fun _ a => id ∉ a.wr) 0 acc) ∨ AllAcc (fun i a => ordB l i k = true ∨ (id ∉ a.wr ∧ ¬ (a.n ≤ id ∧ id < a.n'))) 0 acc
def OkV (l : List Oper) (k n0 : Nat) (acc : List FtV) (e : FtV) : Prop := (∀ id ∈ e.wr ++ e.rd, id < e.n ∧ IdOk l k n0 acc id) ∧ (e.wr = [] ∨ AllAcc (fun i a => ordB l i k = true ∨ ∀ id ∈ e.wr, id ∉ a.rd) 0 acc)
def ExecV (P : Program) (r : Option Nat) (ns : Nat) (l0 : List Oper) (n0 : Nat) : List Oper → Nat → St → List FtV → (Nat → St → Prop) → Prop
  | [], n, s, _, Q => Q n s
  | o :: l, n, s, acc, Q => ∃ e : EnV, e.n = n ∧ e.s = s ∧ EnVOk P r ns l0.toArray o e ∧ OkV l0 acc.length n0 acc e.ft ∧ ExecV P r ns l0 n0 l e.n' e.s' (acc ++ [e.ft]) Q
theorem EnVOk.le {ops : Array Oper} {o : Oper} {e : EnV} (h : EnVOk P r ns ops o e) : e.n ≤ e.n' := by
  have hk := h.k
  cases hek : e.k with
  | off => rw [hek] at hk; rw [hk.2.1]; exact Nat.le_refl _
  | pure x ids => rw [hek] at hk; rw [hk.2.2.1]; exact Nat.le_refl _
  | act y R => rw [hek] at hk; exact hk.2.2.1
theorem tch_iff {e : EnV} {b : Nat} (h : e.tch b) : b ∈ e.wr ∨ (e.n ≤ b ∧ b < e.n') := by
  unfold EnV.tch at h
  unfold EnV.wr
  split at h
  · exact h
  · exact h.elim
theorem free_of {l : List Oper} {k n0 : Nat} {acc : List FtV} {a e : EnV} {i : Nat} (ho : OkV l k n0 acc e.ft) (ha : acc[i]? = some a.ft) (h0 : n0 ≤ a.n) (h1 : a.n' ≤ e.n) (h9 : a.n ≤ a.n') (ht : ∀ id ∈ a.wr ++ a.reads, id < a.n) : ordB l i k = true ∨ FreeV a e := by
  cases hord : ordB l i k with
  | true => exact .inl rfl
  | false =>
    obtain ⟨o1, o2⟩ := ho
    have ids : ∀ id ∈ e.wr ++ e.reads, id ∉ a.wr ∧ ¬ (a.n ≤ id ∧ id < a.n') := fun id hid => by
      obtain ⟨_, q | q⟩ := o1 id hid
      · have h2 : id ∉ a.wr := allAcc_at q.2 i _ ha
        have h3 := q.1
        exact ⟨h2, by omega⟩
      · have := allAcc_at q i _ ha
        rw [Nat.zero_add] at this
        exact this.resolve_left (by rw [hord]; simp)
    refine .inr ⟨fun b ⟨t1, t2⟩ => ?_, fun id hid t1 => ?_, fun id hid t2 => ?_⟩
    · rcases tch_iff t2 with t2 | t2
      · obtain ⟨q1, q2⟩ := ids b (List.mem_append_left _ t2)
        exact (tch_iff t1).elim q1 q2
      · rcases tch_iff t1 with t1 | t1
        · have := ht b (List.mem_append_left _ t1)
          omega
        · omega
    · obtain ⟨q1, q2⟩ := ids id (List.mem_append_right _ hid)
      exact (tch_iff t1).elim q1 q2
    · have h4 := ht id (List.mem_append_right _ hid)
      rcases tch_iff t2 with t2 | t2
      · rcases o2 with o2 | o2
        · have o2 : e.wr = [] := o2
          rw [o2] at t2; cases t2
        · have := allAcc_at o2 i _ ha
          rw [Nat.zero_add] at this
          exact this.resolve_left (by rw [hord]; simp) id t2 hid
      · omega
theorem execV_chain {l0 : List Oper} {n0 : Nat} : ∀ (l : List Oper) (n : Nat) (s : St) (acc : List EnV) {Q : Nat → St → Prop}, (∀ a ∈ acc, n0 ≤ a.n ∧ a.n' ≤ n ∧ a.n ≤ a.n' ∧ ∀ id ∈ a.wr ++ a.reads, id < a.n) → n0 ≤ n → ExecV P r ns l0 n0 l n s (acc.map EnV.ft) Q → ∃ es nF sF, ChainV P r ns l0.toArray l es n s nF sF ∧ Q nF sF ∧ ∀ i k ei ek, i < k → acc.length ≤ k → (acc ++ es)[i]? = some ei → (acc ++ es)[k]? = some ek → ordB l0 i k = true ∨ FreeV ei ek
  | [], n, s, acc, Q, _, _, h => ⟨[], n, s, .nil n s, h, fun i k ei ek _ hk _ h2 => by rw [List.append_nil, List.getElem?_eq_none hk] at h2; cases h2⟩
  | o :: l, n, s, acc, Q, hacc, hn, ⟨e, h1, h2, h3, h4, h5⟩ => by
    subst h1
    subst h2
    have hle := h3.le
    obtain ⟨es, nF, sF, k1, k2, k3⟩ := execV_chain l e.n' e.s' (acc ++ [e]) (fun a ha => by
      rcases List.mem_append.1 ha with ha | ha
      · obtain ⟨q1, q2, q9, q3⟩ := hacc a ha
        exact ⟨q1, Nat.le_trans q2 hle, q9, q3⟩
      · rw [List.mem_singleton] at ha
        subst ha
        exact ⟨hn, Nat.le_refl _, hle, fun id hid => (h4.1 id hid).1⟩) (Nat.le_trans hn hle) (by rw [List.map_append]; exact h5)
    refine ⟨e :: es, nF, sF, .cons h3 k1, k2, fun i k ei ek hik hk hi hke => ?_⟩
    have e1 : acc ++ e :: es = (acc ++ [e]) ++ es := by simp
    rcases Nat.lt_or_ge acc.length k with h | h
    · rw [e1] at hi hke
      exact k3 i k ei ek hik (by simp; omega) hi hke
    · obtain rfl : k = acc.length := by omega
      rw [List.getElem?_append_right (Nat.le_refl _)] at hke
      simp at hke
      subst hke
      rw [List.getElem?_append_left hik] at hi
      obtain ⟨q1, q2, q9, q3⟩ := hacc ei (List.mem_of_getElem? hi)
      rw [List.length_map] at h4
      exact free_of h4 (by rw [List.getElem?_map, hi]; rfl) q1 q2 q9 q3
end Go.Proofs.Ytdkneonokbakjaa.Eng

noncomputable section
namespace Go.Proofs.Ytdkneonokbakjaa.Eng
open Go.RowKit
variable {P : Program} {T : Tab} {r : Option Nat} {ns : Nat}
def isPure : Op → Bool
  | .box .. | .alloc _ | .buildSlice .. | .makeSlice .. | .store .. => false
  | .call c => match c.callee with
    | .builtin .append => false
    | .builtin _ => true
    | _ => false
  | _ => true
theorem pure_run (hT : TabOk P T) {W0 : Fix} {R0 D : Nat → Prop} {s : St} {E : Env} {a : Act} {w : World} (h : Sim W0 R0 ns D s E a w) {o : Oper} {nid : Nat} {x : SV} (hp : isPure o.op = true) (hs : aop T s.mem nid (opd ns s) o.op = some { res := x }) : ∃ v, (execOp a.eval o).run P w = .ok (.value v) w ∧ Rep E w x v := by
  have hev : ∀ x v, opd ns s x = some v → Rep E w v (a.eval x) := fun x v hx => h.opd hx
  have fin : ∀ {r : SV}, aopR T s.mem (opd ns s) o.op = some r → ({ res := r } : Out) = { res := x } → ∃ v, (execOp a.eval o).run P w = .ok (.value v) w ∧ Rep E w x v := fun {r} hr e => by
    cases e
    exact aopR_run hT hev h.mem hr
  unfold aop at hs
  split at hs
  · rename_i ho; rw [ho] at hp; cases hp
  · rename_i ho; rw [ho] at hp; cases hp
  · rename_i t ps ho
    split at hs
    · rename_i i l hi hl
      split at hs
      · rename_i hkn
        rw [Option.map_eq_some_iff] at hs
        obtain ⟨c, hc, e⟩ := hs
        cases e
        obtain ⟨p1, p2⟩ := evParts_rep (w := w) (E := E) hev hl
        obtain ⟨z, hz, hr⟩ := build_run (w := w) (E := E) hT hi hkn (ps := ps.map fun (i, x) => (i, a.eval x)) (by simpa using p1) (fun j p q hp hq => p2 j p q hp (by simpa using hq)) hc
        exact ⟨z, by simp only [execOp, ho, Sem.run_bind, hz, Result.andThen_ok]; rfl, hr⟩
      · cases hs
    · cases hs
  · rename_i ho; rw [ho] at hp; cases hp
  · rename_i ho; rw [ho] at hp; cases hp
  · rename_i ho; rw [ho] at hp; cases hp
  · rename_i c ho
    split at hs
    · rename_i hc _ _
      rw [ho] at hp
      simp only [isPure, hc] at hp
      cases hp
    · rw [Option.map_eq_some_iff] at hs
      obtain ⟨r, hr, e⟩ := hs
      exact fin (by rw [ho]; exact hr) e
  · rw [Option.map_eq_some_iff] at hs
    obtain ⟨r, hr, e⟩ := hs
    exact fin hr e
section
variable {l0 : List Oper} {n0 : Nat} {o : Oper} {l : List Oper} {n : Nat} {s : St} {acc : List FtV} {Q : Nat → St → Prop}
theorem ExecV.pure (hT : TabOk P T) {x : SV} (hg : guardS l0.toArray ns s o = some true) (hp : isPure o.op = true) (hw : waits o.op = false) (hx : aop T s.mem n (opd ns s) o.op = some { res := x }) (hok : OkV l0 acc.length n0 acc ⟨n, n, [], idsRead s o.op⟩)
    (h : ExecV P r ns l0 n0 l n ⟨setSlot s.slots o.dst x, s.mem⟩ (acc ++ [⟨n, n, [], idsRead s o.op⟩]) Q) : ExecV P r ns l0 n0 (o :: l) n s acc Q :=
  ⟨⟨.pure x (idsRead s o.op), n, s, n, ⟨setSlot s.slots o.dst x, s.mem⟩, []⟩, rfl, rfl, ⟨⟨hg, fun s' D N _ hsl hme => by
    intro W0 R0 B E a w hin hs hd K1 Q' hK1
    have hst := step_local (P := P) ((step_plain (P := P) hw).2 hx) hsl hme (fun _ h => by cases h)
    obtain ⟨v, hr, hv⟩ := pure_run hT hs hp ((step_plain hw).1 hst)
    refine oper_in (noDefer_spec (aop_noDefer hx) List.mem_cons_self) ?_
    unfold Oper.wp
    rw [hr]
    exact hK1 E _ w (hs.put hd hv), rfl, rfl⟩⟩, hok, h⟩
open Classical in
theorem ExecV.new (hT : TabOk P T) {y : SV} {b : Blk} (hg : guardS l0.toArray ns s o = some true) (hw : waits o.op = false) (hx : aop T s.mem n (opd ns s) o.op = some { res := y, nw := some b }) (hok : OkV l0 acc.length n0 acc ⟨n, n + 1, [], idsRead s o.op⟩)
    (h : ExecV P r ns l0 n0 l (n + 1) ⟨setSlot s.slots o.dst y, setMem s.mem n (some b)⟩ (acc ++ [⟨n, n + 1, [], idsRead s o.op⟩]) Q) : ExecV P r ns l0 n0 (o :: l) n s acc Q :=
  ⟨⟨.act y [], n, s, n + 1, ⟨setSlot s.slots o.dst y, setMem s.mem n (some b)⟩, idsRead s o.op⟩, rfl, rfl, ⟨⟨hg, fun D s' hD hsl _ hrd => by
    intro W0 R0 B E a w hin hs hd K1 Q' hK1
    have hst := step_local (P := P) ((step_plain (P := P) hw).2 hx) hsl hrd (fun _ h => by cases h)
    have hDn : ¬ D n := fun h => hD n h ⟨Nat.le_refl _, Nat.lt_succ_self _⟩
    obtain ⟨E', w', h2, h3⟩ := aop_run hT hs hDn ((step_plain hw).1 hst)
    have hm : (fun i => if i ∈ ([] : List Nat) ∨ New n (n + 1) i then setMem s.mem n (some b) i else s'.mem i) = setMem s'.mem n (some b) := by
      funext i
      by_cases e : i = n
      · subst e; rw [if_pos (.inr ⟨Nat.le_refl _, Nat.lt_succ_self _⟩)]; simp [setMem]
      · rw [if_neg (fun h => h.elim (by simp) fun h => e (by have := h.1; have := h.2; omega))]; simp [setMem, e]
    have h4 : Sim W0 R0 ns (fun i => D i ∨ New n (n + 1) i) ⟨s'.slots, setMem s'.mem n (some b)⟩ E' a w' := h2.weak fun i hi => hi.elim (fun e => .inr (by subst e; exact ⟨Nat.le_refl _, Nat.lt_succ_self _⟩)) .inl
    refine oper_in (noDefer_spec (aop_noDefer hx) List.mem_cons_self) ?_
    unfold Oper.wp
    rcases h3 with ⟨v, hr, hv⟩ | ⟨hr, hu⟩
    · rw [hr]
      refine hK1 E' _ w' ?_
      rw [hm]
      exact h4.put hd hv
    · rw [hr]
      refine hK1 E' _ w' ?_
      rw [hm]
      have hu : y = .und := hu
      subst hu
      exact h4.put hd (Rep.und (E := E') (w := w') undef), Nat.le_succ _, rfl, fun i hi => by
    have e : ¬ i = n := fun e => hi (.inr (by subst e; exact ⟨Nat.le_refl _, Nat.lt_succ_self _⟩))
    simp [setMem, e]⟩⟩, hok, h⟩
open Classical in
theorem ExecV.store (hT : TabOk P T) {t : TypeId} {x y : Operand} {id : Nat} {b : Option Blk} (ho : o.op = .store t x y) (hg : guardS l0.toArray ns s o = some true) (hx : aop T s.mem n (opd ns s) o.op = some { res := .und, wr := some (id, b) }) (hok : OkV l0 acc.length n0 acc ⟨n, n, [id], idsRead s o.op⟩)
    (h : ExecV P r ns l0 n0 l n ⟨setSlot s.slots o.dst .und, setMem s.mem id b⟩ (acc ++ [⟨n, n, [id], idsRead s o.op⟩]) Q) : ExecV P r ns l0 n0 (o :: l) n s acc Q :=
  ⟨⟨.act .und [id], n, s, n, ⟨setSlot s.slots o.dst .und, setMem s.mem id b⟩, idsRead s o.op⟩, rfl, rfl, ⟨⟨hg, fun D s' hD hsl _ hrd => by
    intro W0 R0 B E a w hin hs hd K1 Q' hK1
    have hw : waits o.op = false := by rw [ho]; rfl
    have hst := step_local (P := P) ((step_plain (P := P) hw).2 hx) hsl hrd (fun _ h => by cases h)
    have hx' := (step_plain (P := P) hw).1 hst
    rw [ho] at hx'
    simp only [aop] at hx'
    split at hx'
    · rename_i i id' rr j v hi h1 h2
      have hr1 := hs.opd h1
      have hD1 : D id' := by
        obtain ⟨u, hu⟩ : ∃ u, a.eval x = u := ⟨_, rfl⟩
        rw [hu] at hr1
        cases hr1 with
        | ptr _ _ _ hd => exact hs.dom _ hd
      obtain ⟨E', w', q2, q3⟩ := store_run (nid := id') hT hs ho hi hr1 (hs.opd h2) hx'
      have hm : (fun i => if i ∈ [id] ∨ New n n i then setMem s.mem id b i else s'.mem i) = setMem s'.mem id b := by
        funext i
        by_cases e : i = id
        · subst e; rw [if_pos (.inl List.mem_cons_self)]; simp [setMem]
        · rw [if_neg (fun h => h.elim (fun h => e (List.mem_singleton.1 h)) fun h => by have := h.1; have := h.2; omega)]; simp [setMem, e]
      have q4 : Sim W0 R0 ns (fun i => D i ∨ New n n i) ⟨s'.slots, setMem s'.mem id b⟩ E' a w' := q2.weak fun i hi => hi.elim (fun e => .inl (e ▸ hD1)) .inl
      refine oper_in (noDefer_spec (aop_noDefer hx) List.mem_cons_self) ?_
      unfold Oper.wp
      rcases q3 with ⟨v, hr, hv⟩ | ⟨hr, hu⟩
      · rw [hr]
        refine hK1 E' _ w' ?_
        rw [hm]
        exact q4.put hd hv
      · rw [hr]
        refine hK1 E' _ w' ?_
        rw [hm]
        exact q4.put hd (Rep.und (E := E') (w := w') undef)
    · exact (by cases hx'), Nat.le_refl _, rfl, fun i hi => by
    have e : ¬ i = id := fun e => hi (.inl (by subst e; exact List.mem_cons_self))
    simp [setMem, e]⟩⟩, hok, h⟩
theorem ExecV.ro {f : FuncId} {svs : List SV} {d : Dat} {x : SV} (rds : List Nat) (hc : RCall P f svs d (only s.mem rds)) (hxd : toD3 x = some d) (hg : guardS l0.toArray ns s o = some true) (h1 : calleeS ns s o.op = some (f, svs)) (hok : OkV l0 acc.length n0 acc ⟨n, n, [], rds⟩)
    (h : ExecV P r ns l0 n0 l n ⟨setSlot s.slots o.dst x, s.mem⟩ (acc ++ [⟨n, n, [], rds⟩]) Q) : ExecV P r ns l0 n0 (o :: l) n s acc Q :=
  ⟨⟨.pure x rds, n, s, n, ⟨setSlot s.slots o.dst x, s.mem⟩, []⟩, rfl, rfl, ⟨⟨hg, fun s' D N hD hsl hme => stepD_ro hc hD (by
    rw [← h1]
    exact calleeS_congr fun x hx => opd_congr fun t ht => hsl t (mem_slotsOf (ht ▸ hx))) (fun i b hb => by
    unfold only at hb
    split at hb
    · rename_i hm
      exact (hme i hm).trans hb
    · cases hb) hxd, rfl, rfl⟩⟩, hok, h⟩
open Classical in
theorem ExecV.calln {f : FuncId} {svs : List SV} {y : SV} {mq m' : Mem} {n' : Nat} (rds : List Nat) (hc : NCall P f svs (only s.mem rds) n n' y mq) (hn : n ≤ n') (hr : ∀ i ∈ rds, (s.mem i).isSome = true ∧ mq i = s.mem i) (hm : ∀ i, (New n n' i → m' i = mq i) ∧ (¬ New n n' i → m' i = s.mem i)) (hg : guardS l0.toArray ns s o = some true) (h1 : calleeS ns s o.op = some (f, svs)) (hok : OkV l0 acc.length n0 acc ⟨n, n', [], rds⟩)
    (h : ExecV P r ns l0 n0 l n' ⟨setSlot s.slots o.dst y, m'⟩ (acc ++ [⟨n, n', [], rds⟩]) Q) : ExecV P r ns l0 n0 (o :: l) n s acc Q :=
  ⟨⟨.act y [], n, s, n', ⟨setSlot s.slots o.dst y, m'⟩, rds⟩, rfl, rfl, ⟨⟨hg, fun D s' hD hsl _ hrd => by
    have hs := stepD_call (r := r) (ns := ns) hc (D := D) (s' := s') (o := o) hD (by
      rw [← h1]
      exact calleeS_congr fun x hx => opd_congr fun t ht => hsl t (mem_slotsOf (ht ▸ hx))) (fun i b hb => by
      unfold only at hb
      split at hb
      · rename_i hm
        exact (hrd i hm).trans hb
      · cases hb)
    have e : behind s'.mem (only s.mem rds) mq n n' = fun i => if i ∈ ([] : List Nat) ∨ New n n' i then m' i else s'.mem i := by
      funext i
      unfold behind
      by_cases hw : New n n' i
      · rw [if_pos (.inr hw), if_pos (.inr hw), (hm i).1 hw]
      · rw [if_neg (show ¬ (i ∈ ([] : List Nat) ∨ New n n' i) from fun h => h.elim (by simp) hw)]
        by_cases hi : i ∈ rds
        · rw [if_pos (.inl (by simp only [only, if_pos hi]; exact (hr i hi).1)), (hr i hi).2]
          exact (hrd i hi).symm
        · rw [if_neg (fun h => h.elim (by simp [only, hi]) hw)]
    rw [e] at hs
    exact hs, hn, rfl, fun i hi => (hm i).2 fun h => hi (.inr h)⟩⟩, hok, h⟩
theorem ExecV.off (hg : guardS l0.toArray ns s o = some false) (h : ExecV P r ns l0 n0 l n ⟨setSlot s.slots o.dst (.tup []), s.mem⟩ (acc ++ [⟨n, n, [], []⟩]) Q) : ExecV P r ns l0 n0 (o :: l) n s acc Q :=
  ⟨⟨.off, n, s, n, ⟨setSlot s.slots o.dst (.tup []), s.mem⟩, []⟩, rfl, rfl, ⟨⟨hg, rfl, rfl⟩⟩, ⟨fun _ h => (by cases h), .inl rfl⟩, h⟩
end
end Go.Proofs.Ytdkneonokbakjaa.Eng

noncomputable section
namespace Go.Proofs.Ytdkneonokbakjaa.Eng
open Go.RowKit
variable {P : Program} {T : Tab} {r : Option Nat} {ns : Nat}
theorem RCall.ofA {f : FuncId} {ds : List Dat} {d : Dat} (h : ACall P f ds d) {svs : List SV} (hs : mapO toD3 svs = some ds) (m : Nat → Option Blk) : RCall P f svs d m :=
  ⟨h.callable, fun W0 R0 D N E w vs hD M h1 h2 => by
    obtain ⟨hlen, hget⟩ := mapO_get hs
    refine (h.calls E.ro w vs M.rlt (by rw [h1, hlen]) fun i d v hd hv => ?_).mono ?_
    · have hi : i < svs.length := by rw [← hlen]; exact (List.getElem?_eq_some_iff.1 hd).1
      obtain ⟨y, q1, q2⟩ := hget i _ (List.getElem?_eq_getElem hi)
      rw [hd] at q1
      cases q1
      cases (toD3_rep q2).1 (h2 i _ v (List.getElem?_eq_getElem hi) hv) with | d _ _ h => exact h
    · rintro e w' ⟨v, rfl, hb, hr⟩
      let E2 : Env := { E with ro := fun b => E.ro b ∨ (w.heap.size ≤ b ∧ b < w'.heap.size) }
      have hE : E.le E2 := ⟨fun _ h => .inl h, fun _ h => h, fun _ _ => rfl⟩
      have hw : ∀ b, E.ro b → w'.heap[b]? = w.heap[b]? := fun b hb' => hb.block b (M.rlt b hb')
      refine ⟨v, E2, rfl, ⟨M.below.trans (kept_of hb fun b hu => Nat.lt_of_lt_of_le (W0.lt b hu) M.below.size), fun b hb => .inl (M.ro0 b hb), fun b hb' => ?_, fun b hb' => ?_, M.dom, M.live, fun i b hi => (M.mem i b hi).keep hE hw (hb.block _ (M.mem i b hi).lt), M.base, fun i b hi => ?_, M.inj⟩, hE, hw, .d _ _ hr⟩
      · rcases hb' with h | h
        · exact M.ro1 b h
        · exact .inr fun hu => by have := W0.lt b hu; have := M.below.size; omega
      · rcases hb' with h | h
        · exact Nat.lt_of_lt_of_le (M.rlt b h) (kept_of (U := fun _ => False) hb fun _ h => h.elim).size
        · exact h.2
      · refine (M.frz i b hi).trans ⟨.inl, fun h => h.elim id fun h => ?_⟩
        have h5 : (E.home i).blk < w.heap.size := (M.mem i b hi).lt
        have h6 : w.heap.size ≤ (E.home i).blk := h.1
        omega⟩
def kindV (op : Op) (out : Out) (Kp : SV → Prop) (Kn : SV → Blk → Prop) (Ks : Nat → Option Blk → Prop) : Prop :=
  match isPure op, out.frz, out.wr, out.nw, out.rds with
  | true, [], none, none, [] => Kp out.res
  | false, [], none, some b, [] => Kn out.res b
  | false, [], some (id, b), none, [] => (out.res = .und ∧ ∃ t x y, op = .store t x y) ∧ Ks id b
  | _, _, _, _, _ => False
section
variable {l0 : List Oper} {n0 : Nat} {o : Oper} {l : List Oper} {n : Nat} {s : St} {acc : List FtV} {Q : Nat → St → Prop}
def ExecVW (P : Program) (r : Option Nat) (ns : Nat) (l0 : List Oper) (n0 : Nat) (l : List Oper) (n : Nat) (s : St) (acc : List FtV) (Q : Nat → St → Prop) : Prop := ExecV P r ns l0 n0 l n s acc Q
theorem ExecV.auto (hT : TabOk P T) (h : match guardS l0.toArray ns s o, waits o.op with
    | some true, false => match aop T s.mem n (opd ns s) o.op with
      | some out => kindV o.op out
          (fun x => OkV l0 acc.length n0 acc ⟨n, n, [], idsRead s o.op⟩ ∧ ExecV P r ns l0 n0 l n ⟨setSlot s.slots o.dst x, s.mem⟩ (acc ++ [⟨n, n, [], idsRead s o.op⟩]) Q)
          (fun y b => OkV l0 acc.length n0 acc ⟨n, n + 1, [], idsRead s o.op⟩ ∧ ExecV P r ns l0 n0 l (n + 1) ⟨setSlot s.slots o.dst y, setMem s.mem n (some b)⟩ (acc ++ [⟨n, n + 1, [], idsRead s o.op⟩]) Q)
          (fun id b => OkV l0 acc.length n0 acc ⟨n, n, [id], idsRead s o.op⟩ ∧ ExecV P r ns l0 n0 l n ⟨setSlot s.slots o.dst .und, setMem s.mem id b⟩ (acc ++ [⟨n, n, [id], idsRead s o.op⟩]) Q)
      | none => False
    | some false, _ => ExecV P r ns l0 n0 l n ⟨setSlot s.slots o.dst (.tup []), s.mem⟩ (acc ++ [⟨n, n, [], []⟩]) Q
    | _, _ => ExecVW P r ns l0 n0 (o :: l) n s acc Q) : ExecV P r ns l0 n0 (o :: l) n s acc Q := by
  split at h
  · rename_i hg hw
    split at h
    · rename_i out hx
      obtain ⟨res, frz, wr, nw, rds⟩ := out
      unfold kindV at h
      split at h
      · rename_i hp h1 h2 h3 h4
        simp only at h1 h2 h3 h4
        subst h1; subst h2; subst h3; subst h4
        exact ExecV.pure hT hg hp hw hx h.1 h.2
      · rename_i b hp h1 h2 h3 h4
        simp only at h1 h2 h3 h4
        subst h1; subst h2; subst h3; subst h4
        exact ExecV.new hT hg hw hx h.1 h.2
      · rename_i id b hp h1 h2 h3 h4
        simp only at h1 h2 h3 h4
        subst h1; subst h2; subst h3; subst h4
        obtain ⟨⟨hu, t, x, y, ho⟩, h5, h6⟩ := h
        have hu : res = .und := hu
        subst hu
        exact ExecV.store hT ho hg hx h5 h6
      · exact h.elim
    · exact h.elim
  · rename_i hg; exact ExecV.off hg h
  · exact h
@[simp] theorem OkV_nil {k n' : Nat} : OkV l0 k n0 acc ⟨n, n', [], []⟩ = True := by
  simp only [eq_iff_iff, iff_true]
  exact ⟨fun _ h => (by cases h), .inl rfl⟩
theorem OkV_old {k n' : Nat} {rd : List Nat} (h1 : ∀ id ∈ rd, id < n0) (hn : n0 ≤ n) (h2 : AllAcc (fun _ a => a.wr = []) 0 acc) : OkV l0 k n0 acc ⟨n, n', [], rd⟩ := by
  refine ⟨fun id hid => ?_, .inl rfl⟩
  have h3 := h1 id (by simpa using hid)
  refine ⟨Nat.lt_of_lt_of_le h3 hn, .inl ⟨h3, ?_⟩⟩
  have gen : ∀ (l : List FtV) (i : Nat), AllAcc (fun _ a => a.wr = []) i l → AllAcc (fun _ a => id ∉ a.wr) i l := by
    intro l
    induction l with
    | nil => intro i _; trivial
    | cons a l ih => intro i h; exact ⟨by have h1 : a.wr = [] := h.1; show id ∉ a.wr; rw [h1]; simp, ih _ h.2⟩
  exact gen acc 0 h2
def putN (m : Mem) (n n' : Nat) (q : Mem) : Mem := fun i => if n ≤ i ∧ i < n' then q i else m i
@[simp] theorem putN_at {m q : Mem} {n n' i : Nat} : putN m n n' q i = if n ≤ i ∧ i < n' then q i else m i := rfl
open Classical in
theorem ExecV.callP {f : FuncId} {svs : List SV} {y : SV} {mq : Mem} {n' : Nat} (rds : List Nat) (hc : NCall P f svs (only s.mem rds) n n' y mq) (hn : n ≤ n') (hr : ∀ i ∈ rds, (s.mem i).isSome = true ∧ mq i = s.mem i) (hg : guardS l0.toArray ns s o = some true) (h1 : calleeS ns s o.op = some (f, svs)) (hok : OkV l0 acc.length n0 acc ⟨n, n', [], rds⟩)
    (h : ExecV P r ns l0 n0 l n' ⟨setSlot s.slots o.dst y, putN s.mem n n' mq⟩ (acc ++ [⟨n, n', [], rds⟩]) Q) : ExecV P r ns l0 n0 (o :: l) n s acc Q :=
  ExecV.calln rds hc hn hr (fun i => ⟨fun hi => if_pos ⟨hi.1, hi.2⟩, fun hi => if_neg fun h => hi ⟨h.1, h.2⟩⟩) hg h1 hok h
end
theorem RCall.cwp {f : FuncId} {svs : List SV} {d : Dat} {m0 m : Mem} (h : RCall P f svs d m0) (hm : ∀ i b, m0 i = some b → m i = some b) {x : SV} (hx : toD3 x = some d) (n : Nat) : CWp P f svs n m fun y n' m' => y = x ∧ n' = n ∧ m' = m :=
  ⟨h.callable, fun W0 R0 E w vs M k1 k2 => by
    refine ((h.more hm).calls W0 R0 (· < n) n E w vs (fun _ h => h) M k1 k2).mono ?_
    rintro e w' ⟨v, E', rfl, M', hE, hw, hv⟩
    exact ⟨v, E', n, m, x, rfl, M', hE, hw, (toD3_rep hx).2 hv, rfl, rfl, rfl⟩⟩
theorem NCall.of {f : FuncId} {svs : List SV} {n : Nat} {m0 : Mem} {n1 : Nat} {y0 : SV} {mq : Mem} (h : CWp P f svs n m0 fun y n' m' => y0 = y ∧ n1 = n' ∧ mq = m') (hlt : ∀ i b, m0 i = some b → i < n) (hm0 : ∀ i b, m0 i = some b → OfB (fun i => (m0 i).isSome = true) b) (hargs : ∀ x ∈ svs, Of (fun i => (m0 i).isSome = true) x)
    (hq : ∀ i b, mq i = some b → ((m0 i).isSome = true ∨ New n n1 i) ∧ OfB (fun i => (m0 i).isSome = true ∨ New n n1 i) b) (hy : Of (fun i => (m0 i).isSome = true ∨ New n n1 i) y0) : NCall P f svs m0 n n1 y0 mq := ncall_ofM h hlt hm0 hargs hq hy
end Go.Proofs.Ytdkneonokbakjaa.Eng

noncomputable section
namespace Go.Proofs.Ytdkneonokbakjaa.Eng
open Go.RowKit
variable {P : Program} {T : Tab} {r : Option Nat} {ns : Nat}
section
variable {F : Fence} {n : Nat} {ops : Array Oper} {Q Qh : Exit → Act → World → Prop}
theorem wpIn_from {o : Oper} {a : Act} {w : World} {K : Act → World → Prop} (h0 : ∀ e a w, Qh e a w → e = .normal) (hh : o.wpIn F n P a w K Qh) : o.wpIn F n P a w K Q := by
  unfold Oper.wpIn at *
  refine ⟨hh.1, ?_⟩
  have hh := hh.2
  have no : ∀ c a w, ¬ Qh (.panic c) a w := fun c a w h => by cases h0 _ _ _ h
  generalize (o.semAt F.round a.eval).run P w = r at *
  cases r with
  | ok x w' =>
    cases x <;> simp only [Oper.uponIn] at hh ⊢ <;>
      first
        | exact hh
        | exact ⟨hh.1, CallsIn.mono hh.2 (fun e w'' he => by cases e <;> first | exact he | exact absurd he (no _ _ _) | (obtain ⟨_, _, hx⟩ := he; cases h0 _ _ _ hx))⟩
        | exact ⟨hh.1, RoundIn.mono hh.2 (fun e w'' he => by cases e <;> first | exact he | exact absurd he (no _ _ _) | (obtain ⟨_, _, hx⟩ := he; cases h0 _ _ _ hx))⟩
  | halt x w' => cases x <;> simp only [Oper.uponIn] at hh ⊢ <;> first | exact hh | exact absurd hh (no _ _ _)
theorem wpAnyIn_more : ∀ (f k : Nat) (L : Array Bool) (a : Act) (w : World), wpAnyIn F n P .any ops Q f L a w → wpAnyIn F n P .any ops Q (f + k) L a w
  | 0, 0, _, _, _, h => h
  | 0, k + 1, L, a, w, h => by
    rw [show 0 + (k + 1) = k + 1 by omega]
    exact ⟨fun _ => h.2, fun i hi => by rw [h.1] at hi; cases hi⟩
  | f + 1, k, L, a, w, h => by
    rw [show f + 1 + k = (f + k) + 1 by omega]
    exact ⟨h.1, fun i hi => wpOpIn_mono (fun a w h => wpAnyIn_more f k _ a w h) (h.2 i hi)⟩
theorem wpAnyIn_seq : ∀ (l : List Oper) (k : Nat) (L : Array Bool) (a : Act) (w : World), (∀ j, l[j]? = ops[k + j]?) →
    Region.seqB .any ops l.length k L = true → wpListIn F n P ops Q l a w → wpAnyIn F n P .any ops Q l.length L a w
  | [], _, _, _, _, _, hB, h => ⟨by simpa [Region.seqB] using hB, h⟩
  | o :: l, k, L, a, w, hl, hB, h => by
    have h0 : ops[k]? = some o := by simpa using (hl 0).symm
    simp only [List.length_cons, Region.seqB, Bool.and_eq_true, decide_eq_true_eq] at hB
    refine ⟨fun h1 => (by rw [hB.1] at h1; cases h1), fun i hi => ?_⟩
    rw [hB.1] at hi
    have hik : i = k := by simpa using hi
    subst hik
    have hw : wpOpIn F n P ops Q i (wpListIn F n P ops Q l) a w := by unfold wpOpIn; simp only [h0]; exact h
    exact wpOpIn_mono (fun a' w' h' => wpAnyIn_seq l (i + 1) _ a' w' (fun j => by have := hl (j + 1); simpa [Nat.add_assoc, Nat.add_comm 1 j] using this) hB.2 h') hw
end
def headB (l : List Oper) (n : Nat) : Bool := backB (l.take n).toArray && ((l.take n).all fun o => match o.guard with
  | some (g, _) => decide (g < n)
  | none => true) && decide (n < l.length)
def listedTo (len n : Nat) : Array Bool := ((List.range len).map fun i => decide (i < n)).toArray
def tailB (l : List Oper) (n : Nat) : Bool := headB l n && (Region.sinkB .any l.toArray n && (Region.chainB .any l.toArray n && Region.seqB .any l.toArray (l.length - n) n (listedTo l.length n)))
section
variable {F : Fence} {j n : Nat} {l : List Oper} {Q Qh : Exit → Act → World → Prop}
theorem take_at (l : List Oper) {n i : Nat} (h : i < n) : (l.take n).toArray[i]? = l.toArray[i]? := by simp [h]
theorem yielded_take (l : List Oper) {n g : Nat} (h : g < n) (tmps : Array Value) : yielded (l.take n).toArray tmps g = yielded l.toArray tmps g := by
  unfold yielded
  rw [take_at l h]
theorem ready_head (hB : headB l n = true) {L L' : Array Bool} (hL : ∀ i, i < n → L'.getD i true = L.getD i true) (hL2 : ∀ i, i < n → L'.getD i false = L.getD i false) {i : Nat} (hi : i < n) : i ∈ Region.ready .any l.toArray L' ↔ i ∈ Region.ready .any (l.take n).toArray L := by
  simp only [headB, Bool.and_eq_true, decide_eq_true_eq] at hB
  rw [mem_ready, mem_ready, hL i hi, take_at l hi]
  refine and_congr_right fun _ => exists_congr fun o => and_congr_right fun ho => forall_congr' fun e => forall_congr' fun he => forall_congr' fun hb => ?_
  have hlt : e.on < i := by
    have := hB.1.1
    unfold backB at this
    rw [List.all_eq_true] at this
    have h2 := this i (by rw [List.mem_range]; simp; omega)
    rw [take_at l hi, ho] at h2
    simp only [Option.map_some, Option.getD_some, Array.all_eq_true'] at h2
    have h3 := h2 e he
    rw [hb] at h3
    simpa using h3
  rw [hL2 e.on (by omega)]
theorem wpAnyIn_tail (hB : tailB l n = true) (h0 : ∀ e a w, Qh e a w → e = .normal) (hT : ∀ a w, Qh .normal a w → wpListIn F j P l.toArray Q (l.drop n) a w) :
    ∀ (f : Nat) (L L' : Array Bool) (a : Act) (w : World), L.size = n → HeadInv .any l.toArray n L' → (∀ i, i < n → L'.getD i true = L.getD i true) → (∀ i, i < n → L'.getD i false = L.getD i false) →
      wpAnyIn F j P .any (l.take n).toArray Qh f L a w → wpAnyIn F j P .any l.toArray Q (f + (l.length - n)) L' a w := by
  have hB' := hB
  simp only [tailB, Bool.and_eq_true] at hB'
  obtain ⟨hh, hs, hc, hq⟩ := hB'
  have hh' := hh
  simp only [headB, Bool.and_eq_true, decide_eq_true_eq] at hh'
  obtain ⟨⟨hback, hgd⟩, hn⟩ := hh'
  have hsz : (l.take n).toArray.size = n := by simp; omega
  have done : ∀ (L L' : Array Bool) (a : Act) (w : World), L.size = n → HeadInv .any l.toArray n L' → (∀ i, i < n → L'.getD i true = L.getD i true) → Region.ready .any (l.take n).toArray L = [] → Qh .normal a w → wpAnyIn F j P .any l.toArray Q (l.length - n) L' a w := by
    intro L L' a w hLs inv hL hr hQ
    have hall := all_listed (ops := (l.take n).toArray) (listed := L) (by rw [hLs, hsz]) hback hr
    have hL' : L' = listedTo l.length n := by
      apply Array.ext
      · rw [inv.size]; simp [listedTo]
      · intro i h1 h2
        have hsz' : i < l.length := by have := inv.size; simp at this; omega
        have e1 : L'.getD i true = L'[i] := by simp [Array.getD, h1]
        rw [← e1]
        by_cases hi : i < n
        · rw [hL i hi, hall i (by rw [hsz]; exact hi)]
          simp [listedTo, hi]
        · rw [inv.tail i (by omega) (by simpa using hsz')]
          simp [listedTo, hi]
    have hd : (l.drop n).length = l.length - n := by simp
    have := wpAnyIn_seq (F := F) (n := j) (P := P) (ops := l.toArray) (Q := Q) (l.drop n) n L' a w (fun i => by simp [List.getElem?_drop]) (by rw [hd, hL']; exact hq) (hT a w hQ)
    rwa [hd] at this
  intro f
  induction f with
  | zero =>
    intro L L' a w hLs inv hL hL2 h
    rw [Nat.zero_add]
    exact done L L' a w hLs inv hL h.1 h.2
  | succ f ih =>
    intro L L' a w hLs inv hL hL2 h
    by_cases hr : Region.ready .any (l.take n).toArray L = []
    · have := wpAnyIn_more _ (f + 1) _ _ _ (done L L' a w hLs inv hL hr (h.1 hr))
      rwa [Nat.add_comm] at this
    rw [show f + 1 + (l.length - n) = (f + (l.length - n)) + 1 by omega]
    obtain ⟨i0, hi0⟩ := List.exists_mem_of_ne_nil _ hr
    have hi0n : i0 < n := by
      obtain ⟨_, o, ho, _⟩ := mem_ready.1 hi0
      have := (Array.getElem?_eq_some_iff.1 ho).1
      rw [hsz] at this
      exact this
    have hun : L'.getD i0 true = false := by rw [hL i0 hi0n]; exact (mem_ready.1 hi0).1
    refine ⟨fun h1 => ?_, fun i hi => ?_⟩
    · have := (ready_head hh hL hL2 hi0n).2 hi0
      rw [h1] at this
      cases this
    · have hin : i < n := by
        rcases Nat.lt_or_ge i n with h2 | h2
        · exact h2
        · exact absurd hi (tail_waits hs hc (by simpa using hn) inv _ i0 rfl hi0n hun i h2)
      have hi2 := (ready_head hh hL hL2 hin).1 hi
      have hw := h.2 i hi2
      unfold wpOpIn at hw ⊢
      rw [take_at l hin] at hw
      have hset : ∀ k b, k < n → (L'.setIfInBounds i true).getD k b = (L.setIfInBounds i true).getD k b := fun k b hk => by
        by_cases hki : k = i
        · subst hki
          have h3 : k < L'.size := by rw [inv.size]; simp; omega
          simp [h3, hLs, hk]
        · rw [getD_set_ne b (Ne.symm hki), getD_set_ne b (Ne.symm hki)]
          cases b
          · exact hL2 k hk
          · exact hL k hk
      have hK : ∀ a w, wpAnyIn F j P .any (l.take n).toArray Qh f (L.setIfInBounds i true) a w → wpAnyIn F j P .any l.toArray Q (f + (l.length - n)) (L'.setIfInBounds i true) a w :=
        fun a w h => ih _ _ a w (by simp [hLs]) (inv.set hi hin) (fun k hk => hset k true hk) (fun k hk => hset k false hk) h
      split
      · rename_i ho
        rw [ho] at hw
        exact hK _ _ hw
      · rename_i o ho
        simp only [ho] at hw
        have hwant : Region.wanted o (yielded (l.take n).toArray a.tmps) = Region.wanted o (yielded l.toArray a.tmps) := by
          unfold Region.wanted
          have hmem : o ∈ l.take n := by
            have := take_at l hin
            rw [ho] at this
            exact List.mem_of_getElem? (by simpa using this)
          have hgo := List.all_eq_true.1 hgd o hmem
          cases hg : o.guard with
          | none => rfl
          | some q =>
            obtain ⟨g, b⟩ := q
            rw [hg] at hgo
            simp only [decide_eq_true_eq] at hgo
            simp only [yielded_take l hgo]
        rw [hwant] at hw
        split
        · rename_i hc
          rw [if_pos hc] at hw
          exact wpIn_from h0 (Oper.wpIn_mono hK hw)
        · rename_i hc
          rw [if_neg hc] at hw
          exact ⟨hw.1, hK _ _ hw.2⟩
end
theorem drawsT_core (hm : P.follows .mixedOrders = true) {id : Nat} {l : List Oper} {n : Nat} (hBk : backB (l.take n).toArray = true) (hB : tailB l n = true) {st : Nat → St} {N : Nat → Nat} {kd : Nat → Kd3} (hD : Draw3 P r ns (l.take n) st N kd) {Q : Post}
    {W0 : Fix} {R0 : Nat → Prop} {B : Nat} {E : Env} {a : Act} {w : World} (hi : InAct r W0 R0 B) (hs : Sim W0 R0 ns (· < N 0) (st 0) E a w)
    (hT : ∀ E' a' w', Sim W0 R0 ns (· < N (l.take n).length) (st (l.take n).length) E' a' w' → wpListIn (fen (rOf W0 r)) 0 P l.toArray (fun e a' w' => ∃ n' s' E' W1, Ext W0 W1 ∧ InAct r W1 R0 B ∧ Sim W1 R0 ns (· < n') s' E' a' w' ∧ Q e n' s') (l.drop n) a' w') :
    (Code.region id l.toArray true).wpIn (fen (rOf W0 r)) 0 P (fun e a' w' => ∃ n' s' E' W1, Ext W0 W1 ∧ InAct r W1 R0 B ∧ Sim W1 R0 ns (· < n') s' E' a' w' ∧ Q e n' s') a w := by
  have h1 := draw_any3 hBk hD hi (E := E) (a := a) hs.drew (Q := fun e a' w' => e = .normal ∧ ∃ E', Sim W0 R0 ns (· < N (l.take n).length) (st (l.take n).length) E' a' w') (fun E' a' w' h => ⟨rfl, E', h⟩)
  refine wpIn_region_any hm ?_
  have hn : n < l.length := by
    simp only [tailB, headB, Bool.and_eq_true, decide_eq_true_eq] at hB
    exact hB.1.2
  have hsz : (l.take n).toArray.size = n := by simp; omega
  rw [hsz] at h1
  have h2 := wpAnyIn_tail (j := 0) (Q := fun e a' w' => ∃ n' s' E' W', Ext W0 W' ∧ InAct r W' R0 B ∧ Sim W' R0 ns (· < n') s' E' a' w' ∧ Q e n' s') hB (fun e a w h => h.1) (fun a' w' ⟨_, E', h⟩ => hT E' a' w' h) n (Array.replicate n false) (Array.replicate l.length false) a _ (by simp)
    ⟨by simp, fun j oj _ hl => (by rw [getD_replicate_false] at hl; cases hl), fun t _ ht => getD_in (by simpa using ht) (getD_replicate_false _ _)⟩ (fun i hi => by simp [hi, show i < l.length by omega]) (fun i hi => by simp [hi, show i < l.length by omega]) h1
  rw [show n + (l.length - n) = l.length by omega] at h2
  simpa using h2
theorem AWi.drawsT (hT : TabOk P T) (hm : P.follows .mixedOrders = true) {id : Nat} {l : List Oper} (n : Nat) (hst : stOk (l.take n).toArray = true) (hB : tailB l n = true) {n0 : Nat} {s : St} {Q : Post}
    (h : ExecV P r ns (l.take n) n0 (l.take n) n0 s [] (fun n' s' => ExecI P r T l.toArray ns n' (l.drop n) s' (fun n'' s'' => Q .normal n'' s''))) : AWi P r ns (.region id l.toArray true) n0 s Q := fun W0 R0 B E a w hi hs => by
  obtain ⟨es, nF, sF, k1, k2, k3⟩ := execV_chain (l.take n) n0 s [] (fun _ h => by cases h) (Nat.le_refl _) h
  have hD := draw3_V k1 hst fun i k ei ek hik hi hk => k3 i k ei ek hik (Nat.zero_le _) hi hk
  have hBk : backB (l.take n).toArray = true := by unfold stOk at hst; rw [Bool.and_eq_true] at hst; exact hst.1
  have e0 := chainV_zero k1
  have eF := chainV_end k1
  exact drawsT_core hm hBk hB hD hi (by rw [e0.1, e0.2]; exact hs) fun E' a' w' h => execI_list hT hi (l.drop n) _ k2 (by rw [eF.1, eF.2] at h; exact h) fun n' s' E' _ _ h1 h2 => ⟨n', s', E', W0, Ext.refl _, hi, h1, h2⟩
end Go.Proofs.Ytdkneonokbakjaa.Eng

noncomputable section
namespace Go.Proofs.Ytdkneonokbakjaa.Eng
open Go.RowKit
variable {P : Program} {T : Tab} {r : Option Nat} {ns : Nat}
def shiftO (k : Nat) (o : Oper) : Oper := { o with after := o.after.filterMap fun e => if e.on < k then none else some { e with on := e.on - k } }
def restO (l : List Oper) (n : Nat) : List Oper := (l.drop (n + 1)).map (shiftO (n + 1))
def midB (l : List Oper) (n : Nat) : Bool := headB l n && (Region.sinkB .any (l.take (n + 1)).toArray n && (((List.range l.length).all fun t => decide (t ≤ n) || (List.range t).any fun u => decide (n ≤ u) && Region.waitsFor .any l.toArray t u) &&
  ((l.drop (n + 1)).all (fun o => o.guard.isNone) && decide (Region.ready .any l.toArray (listedTo l.length n) = [n]))))
section
variable {F : Fence} {j n : Nat} {l : List Oper} {Q Qh : Exit → Act → World → Prop}
theorem mid_waits (hh : headB l n = true) (hs : Region.sinkB .any (l.take (n + 1)).toArray n = true) (hr : ((List.range l.length).all fun t => decide (t ≤ n) || (List.range t).any fun u => decide (n ≤ u) && Region.waitsFor .any l.toArray t u) = true) {L : Array Bool} (inv : HeadInv .any l.toArray n L) {i : Nat} (hi : i < n) (hun : L.getD i true = false) : ∀ t, n ≤ t → t ∉ Region.ready .any l.toArray L := by
  intro t ht hrd
  simp only [headB, Bool.and_eq_true, decide_eq_true_eq] at hh
  obtain ⟨_, ot, hot, hall⟩ := mem_ready.1 hrd
  have htl : t < l.length := by have := (Array.getElem?_eq_some_iff.1 hot).1; simpa using this
  by_cases htn : t = n
  · subst htn
    have hsz : (l.take (t + 1)).toArray.size = t + 1 := by simp; omega
    have inv' : HeadInv .any (l.take (t + 1)).toArray t (L.extract 0 (t + 1)) := by
      have hg : ∀ k b, k < t + 1 → (L.extract 0 (t + 1)).getD k b = L.getD k b := fun k b hk => by
        have := inv.size
        have h2 : k < L.size := by rw [this]; simp; omega
        simp [Array.getD, h2, hk, show k < min (t + 1) L.size by omega]
      refine ⟨by rw [hsz]; have := inv.size; simp at this ⊢; omega, fun k ok hk hl e he hb => ?_, fun u hu1 hu2 => ?_⟩
      · have hk2 : k < t + 1 := by have := (Array.getElem?_eq_some_iff.1 hk).1; rw [hsz] at this; exact this
        rw [take_at l hk2] at hk
        rw [hg k _ hk2] at hl
        have h3 := inv.closed k ok hk hl e he hb
        have h4 : e.on < t + 1 := by
          rcases Nat.lt_or_ge e.on (t + 1) with h | h
          · exact h
          · rcases Nat.lt_or_ge e.on l.length with h5 | h5
            · have := inv.tail e.on (by omega) (by simpa using h5)
              rw [getD_both this] at h3; cases h3
            · have h6 : ¬ e.on < L.size := by rw [inv.size]; simp; omega
              have : L.getD e.on false = false := by simp [Array.getD, h6]
              rw [this] at h3; cases h3
        rw [hg _ _ h4]
        exact h3
      · rw [hsz] at hu2
        rw [hg u _ hu2]
        exact inv.tail u hu1 (by simp; omega)
    refine tail_waits hs (by unfold Region.chainB; rw [List.all_eq_true]; intro x hx; rw [List.mem_range, hsz] at hx; simp; omega) (by rw [hsz]; omega) inv' _ i rfl hi ?_ t (Nat.le_refl _) ?_
    · have h2 : i < L.size := by rw [inv.size]; simp; omega
      have : (L.extract 0 (t + 1)).getD i true = L.getD i true := by simp [Array.getD, h2, show i < min (t + 1) L.size by omega]
      rw [this]; exact hun
    · rw [mem_ready]
      have hg : ∀ k b, k < t + 1 → (L.extract 0 (t + 1)).getD k b = L.getD k b := fun k b hk => by
        have := inv.size
        have h2 : k < L.size := by rw [this]; simp; omega
        simp [Array.getD, h2, hk, show k < min (t + 1) L.size by omega]
      refine ⟨by rw [hg _ _ (by omega)]; exact (mem_ready.1 hrd).1, ot, by rw [take_at l (by omega)]; exact hot, fun e he hb => ?_⟩
      have h3 := hall e he hb
      have h4 : e.on < t + 1 := by
        rcases Nat.lt_or_ge e.on (t + 1) with h | h
        · exact h
        · rcases Nat.lt_or_ge e.on l.length with h5 | h5
          · have := inv.tail e.on (by omega) (by simpa using h5)
            rw [getD_both this] at h3; cases h3
          · have h6 : ¬ e.on < L.size := by rw [inv.size]; simp; omega
            have : L.getD e.on false = false := by simp [Array.getD, h6]
            rw [this] at h3; cases h3
      rw [hg _ _ h4]
      exact h3
  · have h1 := List.all_eq_true.1 hr t (List.mem_range.2 htl)
    rw [Bool.or_eq_true, decide_eq_true_eq] at h1
    obtain ⟨u, hu, h2⟩ := List.any_eq_true.1 (h1.resolve_left (by omega))
    rw [Bool.and_eq_true, decide_eq_true_eq] at h2
    obtain ⟨oj, ho, e, he, hb, rfl⟩ := Region.waitsFor_spec h2.2
    rw [hot] at ho
    cases ho
    have h3 := hall e he hb
    have h4 : e.on < l.length := by have := List.mem_range.1 hu; omega
    rw [getD_both (inv.tail e.on h2.1 (by simpa using h4))] at h3
    cases h3
theorem wpAnyIn_mid (hB : midB l n = true) (h0 : ∀ e a w, Qh e a w → e = .normal) (hT : ∀ a w, Qh .normal a w → wpAnyIn F j P .any l.toArray Q (l.length - n) (listedTo l.length n) a w) :
    ∀ (f : Nat) (L L' : Array Bool) (a : Act) (w : World), L.size = n → HeadInv .any l.toArray n L' → (∀ i, i < n → L'.getD i true = L.getD i true) → (∀ i, i < n → L'.getD i false = L.getD i false) →
      wpAnyIn F j P .any (l.take n).toArray Qh f L a w → wpAnyIn F j P .any l.toArray Q (f + (l.length - n)) L' a w := by
  simp only [midB, Bool.and_eq_true] at hB
  obtain ⟨hh, hs, hc, _, _⟩ := hB
  have hh' := hh
  simp only [headB, Bool.and_eq_true, decide_eq_true_eq] at hh'
  obtain ⟨⟨hback, hgd⟩, hn⟩ := hh'
  have hsz : (l.take n).toArray.size = n := by simp; omega
  have done : ∀ (L L' : Array Bool) (a : Act) (w : World), L.size = n → HeadInv .any l.toArray n L' → (∀ i, i < n → L'.getD i true = L.getD i true) → Region.ready .any (l.take n).toArray L = [] → Qh .normal a w → wpAnyIn F j P .any l.toArray Q (l.length - n) L' a w := by
    intro L L' a w hLs inv hL hr hQ
    have hall := all_listed (ops := (l.take n).toArray) (listed := L) (by rw [hLs, hsz]) hback hr
    have hL' : L' = listedTo l.length n := by
      apply Array.ext
      · rw [inv.size]; simp [listedTo]
      · intro i h1 h2
        have hsz' : i < l.length := by have := inv.size; simp at this; omega
        have e1 : L'.getD i true = L'[i] := by simp [Array.getD, h1]
        rw [← e1]
        by_cases hi : i < n
        · rw [hL i hi, hall i (by rw [hsz]; exact hi)]
          simp [listedTo, hi]
        · rw [inv.tail i (by omega) (by simpa using hsz')]
          simp [listedTo, hi]
    rw [hL']
    exact hT a w hQ
  intro f
  induction f with
  | zero =>
    intro L L' a w hLs inv hL hL2 h
    rw [Nat.zero_add]
    exact done L L' a w hLs inv hL h.1 h.2
  | succ f ih =>
    intro L L' a w hLs inv hL hL2 h
    by_cases hr : Region.ready .any (l.take n).toArray L = []
    · have := wpAnyIn_more _ (f + 1) _ _ _ (done L L' a w hLs inv hL hr (h.1 hr))
      rwa [Nat.add_comm] at this
    rw [show f + 1 + (l.length - n) = (f + (l.length - n)) + 1 by omega]
    obtain ⟨i0, hi0⟩ := List.exists_mem_of_ne_nil _ hr
    have hi0n : i0 < n := by
      obtain ⟨_, o, ho, _⟩ := mem_ready.1 hi0
      have := (Array.getElem?_eq_some_iff.1 ho).1
      rw [hsz] at this
      exact this
    have hun : L'.getD i0 true = false := by rw [hL i0 hi0n]; exact (mem_ready.1 hi0).1
    refine ⟨fun h1 => ?_, fun i hi => ?_⟩
    · have := (ready_head hh hL hL2 hi0n).2 hi0
      rw [h1] at this
      cases this
    · have hin : i < n := by
        rcases Nat.lt_or_ge i n with h2 | h2
        · exact h2
        · exact absurd hi (mid_waits hh hs hc inv hi0n hun i h2)
      have hi2 := (ready_head hh hL hL2 hin).1 hi
      have hw := h.2 i hi2
      unfold wpOpIn at hw ⊢
      rw [take_at l hin] at hw
      have hset : ∀ k b, k < n → (L'.setIfInBounds i true).getD k b = (L.setIfInBounds i true).getD k b := fun k b hk => by
        by_cases hki : k = i
        · subst hki
          have h3 : k < L'.size := by rw [inv.size]; simp; omega
          simp [h3, hLs, hk]
        · rw [getD_set_ne b (Ne.symm hki), getD_set_ne b (Ne.symm hki)]
          cases b
          · exact hL2 k hk
          · exact hL k hk
      have hK : ∀ a w, wpAnyIn F j P .any (l.take n).toArray Qh f (L.setIfInBounds i true) a w → wpAnyIn F j P .any l.toArray Q (f + (l.length - n)) (L'.setIfInBounds i true) a w :=
        fun a w h => ih _ _ a w (by simp [hLs]) (inv.set hi hin) (fun k hk => hset k true hk) (fun k hk => hset k false hk) h
      split
      · rename_i ho
        rw [ho] at hw
        exact hK _ _ hw
      · rename_i o ho
        simp only [ho] at hw
        have hwant : Region.wanted o (yielded (l.take n).toArray a.tmps) = Region.wanted o (yielded l.toArray a.tmps) := by
          unfold Region.wanted
          have hmem : o ∈ l.take n := by
            have := take_at l hin
            rw [ho] at this
            exact List.mem_of_getElem? (by simpa using this)
          have hgo := List.all_eq_true.1 hgd o hmem
          cases hg : o.guard with
          | none => rfl
          | some q =>
            obtain ⟨g, b⟩ := q
            rw [hg] at hgo
            simp only [decide_eq_true_eq] at hgo
            simp only [yielded_take l hgo]
        rw [hwant] at hw
        split
        · rename_i hc
          rw [if_pos hc] at hw
          exact wpIn_from h0 (Oper.wpIn_mono hK hw)
        · rename_i hc
          rw [if_neg hc] at hw
          exact ⟨hw.1, hK _ _ hw.2⟩
theorem restO_at (l : List Oper) (n i : Nat) : (restO l n)[i]? = (l[n + 1 + i]?).map (shiftO (n + 1)) := by simp [restO, List.getElem?_drop]
theorem wpAnyIn_rest (hg : (l.drop (n + 1)).all (fun o => o.guard.isNone) = true) :
    ∀ (f : Nat) (L L' : Array Bool) (a : Act) (w : World), (∀ i, i < n + 1 → L'.getD i true = true) → (∀ i b, n + 1 + i < l.length → L'.getD (n + 1 + i) b = L.getD i b) → L'.size = l.length → L.size = (restO l n).length →
      wpAnyIn F j P .any (restO l n).toArray Q f L a w → wpAnyIn F j P .any l.toArray Q f L' a w := by
  have rdy : ∀ (L L' : Array Bool), (∀ i, i < n + 1 → L'.getD i true = true) → (∀ i b, n + 1 + i < l.length → L'.getD (n + 1 + i) b = L.getD i b) → L'.size = l.length → L.size = (restO l n).length → ∀ i, i ∈ Region.ready .any l.toArray L' ↔ ∃ i', i = n + 1 + i' ∧ i' ∈ Region.ready .any (restO l n).toArray L := by
    intro L L' h1 h2 h3 h4 i
    have hlow : ∀ k, k < n + 1 → k < l.length → L'.getD k false = true := fun k hk hkl => by
      have := h1 k hk
      have h5 : k < L'.size := by omega
      simp [Array.getD, h5] at this ⊢
      exact this
    constructor
    · intro hi
      obtain ⟨hun, o, ho, hall⟩ := mem_ready.1 hi
      have hil : i < l.length := by have := (Array.getElem?_eq_some_iff.1 ho).1; simpa using this
      have hin : n + 1 ≤ i := by
        rcases Nat.lt_or_ge i (n + 1) with h | h
        · rw [h1 i h] at hun; cases hun
        · exact h
      obtain ⟨i', rfl⟩ : ∃ i', i = n + 1 + i' := ⟨i - (n + 1), by omega⟩
      refine ⟨i', rfl, mem_ready.2 ⟨by rw [← h2 i' true hil]; exact hun, shiftO (n + 1) o, ?_, fun e he hb => ?_⟩⟩
      · have : l[n + 1 + i']? = some o := by simpa using ho
        simp [restO_at, this]
      · simp only [shiftO, Array.mem_filterMap] at he
        obtain ⟨e0, he0, h5⟩ := he
        split at h5
        · cases h5
        · rename_i hlt
          cases h5
          have h6 := hall e0 he0 hb
          have h7 : e0.on < l.length := by
            rcases Nat.lt_or_ge e0.on L'.size with h | h
            · omega
            · simp [Array.getD, show ¬ e0.on < L'.size by omega] at h6
          rw [show e0.on = n + 1 + (e0.on - (n + 1)) by omega, h2 _ _ (by omega)] at h6
          exact h6
    · rintro ⟨i', rfl, hi⟩
      obtain ⟨hun, o', ho', hall⟩ := mem_ready.1 hi
      have ho2 : (restO l n)[i']? = some o' := by simpa using ho'
      rw [restO_at, Option.map_eq_some_iff] at ho2
      obtain ⟨o, ho, rfl⟩ := ho2
      have hil := (List.getElem?_eq_some_iff.1 ho).1
      refine mem_ready.2 ⟨by rw [h2 i' true hil]; exact hun, o, by simpa using ho, fun e he hb => ?_⟩
      by_cases hlt : e.on < n + 1
      · exact hlow _ hlt (by omega)
      · have h6 := hall { e with on := e.on - (n + 1) } (by
          simp only [shiftO, Array.mem_filterMap]
          exact ⟨e, he, by simp [hlt]⟩) hb
        have h7 : n + 1 + (e.on - (n + 1)) < l.length := by
          rcases Nat.lt_or_ge (e.on - (n + 1)) L.size with h | h
          · have : (restO l n).length = l.length - (n + 1) := by simp [restO]
            omega
          · simp [Array.getD, show ¬ e.on - (n + 1) < L.size by omega] at h6
        rw [show e.on = n + 1 + (e.on - (n + 1)) by omega, h2 _ _ h7]
        exact h6
  intro f
  induction f with
  | zero =>
    intro L L' a w h1 h2 h3 h4 h
    refine ⟨?_, h.2⟩
    refine List.eq_nil_iff_forall_not_mem.2 fun i hi => ?_
    obtain ⟨i', _, hi'⟩ := (rdy L L' h1 h2 h3 h4 i).1 hi
    rw [h.1] at hi'
    cases hi'
  | succ f ih =>
    intro L L' a w h1 h2 h3 h4 h
    refine ⟨fun he => h.1 (List.eq_nil_iff_forall_not_mem.2 fun i' hi' => ?_), fun i hi => ?_⟩
    · have := (rdy L L' h1 h2 h3 h4 (n + 1 + i')).2 ⟨i', rfl, hi'⟩
      rw [he] at this
      cases this
    · obtain ⟨i', rfl, hi'⟩ := (rdy L L' h1 h2 h3 h4 i).1 hi
      have hw := h.2 i' hi'
      obtain ⟨_, o', ho', _⟩ := mem_ready.1 hi'
      have ho2 : (restO l n)[i']? = some o' := by simpa using ho'
      rw [restO_at, Option.map_eq_some_iff] at ho2
      obtain ⟨o, ho, rfl⟩ := ho2
      have hil := (List.getElem?_eq_some_iff.1 ho).1
      have hK : ∀ a w, wpAnyIn F j P .any (restO l n).toArray Q f (L.setIfInBounds i' true) a w → wpAnyIn F j P .any l.toArray Q f (L'.setIfInBounds (n + 1 + i') true) a w := fun a w hh => by
        refine ih _ _ a w (fun k hk => ?_) (fun k b hk => ?_) (by simp [h3]) (by simp [h4]) hh
        · rw [getD_set_ne _ (by omega)]; exact h1 k hk
        · by_cases hki : k = i'
          · subst hki
            have : (restO l n).length = l.length - (n + 1) := by simp [restO]
            have g1 : n + 1 + k < L'.size := by omega
            have g2 : k < L.size := by omega
            simp [g1, g2]
          · rw [getD_set_ne _ (by omega), getD_set_ne _ (Ne.symm hki)]; exact h2 k b hk
      have hgo : o.guard = none := by
        have := List.all_eq_true.1 hg o (List.mem_of_getElem? (i := i') (by rw [List.getElem?_drop]; exact ho))
        simpa using this
      unfold wpOpIn at hw ⊢
      have e1 : (restO l n).toArray[i']? = some (shiftO (n + 1) o) := ho'
      have e2 : l.toArray[n + 1 + i']? = some o := by simpa using ho
      rw [e1] at hw
      rw [e2]
      simp only at hw ⊢
      have w1 : ∀ f, Region.wanted (shiftO (n + 1) o) f = true := fun f => by unfold Region.wanted shiftO; simp only [hgo]
      have w2 : ∀ f, Region.wanted o f = true := fun f => by unfold Region.wanted; simp only [hgo]
      rw [if_pos (w1 _)] at hw
      rw [if_pos (w2 _)]
      exact Oper.wpIn_mono hK hw
end
theorem AWi.drawsM (hm : P.follows .mixedOrders = true) {id : Nat} {l : List Oper} (n : Nat) (hst : stOk (l.take n).toArray = true) (hst2 : stOk (restO l n).toArray = true) (hB : midB l n = true) {n0 : Nat} {s : St} {Q : Post}
    (h : ExecV P r ns (l.take n) n0 (l.take n) n0 s [] (fun n' s' => ∃ o, l[n]? = some o ∧ o.guard = none ∧ (∀ t, o.dst = some t → t < ns) ∧ ∃ G, StepI P r ns n' s' o G ∧ ∀ n2 s2, G n2 s2 → ExecV P r ns (restO l n) n2 (restO l n) n2 s2 [] (fun n3 s3 => Q .normal n3 s3))) :
    AWi P r ns (.region id l.toArray true) n0 s Q := fun W0 R0 B E a w hi hs => by
  obtain ⟨es, nF, sF, k1, ⟨o, ho, hog, hod, G, hG, hrest⟩, k3⟩ := execV_chain (l.take n) n0 s [] (fun _ h => by cases h) (Nat.le_refl _) h
  have hD := draw3_V k1 hst fun i k ei ek hik hi hk => k3 i k ei ek hik (Nat.zero_le _) hi hk
  have hBk : backB (l.take n).toArray = true := by unfold stOk at hst; rw [Bool.and_eq_true] at hst; exact hst.1
  have hBk2 : backB (restO l n).toArray = true := by unfold stOk at hst2; rw [Bool.and_eq_true] at hst2; exact hst2.1
  have e0 := chainV_zero k1
  have eF := chainV_end k1
  have h1 := draw_any3 hBk hD hi (E := E) (a := a) (by rw [e0.1, e0.2]; exact hs.drew) (Q := fun e a' w' => e = .normal ∧ ∃ E', Sim W0 R0 ns (· < nF) sF E' a' w') (fun E' a' w' h => ⟨rfl, E', by rw [eF.1, eF.2] at h; exact h⟩)
  refine wpIn_region_any hm ?_
  have hB' := hB
  simp only [midB, headB, Bool.and_eq_true, decide_eq_true_eq] at hB'
  obtain ⟨⟨_, hn⟩, _, _, hgr, hready⟩ := hB'
  have hsz : (l.take n).toArray.size = n := by simp; omega
  have hrl : (restO l n).length = l.length - (n + 1) := by simp [restO]
  rw [hsz] at h1
  have hmid : ∀ (a' : Act) (w' : World) (E' : Env), Sim W0 R0 ns (· < nF) sF E' a' w' → wpAnyIn (fen (rOf W0 r)) 0 P .any l.toArray (fun e a' w' => ∃ n' s' E' W', Ext W0 W' ∧ InAct r W' R0 B ∧ Sim W' R0 ns (· < n') s' E' a' w' ∧ Q e n' s') (l.length - n) (listedTo l.length n) a' w' := fun a' w' E' hsm => by
    rw [show l.length - n = (l.length - (n + 1)) + 1 by omega]
    refine ⟨fun h => (by rw [hready] at h; cases h), fun i hi2 => ?_⟩
    rw [hready] at hi2
    obtain rfl : i = n := by simpa using hi2
    have e2 : l.toArray[i]? = some o := by simpa using ho
    unfold wpOpIn
    rw [e2]
    simp only
    rw [if_pos (by unfold Region.wanted; simp only [hog])]
    refine hG W0 R0 B E' a' w' hi hsm hod _ _ fun n2 s2 E2 a2 w2 hg2 hs2 => ?_
    obtain ⟨es2, nF2, sF2, p1, p2, p3⟩ := execV_chain (restO l i) n2 s2 [] (fun _ h => by cases h) (Nat.le_refl _) (hrest n2 s2 hg2)
    have hD2 := draw3_V p1 hst2 fun i k ei ek hik hi hk => p3 i k ei ek hik (Nat.zero_le _) hi hk
    have q0 := chainV_zero p1
    have qF := chainV_end p1
    have h3 := draw_any3 hBk2 hD2 hi (E := E2) (a := a2) (w := w2) (by rw [q0.1, q0.2]; exact hs2) (Q := fun e a' w' => ∃ n' s' E' W', Ext W0 W' ∧ InAct r W' R0 B ∧ Sim W' R0 ns (· < n') s' E' a' w' ∧ Q e n' s') (fun E3 a3 w3 h => ⟨nF2, sF2, E3, W0, Ext.refl _, hi, by rw [qF.1, qF.2] at h; exact h, p2⟩)
    have hsz2 : (restO l i).toArray.size = l.length - (i + 1) := by simpa using hrl
    rw [hsz2] at h3
    refine wpAnyIn_rest hgr _ (Array.replicate (l.length - (i + 1)) false) _ _ _ (fun k hk => ?_) (fun k b hk => ?_) (by simp [listedTo]) (by simp [hrl]) h3
    · by_cases hki : k = i
      · subst hki
        have : k < (listedTo l.length k).size := by simp [listedTo]; omega
        simp [this]
      · rw [getD_set_ne _ (Ne.symm hki)]
        simp [listedTo, show k < i by omega, show k < l.length by omega]
    · rw [getD_set_ne _ (by omega)]
      simp [listedTo, show ¬ i + 1 + k < i by omega, show i + 1 + k < l.length by omega, show k < l.length - (i + 1) by omega]
  have h2 := wpAnyIn_mid (j := 0) (Q := fun e a' w' => ∃ n' s' E' W', Ext W0 W' ∧ InAct r W' R0 B ∧ Sim W' R0 ns (· < n') s' E' a' w' ∧ Q e n' s') hB (fun e a w h => h.1) (fun a' w' ⟨_, E', h⟩ => hmid a' w' E' h) n (Array.replicate n false) (Array.replicate l.length false) a _ (by simp)
    ⟨by simp, fun j oj _ hl => (by rw [getD_replicate_false] at hl; cases hl), fun t _ ht => getD_in (by simpa using ht) (getD_replicate_false _ _)⟩ (fun i hi => by simp [hi, show i < l.length by omega]) (fun i hi => by simp [hi, show i < l.length by omega]) h1
  rw [show n + (l.length - n) = l.length by omega] at h2
  simpa using h2
end Go.Proofs.Ytdkneonokbakjaa.Eng

noncomputable section
namespace Go.Proofs.Ytdkneonokbakjaa.Eng
open Go.RowKit
variable {P : Program}
theorem ACall.ofR {f : FuncId} {ds : List Dat} {d : Dat} (h : RCall P f (ds.map .d) d (fun _ => none)) : ACall P f ds d :=
  ⟨h.callable, fun ro w vs hro hs hr => by
    let E : Env := ⟨ro, fun _ => False, fun _ => ⟨0, 0, 0⟩⟩
    have M : MS (fixOf w) ro (fun _ => False) (fun _ => none) E w := ⟨Kept.refl _ _, fun _ h => h, fun _ h => .inl h, hro, fun _ h => h, fun i b hi => by (cases hi), fun i b hi => by (cases hi), fun i b hi => by (cases hi), fun i b hi => by (cases hi), fun i j b c hi => by (cases hi)⟩
    refine (h.calls (fixOf w) ro (fun _ => False) 0 E w vs (fun _ h => h.elim) M (by simp [hs]) fun i x v hx hv => ?_).mono ?_
    · rw [List.getElem?_map, Option.map_eq_some_iff] at hx
      obtain ⟨d, hd, rfl⟩ := hx
      exact .d _ _ (hr i d v hd hv)
    · rintro e w' ⟨v, E', rfl, M', hE, hw, hv⟩
      cases hv with
      | d _ _ hv =>
      refine ⟨v, rfl, M'.below.below, hv.keep (fun b hb => ?_) fun _ _ => rfl⟩
      rcases M'.ro1 b hb with h | h
      · exact .inl h
      · exact .inr ⟨Nat.le_of_not_lt h, M'.rlt b hb⟩⟩
end Go.Proofs.Ytdkneonokbakjaa.Eng

namespace Go.Proofs.Ytdkneonokbakjaa.Eng
def toD5 : SV → Option Dat
  | .nilS => some (.list [])
  | x => toD2 x
def toD4 : SV → Option Dat
  | .tup l => match mapO toD5 l with
    | some m => some (.tup m)
    | none => none
  | x => toD5 x
theorem toD5_rep {E : Env} {w : World} {x : SV} {d : Dat} {v : Value} (h : toD5 x = some d) (hr : Rep E w x v) : RepD E.ro w d v := by
  unfold toD5 at h
  split at h
  · cases h
    cases hr
    exact .list [] none 0 (fun _ _ => .int .i64 0) (Nat.le_refl _) (Nat.zero_le _) (fun r hr => by cases hr) (fun h => absurd h (by decide)) fun i j r c hi => by simp at hi
  · cases (toD2_rep h).1 hr with | d _ _ h => exact h
theorem toD4_rep {E : Env} {w : World} {x : SV} {d : Dat} {v : Value} (h : toD4 x = some d) (hr : Rep E w x v) : RepD E.ro w d v := by
  unfold toD4 at h
  split at h
  · rename_i l
    split at h
    · rename_i m hm
      cases h
      obtain ⟨hlen, hget⟩ := mapO_get hm
      have hget2 : ∀ (i : Nat) (d : Dat), m[i]? = some d → ∃ x, l[i]? = some x ∧ toD5 x = some d := fun i d hd => by
        have hi : i < l.length := by rw [← hlen]; exact (List.getElem?_eq_some_iff.1 hd).1
        obtain ⟨y, h1, h2⟩ := hget i _ (List.getElem?_eq_getElem hi)
        rw [hd] at h1
        cases h1
        exact ⟨_, List.getElem?_eq_getElem hi, h2⟩
      cases hr with
      | tup _ vs h1 h3 =>
      refine .tup m vs (by rw [h1, hlen]) fun i c v hc hv => ?_
      obtain ⟨x, q1, q2⟩ := hget2 i c hc
      exact toD5_rep q2 (h3 i x v q1 hv)
    · cases h
  · exact toD5_rep h hr
variable {P : Program}
theorem RCall.of4 {f : FuncId} {svs : List SV} {d : Dat} {m : Mem} {n0 : Nat} (h : ∀ n, n0 ≤ n → CWp P f svs n m fun y _ m' => toD4 y = some d ∧ ∀ j, j < n → m' j = m j) : RCall P f svs d m :=
  ⟨(h n0 (Nat.le_refl _)).callable, fun W0 R0 D N E w vs hD M h1 h2 => by
    refine ((h (max N n0) (Nat.le_max_right _ _)).calls W0 R0 E w vs (ms_dom M fun i hi => Nat.lt_of_lt_of_le (hD i hi) (Nat.le_max_left _ _)) h1 h2).mono ?_
    rintro e w' ⟨v, E', n', m', y, rfl, M', hE, hw, hv, hy, hm⟩
    have hlt : ∀ i b, m i = some b → m' i = some b := fun i b hi => by
      rw [hm i (Nat.lt_of_lt_of_le (hD i (M.dom i (M.live i b hi))) (Nat.le_max_left _ _))]; exact hi
    let E2 : Env := { E' with dom := E.dom }
    refine ⟨v, E2, rfl, ⟨M'.below, M'.ro0, M'.ro1, M'.rlt, M.dom, M.live, fun i b hi => ?_, fun i b hi => M'.base i b (hlt i b hi), fun i b hi => M'.frz i b (hlt i b hi), fun i j b c hi hj hn => M'.inj i j b c (hlt i b hi) (hlt j c hj) hn⟩, ⟨hE.ro, fun _ h => h, hE.home⟩, hw, ?_⟩
    · exact Holds.restrict (E := E) (E' := E') (E'' := E2) (w := w) (w' := w') (h0 := E.home i) (h := E'.home i) (fun _ h => h) (fun _ h => h) (fun _ _ => rfl) (M'.mem i b (hlt i b hi)) (M.mem i b hi)
    · exact .d _ _ (toD4_rep (E := E') hy hv)⟩
theorem RCall.ofA4 {f : FuncId} {ds : List Dat} {d : Dat} (h : ACall P f ds d) {svs : List SV} (hs : mapO toD4 svs = some ds) (m : Nat → Option Blk) : RCall P f svs d m :=
  ⟨h.callable, fun W0 R0 D N E w vs hD M h1 h2 => by
    obtain ⟨hlen, hget⟩ := mapO_get hs
    refine (h.calls E.ro w vs M.rlt (by rw [h1, hlen]) fun i d v hd hv => ?_).mono ?_
    · have hi : i < svs.length := by rw [← hlen]; exact (List.getElem?_eq_some_iff.1 hd).1
      obtain ⟨y, q1, q2⟩ := hget i _ (List.getElem?_eq_getElem hi)
      rw [hd] at q1
      cases q1
      exact toD4_rep q2 (h2 i _ v (List.getElem?_eq_getElem hi) hv)
    · rintro e w' ⟨v, rfl, hb, hr⟩
      let E2 : Env := { E with ro := fun b => E.ro b ∨ (w.heap.size ≤ b ∧ b < w'.heap.size) }
      have hE : E.le E2 := ⟨fun _ h => .inl h, fun _ h => h, fun _ _ => rfl⟩
      have hw : ∀ b, E.ro b → w'.heap[b]? = w.heap[b]? := fun b hb' => hb.block b (M.rlt b hb')
      refine ⟨v, E2, rfl, ⟨M.below.trans (kept_of hb fun b hu => Nat.lt_of_lt_of_le (W0.lt b hu) M.below.size), fun b hb => .inl (M.ro0 b hb), fun b hb' => ?_, fun b hb' => ?_, M.dom, M.live, fun i b hi => (M.mem i b hi).keep hE hw (hb.block _ (M.mem i b hi).lt), M.base, fun i b hi => ?_, M.inj⟩, hE, hw, .d _ _ hr⟩
      · rcases hb' with h | h
        · exact M.ro1 b h
        · exact .inr fun hu => by have := W0.lt b hu; have := M.below.size; omega
      · rcases hb' with h | h
        · exact Nat.lt_of_lt_of_le (M.rlt b h) (kept_of (U := fun _ => False) hb fun _ h => h.elim).size
        · exact h.2
      · refine (M.frz i b hi).trans ⟨.inl, fun h => h.elim id fun h => ?_⟩
        have h5 : (E.home i).blk < w.heap.size := (M.mem i b hi).lt
        have h6 : w.heap.size ≤ (E.home i).blk := h.1
        omega⟩
theorem RCall.ofOwn {f : FuncId} {svs : List SV} {rows : List (List Dat)} {m : Mem} {n0 : Nat} (h : ∀ n, n0 ≤ n → CWp P f svs n m fun y _ m' => (∃ id z ty, n ≤ id ∧ y = .own id rows.length z ∧ m' id = some (.row ty z rows false)) ∧ ∀ j, j < n → m' j = m j) : RCall P f svs (.list rows) m :=
  ⟨(h n0 (Nat.le_refl _)).callable, fun W0 R0 D N E w vs hD M h1 h2 => by
    refine ((h (max N n0) (Nat.le_max_right _ _)).calls W0 R0 E w vs (ms_dom M fun i hi => Nat.lt_of_lt_of_le (hD i hi) (Nat.le_max_left _ _)) h1 h2).mono ?_
    rintro e w' ⟨v, E', n', m', y, rfl, M', hE, hw, hv, ⟨id, z, ty, hid, rfl, hrow⟩, hm⟩
    have hin : ∀ i b, m i = some b → i < max N n0 := fun i b hi => Nat.lt_of_lt_of_le (hD i (M.dom i (M.live i b hi))) (Nat.le_max_left _ _)
    have hlt : ∀ i b, m i = some b → m' i = some b := fun i b hi => by
      rw [hm i (hin i b hi)]; exact hi
    let E2 : Env := { E' with dom := E.dom, ro := fun b => E'.ro b ∨ b = (E'.home id).blk }
    refine ⟨v, E2, rfl, ⟨M'.below, fun b hb => .inl (M'.ro0 b hb), fun b hb => ?_, fun b hb => ?_, M.dom, M.live, fun i b hi => ?_, fun i b hi => M'.base i b (hlt i b hi), fun i b hi => ?_, fun i j b c hi hj hn => M'.inj i j b c (hlt i b hi) (hlt j c hj) hn⟩, ⟨fun b hb => .inl (hE.ro b hb), fun _ h => h, hE.home⟩, hw, ?_⟩
    · rcases hb with hb | rfl
      · exact M'.ro1 b hb
      · exact .inr fun hu => M'.base id _ hrow hu
    · rcases hb with hb | rfl
      · exact M'.rlt b hb
      · exact (M'.mem id _ hrow).lt
    · exact Holds.restrict (E := E) (E' := E') (E'' := E2) (w := w) (w' := w') (h0 := E.home i) (h := E'.home i) (fun _ h => .inl h) (fun _ h => h) (fun _ _ => rfl) (M'.mem i b (hlt i b hi)) (M.mem i b hi)
    · refine (M'.frz i b (hlt i b hi)).trans ⟨.inl, fun h => h.elim (fun h => h) fun e => ?_⟩
      exact absurd e (M'.inj i id b _ (hlt i b hi) hrow (by have := hin i b hi; omega))
    · cases hv with
      | own _ _ _ hd hz =>
      cases M'.mem id _ hrow with
      | row _ _ _ _ cur g1 g2 g3 g4 g5 g6 g7 g8 =>
      refine .d _ _ (.list rows _ _ (fun i j => cur.getD (i * z + j) (.int .i64 0)) g4 g5 g7 (fun _ => ⟨_, 0, z, rfl, .inr rfl, g6, fun i j hi hj => ?_⟩) fun i j r c hi hj => ?_)
      · have hsz : i * z + j < cur.size := by
          rw [g3]
          exact Nat.lt_of_lt_of_le (Nat.lt_of_lt_of_le (Nat.add_lt_add_left hj _) (by rw [← Nat.succ_mul]; exact Nat.mul_le_mul_right _ hi)) (Nat.mul_le_mul_right _ g4)
        rw [Nat.zero_add, World.cell?]
        simp [g1, Array.getD_eq_getD_getElem?, hsz]
      · have hir := (List.getElem?_eq_some_iff.1 hi).1
        have hjz : j < z := by rw [← g6 r (List.mem_of_getElem? hi)]; exact (List.getElem?_eq_some_iff.1 hj).1
        have hsz : i * z + j < cur.size := by
          rw [g3]
          exact Nat.lt_of_lt_of_le (Nat.lt_of_lt_of_le (Nat.add_lt_add_left hjz _) (by rw [← Nat.succ_mul]; exact Nat.mul_le_mul_right _ hir)) (Nat.mul_le_mul_right _ g4)
        have := g8 i j r c _ hi hj (Array.getElem?_eq_getElem hsz)
        rw [show cur.getD (i * z + j) (.int .i64 0) = cur[i * z + j] by simp [Array.getD_eq_getD_getElem?, hsz]]
        exact this.keep (ro' := E2.ro) (fun b hb => .inl hb) fun _ _ => rfl⟩
end Go.Proofs.Ytdkneonokbakjaa.Eng

noncomputable section
namespace Go.Proofs.Ytdkneonokbakjaa.Eng
open Go.RowKit
set_option maxRecDepth 100000
set_option maxHeartbeats 8000000
@[simp] theorem nk1 (n : Nat) : (n = n + 1) = False := by simp only [eq_iff_iff, iff_false]; omega
@[simp] theorem mk1 (n : Nat) : (n + 1 = n) = False := by simp only [eq_iff_iff, iff_false]; omega
@[simp] theorem nk2 (n : Nat) : (n = n + 1 + 1) = False := by simp only [eq_iff_iff, iff_false]; omega
@[simp] theorem mk2 (n : Nat) : (n + 1 + 1 = n) = False := by simp only [eq_iff_iff, iff_false]; omega
@[simp] theorem nk3 (n : Nat) : (n = n + 1 + 1 + 1) = False := by simp only [eq_iff_iff, iff_false]; omega
@[simp] theorem mk3 (n : Nat) : (n + 1 + 1 + 1 = n) = False := by simp only [eq_iff_iff, iff_false]; omega
@[simp] theorem nk4 (n : Nat) : (n = n + 1 + 1 + 1 + 1) = False := by simp only [eq_iff_iff, iff_false]; omega
@[simp] theorem mk4 (n : Nat) : (n + 1 + 1 + 1 + 1 = n) = False := by simp only [eq_iff_iff, iff_false]; omega
@[simp] theorem nk5 (n : Nat) : (n = n + 1 + 1 + 1 + 1 + 1) = False := by simp only [eq_iff_iff, iff_false]; omega
@[simp] theorem mk5 (n : Nat) : (n + 1 + 1 + 1 + 1 + 1 = n) = False := by simp only [eq_iff_iff, iff_false]; omega
@[simp] theorem nk6 (n : Nat) : (n = n + 1 + 1 + 1 + 1 + 1 + 1) = False := by simp only [eq_iff_iff, iff_false]; omega
@[simp] theorem mk6 (n : Nat) : (n + 1 + 1 + 1 + 1 + 1 + 1 = n) = False := by simp only [eq_iff_iff, iff_false]; omega
@[simp] theorem nk7 (n : Nat) : (n = n + 1 + 1 + 1 + 1 + 1 + 1 + 1) = False := by simp only [eq_iff_iff, iff_false]; omega
@[simp] theorem mk7 (n : Nat) : (n + 1 + 1 + 1 + 1 + 1 + 1 + 1 = n) = False := by simp only [eq_iff_iff, iff_false]; omega
@[simp] theorem nk8 (n : Nat) : (n = n + 1 + 1 + 1 + 1 + 1 + 1 + 1 + 1) = False := by simp only [eq_iff_iff, iff_false]; omega
@[simp] theorem mk8 (n : Nat) : (n + 1 + 1 + 1 + 1 + 1 + 1 + 1 + 1 = n) = False := by simp only [eq_iff_iff, iff_false]; omega
@[simp] theorem nk9 (n : Nat) : (n = n + 1 + 1 + 1 + 1 + 1 + 1 + 1 + 1 + 1) = False := by simp only [eq_iff_iff, iff_false]; omega
@[simp] theorem mk9 (n : Nat) : (n + 1 + 1 + 1 + 1 + 1 + 1 + 1 + 1 + 1 = n) = False := by simp only [eq_iff_iff, iff_false]; omega
@[simp] theorem nk10 (n : Nat) : (n = n + 1 + 1 + 1 + 1 + 1 + 1 + 1 + 1 + 1 + 1) = False := by simp only [eq_iff_iff, iff_false]; omega
@[simp] theorem mk10 (n : Nat) : (n + 1 + 1 + 1 + 1 + 1 + 1 + 1 + 1 + 1 + 1 = n) = False := by simp only [eq_iff_iff, iff_false]; omega
@[simp] theorem nk11 (n : Nat) : (n = n + 1 + 1 + 1 + 1 + 1 + 1 + 1 + 1 + 1 + 1 + 1) = False := by simp only [eq_iff_iff, iff_false]; omega
@[simp] theorem mk11 (n : Nat) : (n + 1 + 1 + 1 + 1 + 1 + 1 + 1 + 1 + 1 + 1 + 1 = n) = False := by simp only [eq_iff_iff, iff_false]; omega
@[simp] theorem nk12 (n : Nat) : (n = n + 1 + 1 + 1 + 1 + 1 + 1 + 1 + 1 + 1 + 1 + 1 + 1) = False := by simp only [eq_iff_iff, iff_false]; omega
@[simp] theorem mk12 (n : Nat) : (n + 1 + 1 + 1 + 1 + 1 + 1 + 1 + 1 + 1 + 1 + 1 + 1 = n) = False := by simp only [eq_iff_iff, iff_false]; omega
@[simp] theorem nk13 (n : Nat) : (n = n + 1 + 1 + 1 + 1 + 1 + 1 + 1 + 1 + 1 + 1 + 1 + 1 + 1) = False := by simp only [eq_iff_iff, iff_false]; omega
@[simp] theorem mk13 (n : Nat) : (n + 1 + 1 + 1 + 1 + 1 + 1 + 1 + 1 + 1 + 1 + 1 + 1 + 1 = n) = False := by simp only [eq_iff_iff, iff_false]; omega
@[simp] theorem nk14 (n : Nat) : (n = n + 1 + 1 + 1 + 1 + 1 + 1 + 1 + 1 + 1 + 1 + 1 + 1 + 1 + 1) = False := by simp only [eq_iff_iff, iff_false]; omega
@[simp] theorem mk14 (n : Nat) : (n + 1 + 1 + 1 + 1 + 1 + 1 + 1 + 1 + 1 + 1 + 1 + 1 + 1 + 1 = n) = False := by simp only [eq_iff_iff, iff_false]; omega
@[simp] theorem nk15 (n : Nat) : (n = n + 1 + 1 + 1 + 1 + 1 + 1 + 1 + 1 + 1 + 1 + 1 + 1 + 1 + 1 + 1) = False := by simp only [eq_iff_iff, iff_false]; omega
@[simp] theorem mk15 (n : Nat) : (n + 1 + 1 + 1 + 1 + 1 + 1 + 1 + 1 + 1 + 1 + 1 + 1 + 1 + 1 + 1 = n) = False := by simp only [eq_iff_iff, iff_false]; omega
@[simp] theorem nk16 (n : Nat) : (n = n + 1 + 1 + 1 + 1 + 1 + 1 + 1 + 1 + 1 + 1 + 1 + 1 + 1 + 1 + 1 + 1) = False := by simp only [eq_iff_iff, iff_false]; omega
@[simp] theorem mk16 (n : Nat) : (n + 1 + 1 + 1 + 1 + 1 + 1 + 1 + 1 + 1 + 1 + 1 + 1 + 1 + 1 + 1 + 1 = n) = False := by simp only [eq_iff_iff, iff_false]; omega
@[simp] theorem nk17 (n : Nat) : (n = n + 1 + 1 + 1 + 1 + 1 + 1 + 1 + 1 + 1 + 1 + 1 + 1 + 1 + 1 + 1 + 1 + 1) = False := by simp only [eq_iff_iff, iff_false]; omega
@[simp] theorem mk17 (n : Nat) : (n + 1 + 1 + 1 + 1 + 1 + 1 + 1 + 1 + 1 + 1 + 1 + 1 + 1 + 1 + 1 + 1 + 1 = n) = False := by simp only [eq_iff_iff, iff_false]; omega
@[simp] theorem nk18 (n : Nat) : (n = n + 1 + 1 + 1 + 1 + 1 + 1 + 1 + 1 + 1 + 1 + 1 + 1 + 1 + 1 + 1 + 1 + 1 + 1) = False := by simp only [eq_iff_iff, iff_false]; omega
@[simp] theorem mk18 (n : Nat) : (n + 1 + 1 + 1 + 1 + 1 + 1 + 1 + 1 + 1 + 1 + 1 + 1 + 1 + 1 + 1 + 1 + 1 + 1 = n) = False := by simp only [eq_iff_iff, iff_false]; omega
@[simp] theorem nk19 (n : Nat) : (n = n + 1 + 1 + 1 + 1 + 1 + 1 + 1 + 1 + 1 + 1 + 1 + 1 + 1 + 1 + 1 + 1 + 1 + 1 + 1) = False := by simp only [eq_iff_iff, iff_false]; omega
@[simp] theorem mk19 (n : Nat) : (n + 1 + 1 + 1 + 1 + 1 + 1 + 1 + 1 + 1 + 1 + 1 + 1 + 1 + 1 + 1 + 1 + 1 + 1 + 1 = n) = False := by simp only [eq_iff_iff, iff_false]; omega
@[simp] theorem nk20 (n : Nat) : (n = n + 1 + 1 + 1 + 1 + 1 + 1 + 1 + 1 + 1 + 1 + 1 + 1 + 1 + 1 + 1 + 1 + 1 + 1 + 1 + 1) = False := by simp only [eq_iff_iff, iff_false]; omega
@[simp] theorem mk20 (n : Nat) : (n + 1 + 1 + 1 + 1 + 1 + 1 + 1 + 1 + 1 + 1 + 1 + 1 + 1 + 1 + 1 + 1 + 1 + 1 + 1 + 1 = n) = False := by simp only [eq_iff_iff, iff_false]; omega
@[simp] theorem nk21 (n : Nat) : (n = n + 1 + 1 + 1 + 1 + 1 + 1 + 1 + 1 + 1 + 1 + 1 + 1 + 1 + 1 + 1 + 1 + 1 + 1 + 1 + 1 + 1) = False := by simp only [eq_iff_iff, iff_false]; omega
@[simp] theorem mk21 (n : Nat) : (n + 1 + 1 + 1 + 1 + 1 + 1 + 1 + 1 + 1 + 1 + 1 + 1 + 1 + 1 + 1 + 1 + 1 + 1 + 1 + 1 + 1 = n) = False := by simp only [eq_iff_iff, iff_false]; omega
@[simp] theorem nk22 (n : Nat) : (n = n + 1 + 1 + 1 + 1 + 1 + 1 + 1 + 1 + 1 + 1 + 1 + 1 + 1 + 1 + 1 + 1 + 1 + 1 + 1 + 1 + 1 + 1) = False := by simp only [eq_iff_iff, iff_false]; omega
@[simp] theorem mk22 (n : Nat) : (n + 1 + 1 + 1 + 1 + 1 + 1 + 1 + 1 + 1 + 1 + 1 + 1 + 1 + 1 + 1 + 1 + 1 + 1 + 1 + 1 + 1 + 1 = n) = False := by simp only [eq_iff_iff, iff_false]; omega
@[simp] theorem nk23 (n : Nat) : (n = n + 1 + 1 + 1 + 1 + 1 + 1 + 1 + 1 + 1 + 1 + 1 + 1 + 1 + 1 + 1 + 1 + 1 + 1 + 1 + 1 + 1 + 1 + 1) = False := by simp only [eq_iff_iff, iff_false]; omega
@[simp] theorem mk23 (n : Nat) : (n + 1 + 1 + 1 + 1 + 1 + 1 + 1 + 1 + 1 + 1 + 1 + 1 + 1 + 1 + 1 + 1 + 1 + 1 + 1 + 1 + 1 + 1 + 1 = n) = False := by simp only [eq_iff_iff, iff_false]; omega
@[simp] theorem nk24 (n : Nat) : (n = n + 1 + 1 + 1 + 1 + 1 + 1 + 1 + 1 + 1 + 1 + 1 + 1 + 1 + 1 + 1 + 1 + 1 + 1 + 1 + 1 + 1 + 1 + 1 + 1) = False := by simp only [eq_iff_iff, iff_false]; omega
@[simp] theorem mk24 (n : Nat) : (n + 1 + 1 + 1 + 1 + 1 + 1 + 1 + 1 + 1 + 1 + 1 + 1 + 1 + 1 + 1 + 1 + 1 + 1 + 1 + 1 + 1 + 1 + 1 + 1 = n) = False := by simp only [eq_iff_iff, iff_false]; omega
@[simp] theorem nk25 (n : Nat) : (n = n + 1 + 1 + 1 + 1 + 1 + 1 + 1 + 1 + 1 + 1 + 1 + 1 + 1 + 1 + 1 + 1 + 1 + 1 + 1 + 1 + 1 + 1 + 1 + 1 + 1) = False := by simp only [eq_iff_iff, iff_false]; omega
@[simp] theorem mk25 (n : Nat) : (n + 1 + 1 + 1 + 1 + 1 + 1 + 1 + 1 + 1 + 1 + 1 + 1 + 1 + 1 + 1 + 1 + 1 + 1 + 1 + 1 + 1 + 1 + 1 + 1 + 1 = n) = False := by simp only [eq_iff_iff, iff_false]; omega
@[simp] theorem nk26 (n : Nat) : (n = n + 1 + 1 + 1 + 1 + 1 + 1 + 1 + 1 + 1 + 1 + 1 + 1 + 1 + 1 + 1 + 1 + 1 + 1 + 1 + 1 + 1 + 1 + 1 + 1 + 1 + 1) = False := by simp only [eq_iff_iff, iff_false]; omega
@[simp] theorem mk26 (n : Nat) : (n + 1 + 1 + 1 + 1 + 1 + 1 + 1 + 1 + 1 + 1 + 1 + 1 + 1 + 1 + 1 + 1 + 1 + 1 + 1 + 1 + 1 + 1 + 1 + 1 + 1 + 1 = n) = False := by simp only [eq_iff_iff, iff_false]; omega
@[simp] theorem nk27 (n : Nat) : (n = n + 1 + 1 + 1 + 1 + 1 + 1 + 1 + 1 + 1 + 1 + 1 + 1 + 1 + 1 + 1 + 1 + 1 + 1 + 1 + 1 + 1 + 1 + 1 + 1 + 1 + 1 + 1) = False := by simp only [eq_iff_iff, iff_false]; omega
@[simp] theorem mk27 (n : Nat) : (n + 1 + 1 + 1 + 1 + 1 + 1 + 1 + 1 + 1 + 1 + 1 + 1 + 1 + 1 + 1 + 1 + 1 + 1 + 1 + 1 + 1 + 1 + 1 + 1 + 1 + 1 + 1 = n) = False := by simp only [eq_iff_iff, iff_false]; omega
@[simp] theorem nk28 (n : Nat) : (n = n + 1 + 1 + 1 + 1 + 1 + 1 + 1 + 1 + 1 + 1 + 1 + 1 + 1 + 1 + 1 + 1 + 1 + 1 + 1 + 1 + 1 + 1 + 1 + 1 + 1 + 1 + 1 + 1) = False := by simp only [eq_iff_iff, iff_false]; omega
@[simp] theorem mk28 (n : Nat) : (n + 1 + 1 + 1 + 1 + 1 + 1 + 1 + 1 + 1 + 1 + 1 + 1 + 1 + 1 + 1 + 1 + 1 + 1 + 1 + 1 + 1 + 1 + 1 + 1 + 1 + 1 + 1 + 1 = n) = False := by simp only [eq_iff_iff, iff_false]; omega
@[simp] theorem nk29 (n : Nat) : (n = n + 1 + 1 + 1 + 1 + 1 + 1 + 1 + 1 + 1 + 1 + 1 + 1 + 1 + 1 + 1 + 1 + 1 + 1 + 1 + 1 + 1 + 1 + 1 + 1 + 1 + 1 + 1 + 1 + 1) = False := by simp only [eq_iff_iff, iff_false]; omega
@[simp] theorem mk29 (n : Nat) : (n + 1 + 1 + 1 + 1 + 1 + 1 + 1 + 1 + 1 + 1 + 1 + 1 + 1 + 1 + 1 + 1 + 1 + 1 + 1 + 1 + 1 + 1 + 1 + 1 + 1 + 1 + 1 + 1 + 1 = n) = False := by simp only [eq_iff_iff, iff_false]; omega
@[simp] theorem nk30 (n : Nat) : (n = n + 1 + 1 + 1 + 1 + 1 + 1 + 1 + 1 + 1 + 1 + 1 + 1 + 1 + 1 + 1 + 1 + 1 + 1 + 1 + 1 + 1 + 1 + 1 + 1 + 1 + 1 + 1 + 1 + 1 + 1) = False := by simp only [eq_iff_iff, iff_false]; omega
@[simp] theorem mk30 (n : Nat) : (n + 1 + 1 + 1 + 1 + 1 + 1 + 1 + 1 + 1 + 1 + 1 + 1 + 1 + 1 + 1 + 1 + 1 + 1 + 1 + 1 + 1 + 1 + 1 + 1 + 1 + 1 + 1 + 1 + 1 + 1 = n) = False := by simp only [eq_iff_iff, iff_false]; omega
theorem setMem_lt {m : Mem} {a j : Nat} {b : Option Blk} (h : j < a) : setMem m a b j = m j := if_neg (by omega)
theorem putN_lt {m q : Mem} {a b j : Nat} (h : j < a) : putN m a b q j = m j := if_neg (by omega)
theorem mixedR : Try.prog.follows .mixedOrders = true := by kernel_rfl
abbrev sto5 (s : RS) : List SV := [.d (iD s.long), .d (iD s.short), .d (iD s.off), .d (iD s.lo), .d (iD s.hi)]
def spS (A : Rgs) : List SV := (List.range 12).flatMap fun j => [.d (iD (A j).1), .d (iD (A j).2)]
def whS (s : RS) (ps : List Int) (A : Rgs) : List SV := sto5 s ++ .d (intL ps) :: spS A
@[simp] theorem spS_len (A : Rgs) : (spS A).length = 24 := by simp [spS, List.range_succ]
@[simp] theorem whS_len (s : RS) (ps : List Int) (A : Rgs) : (whS s ps A).length = 30 := by simp [whS]
@[simp] theorem wh0 (s : RS) (ps : List Int) (A : Rgs) : List.take 1 (whS s ps A) = [.d (iD s.long)] := rfl
@[simp] theorem wh1 (s : RS) (ps : List Int) (A : Rgs) : List.take 1 (List.drop 1 (whS s ps A)) = [.d (iD s.short)] := rfl
@[simp] theorem wh1t (s : RS) (ps : List Int) (A : Rgs) : List.take 1 (whS s ps A).tail = [.d (iD s.short)] := rfl
@[simp] theorem wh2 (s : RS) (ps : List Int) (A : Rgs) : List.take 1 (List.drop 2 (whS s ps A)) = [.d (iD s.off)] := rfl
@[simp] theorem wh3 (s : RS) (ps : List Int) (A : Rgs) : List.take 1 (List.drop 3 (whS s ps A)) = [.d (iD s.lo)] := rfl
@[simp] theorem wh4 (s : RS) (ps : List Int) (A : Rgs) : List.take 1 (List.drop 4 (whS s ps A)) = [.d (iD s.hi)] := rfl
@[simp] theorem wh5 (s : RS) (ps : List Int) (A : Rgs) : List.take 1 (List.drop 5 (whS s ps A)) = [.d (intL ps)] := rfl
@[simp] theorem whR (s : RS) (ps : List Int) (A : Rgs) : List.take 5 (whS s ps A) = sto5 s := rfl
@[simp] theorem whA (s : RS) (ps : List Int) (A : Rgs) : List.take 24 (List.drop 6 (whS s ps A)) = spS A := by simp [whS]; exact List.take_of_length_le (by simp)
theorem sp_at (A : Rgs) {p : Nat} (hp : p < 12) : List.take 2 (List.drop (p * 2) (spS A)) = [.d (iD (A p).1), .d (iD (A p).2)] := by
  have h : ∀ p : Fin 12, List.take 2 (List.drop (p.1 * 2) (spS A)) = [.d (iD (A p.1).1), .d (iD (A p.1).2)] := by
    intro p
    match p with
    | ⟨0, _⟩ => rfl
    | ⟨1, _⟩ => rfl
    | ⟨2, _⟩ => rfl
    | ⟨3, _⟩ => rfl
    | ⟨4, _⟩ => rfl
    | ⟨5, _⟩ => rfl
    | ⟨6, _⟩ => rfl
    | ⟨7, _⟩ => rfl
    | ⟨8, _⟩ => rfl
    | ⟨9, _⟩ => rfl
    | ⟨10, _⟩ => rfl
    | ⟨11, _⟩ => rfl
  exact h ⟨p, hp⟩
theorem wh_drop (s : RS) (ps : List Int) (A : Rgs) (k : Nat) : List.drop (6 + k) (whS s ps A) = List.drop k (spS A) := by
  rw [← List.drop_drop]
  rfl
theorem wh_at (s : RS) (ps : List Int) (A : Rgs) {p : Nat} (hp : p < 12) : List.take 2 (List.drop (6 + p * 2) (whS s ps A)) = [.d (iD (A p).1), .d (iD (A p).2)] := by rw [wh_drop, sp_at A hp]
theorem wh_lo (s : RS) (ps : List Int) (A : Rgs) {p : Nat} (hp : p < 12) : (whS s ps A)[6 + p * 2]? = some (.d (iD (A p).1)) := by
  have := wh_at s ps A hp
  have h2 : (List.take 2 (List.drop (6 + p * 2) (whS s ps A)))[0]? = some (.d (iD (A p).1)) := by rw [this]; rfl
  rw [List.getElem?_take, if_pos (by omega), List.getElem?_drop] at h2
  exact h2
abbrev WhAt (s : RS) (ps : List Int) (A : Rgs) (w : Nat) (m : Mem) : Prop := m w = some (.box 83 (whS s ps A) false)
theorem isPulley_w {s : RS} {ps : List Int} {A : Rgs} {w : Nat} {m : Mem} (hm : WhAt s ps A w m) (p : Int) (n : Nat) :
    CWp Try.prog 50 [.ptr w 0 0, .d (iD p)] n m fun y n' m' => n ≤ n' ∧ n' ≤ n + 20 ∧ y = .d (bD (decide (0 ≤ p ∧ p < ps.length))) ∧ m' = m := by
  by_cases g1 : 0 ≤ p
  · by_cases g2 : p < ps.length
    · rw [decide_eq_true ⟨g1, g2⟩]
      refine cwpK tabOk Try.func50 rfl rfl (show 2 ≤ _ by decide) rfl fun _ => ?_; simp only [Try.ntmps50]
      repeat (first | (with_reducible first | refine AWi.seqK fun _ => ?_ | refine AWi.blockK fun _ => ?_ | refine KI.go ?_) | ((first | refine AWi.region tabOk ?_ | refine AWi.condK fun _ _ => ?_ | refine AWi.draws tabOk rfl (by kernel_rfl) (by kernel_rfl) ?_); simp [-getElem?_pos, z0, z1, z2, hm, g1, g2]) | ((first | refine AWi.ret ?_ | refine AWi.skip ?_ | refine AWi.exit ?_); try simp only [thenP]) | (with_reducible refine BB.go ?_; simp only [blockP, thenP, reduceIte]) | (with_reducible refine And.intro (okLog_c (by simp [footOf, guardSlot, slotsOf, idsRead, looks, idsOf, idsOf1, idsWritten, colF]; kernel_rfl)) ?_))
      exact RI.ret rfl ⟨by omega, by omega, rfl, rfl⟩
    · rw [decide_eq_false (fun h => g2 h.2)]
      refine cwpK tabOk Try.func50 rfl rfl (show 2 ≤ _ by decide) rfl fun _ => ?_; simp only [Try.ntmps50]
      repeat (first | (with_reducible first | refine AWi.seqK fun _ => ?_ | refine AWi.blockK fun _ => ?_ | refine KI.go ?_) | ((first | refine AWi.region tabOk ?_ | refine AWi.condK fun _ _ => ?_ | refine AWi.draws tabOk rfl (by kernel_rfl) (by kernel_rfl) ?_); simp [-getElem?_pos, z0, z1, z2, hm, g1, g2]) | ((first | refine AWi.ret ?_ | refine AWi.skip ?_ | refine AWi.exit ?_); try simp only [thenP]) | (with_reducible refine BB.go ?_; simp only [blockP, thenP, reduceIte]) | (with_reducible refine And.intro (okLog_c (by simp [footOf, guardSlot, slotsOf, idsRead, looks, idsOf, idsOf1, idsWritten, colF]; kernel_rfl)) ?_))
      exact RI.ret rfl ⟨by omega, by omega, rfl, rfl⟩
  · rw [decide_eq_false (fun h => g1 h.1)]
    refine cwpK tabOk Try.func50 rfl rfl (show 2 ≤ _ by decide) rfl fun _ => ?_; simp only [Try.ntmps50]
    repeat (first | (with_reducible first | refine AWi.seqK fun _ => ?_ | refine AWi.blockK fun _ => ?_ | refine KI.go ?_) | ((first | refine AWi.region tabOk ?_ | refine AWi.condK fun _ _ => ?_ | refine AWi.draws tabOk rfl (by kernel_rfl) (by kernel_rfl) ?_); simp [-getElem?_pos, z0, z1, z2, hm, g1]) | ((first | refine AWi.ret ?_ | refine AWi.skip ?_ | refine AWi.exit ?_); try simp only [thenP]) | (with_reducible refine BB.go ?_; simp only [blockP, thenP, reduceIte]) | (with_reducible refine And.intro (okLog_c (by simp [footOf, guardSlot, slotsOf, idsRead, looks, idsOf, idsOf1, idsWritten, colF]; kernel_rfl)) ?_))
    exact RI.ret rfl ⟨by omega, by omega, rfl, rfl⟩
theorem bears_w {s : RS} {ps : List Int} {A : Rgs} {w : Nat} {m : Mem} (hm : WhAt s ps A w m) {p : Nat} (hp : p < 12) (x : Int) (n : Nat) (hw : w < n) :
    CWp Try.prog 75 [.ptr w 0 0, .d (iD p), .d (iD x)] n m fun y n' m' => n ≤ n' ∧ n' ≤ n + 30 ∧ y = .d (bD (bearB A p x)) ∧ ∀ j, j < n → m' j = m j := by
  have ha := wh_at s ps A hp
  have hl := whS_len s ps A
  have g3 : (p : Int) < 12 := by omega
  have g2 : 6 + p * 2 + 2 ≤ 30 := by omega
  obtain ⟨b, hb⟩ : ∃ b, b = bearB A p x := ⟨_, rfl⟩
  rw [← hb]
  unfold bearB at hb
  generalize A p = a at *
  obtain ⟨lo, hi⟩ := a
  simp only at hb ha
  by_cases g1 : lo ≤ x
  · by_cases g4 : x ≤ hi
    · rw [decide_eq_true ⟨g1, g4⟩] at hb
      subst hb
      refine cwpK tabOk Try.func75 rfl rfl (show 3 ≤ _ by decide) rfl fun _ => ?_; simp only [Try.ntmps75]
      repeat (first | (with_reducible first | refine AWi.seqK fun _ => ?_ | refine AWi.blockK fun _ => ?_ | refine KI.go ?_) | ((first | refine AWi.region tabOk ?_ | refine AWi.condK fun _ _ => ?_ | refine AWi.draws tabOk rfl (by kernel_rfl) (by kernel_rfl) ?_); simp [-getElem?_pos, z0, z1, z2, hm, ha, hl, g1, g2, g3, g4]) | ((first | refine AWi.ret ?_ | refine AWi.skip ?_ | refine AWi.exit ?_); try simp only [thenP]) | (with_reducible refine BB.go ?_; simp only [blockP, thenP, reduceIte]) | (with_reducible refine And.intro (okLog_c (by simp [footOf, guardSlot, slotsOf, idsRead, looks, idsOf, idsOf1, idsWritten, colF]; kernel_rfl)) ?_))
      exact RI.ret rfl ⟨by omega, by omega, rfl, fun j hj => by (try dsimp only); repeat (first | rw [setMem_lt (by omega)] | rw [putN_lt (by omega)])⟩
    · rw [decide_eq_false (fun h => g4 h.2)] at hb
      subst hb
      refine cwpK tabOk Try.func75 rfl rfl (show 3 ≤ _ by decide) rfl fun _ => ?_; simp only [Try.ntmps75]
      repeat (first | (with_reducible first | refine AWi.seqK fun _ => ?_ | refine AWi.blockK fun _ => ?_ | refine KI.go ?_) | ((first | refine AWi.region tabOk ?_ | refine AWi.condK fun _ _ => ?_ | refine AWi.draws tabOk rfl (by kernel_rfl) (by kernel_rfl) ?_); simp [-getElem?_pos, z0, z1, z2, hm, ha, hl, g1, g2, g3, g4]) | ((first | refine AWi.ret ?_ | refine AWi.skip ?_ | refine AWi.exit ?_); try simp only [thenP]) | (with_reducible refine BB.go ?_; simp only [blockP, thenP, reduceIte]) | (with_reducible refine And.intro (okLog_c (by simp [footOf, guardSlot, slotsOf, idsRead, looks, idsOf, idsOf1, idsWritten, colF]; kernel_rfl)) ?_))
      exact RI.ret rfl ⟨by omega, by omega, rfl, fun j hj => by (try dsimp only); repeat (first | rw [setMem_lt (by omega)] | rw [putN_lt (by omega)])⟩
  · rw [decide_eq_false (fun h => g1 h.1)] at hb
    subst hb
    refine cwpK tabOk Try.func75 rfl rfl (show 3 ≤ _ by decide) rfl fun _ => ?_; simp only [Try.ntmps75]
    repeat (first | (with_reducible first | refine AWi.seqK fun _ => ?_ | refine AWi.blockK fun _ => ?_ | refine KI.go ?_) | ((first | refine AWi.region tabOk ?_ | refine AWi.condK fun _ _ => ?_ | refine AWi.draws tabOk rfl (by kernel_rfl) (by kernel_rfl) ?_); simp [-getElem?_pos, z0, z1, z2, hm, ha, hl, g1, g2, g3]) | ((first | refine AWi.ret ?_ | refine AWi.skip ?_ | refine AWi.exit ?_); try simp only [thenP]) | (with_reducible refine BB.go ?_; simp only [blockP, thenP, reduceIte]) | (with_reducible refine And.intro (okLog_c (by simp [footOf, guardSlot, slotsOf, idsRead, looks, idsOf, idsOf1, idsWritten, colF]; kernel_rfl)) ?_))
    exact RI.ret rfl ⟨by omega, by omega, rfl, fun j hj => by (try dsimp only); repeat (first | rw [setMem_lt (by omega)] | rw [putN_lt (by omega)])⟩
theorem span_w {s : RS} {ps : List Int} {A : Rgs} {w : Nat} {m : Mem} (hm : WhAt s ps A w m) (hg : GoodR s) {p : Nat} {t : Int} (ht : ps[p]? = some t) (h1 : 1 ≤ t ∧ t ≤ 10000) (n : Nat) (hw : w < n) :
    CWp Try.prog 87 [.ptr w 0 0, .d (iD p)] n m fun y n' m' => toD3 y = some (rngD (spR s t)) ∧ ∀ j, j < n → m' j = m j := by
  have := hg.s1; have := hg.s2; have := hg.s3; have := hg.o1; have := hg.o2; have := hg.l1; have := hg.l2; have := hg.l3
  have hl := whS_len s ps A
  have hp : p < ps.length := (List.getElem?_eq_some_iff.1 ht).1
  have hpi : (p : Int) < ps.length := by omega
  obtain ⟨a, ha⟩ : ∃ a, a = (s.lo + t - 1) / t := ⟨_, rfl⟩
  obtain ⟨q, hq⟩ : ∃ q, q = s.hi / t := ⟨_, rfl⟩
  have q1 : (s.lo + t - 1).tdiv t = a := by rw [Int.tdiv_eq_ediv_of_nonneg (by omega), ha]
  have q2 : s.hi.tdiv t = q := by rw [Int.tdiv_eq_ediv_of_nonneg (by omega), hq]
  have hp1 : 0 ≤ a := by rw [ha]; exact Int.ediv_nonneg (by omega) (by omega)
  have hp2 : a ≤ 1000010000 := by rw [ha]; exact Int.le_trans (Int.ediv_le_self _ (by omega)) (by omega)
  have hq1 : 0 ≤ q := by rw [hq]; exact Int.ediv_nonneg (by omega) (by omega)
  have hq2 : q ≤ 1000000000 := by rw [hq]; exact Int.le_trans (Int.ediv_le_self _ (by omega)) (by omega)
  obtain ⟨x, hx⟩ : ∃ x, x = max s.short (a + s.off) := ⟨_, rfl⟩
  obtain ⟨y, hy⟩ : ∃ y, y = min s.long (q - s.off) := ⟨_, rfl⟩
  have hres : spR s t = if y < x then (0, 0) else (x, y) := by
    have : betR s t = (x, y) := by rw [betR, ← ha, ← hq, ← hx, ← hy]
    rw [spR, this]
  have m1 : (if s.short < a + s.off then a + s.off else s.short) = x := by rw [hx]; split <;> omega
  have m2 : (if q - s.off < s.long then q - s.off else s.long) = y := by rw [hy]; split <;> omega
  have w1 : IntKind.i64.wrap (s.lo + t) = s.lo + t := wrap64_in (by omega)
  have w2 : IntKind.i64.wrap (s.lo + t - 1) = s.lo + t - 1 := wrap64_in (by omega)
  have w3 : IntKind.i64.wrap a = a := wrap64_in (by omega)
  have w4 : IntKind.i64.wrap q = q := wrap64_in (by omega)
  have w5 : IntKind.i64.wrap (a + s.off) = a + s.off := wrap64_in (by omega)
  have w6 : IntKind.i64.wrap (q - s.off) = q - s.off := wrap64_in (by omega)
  have ht0 : ¬ t = 0 := by omega
  have hwn : ¬ w = n := by omega
  rw [hres]
  by_cases g : y < x
  · rw [if_pos g]
    refine cwpK tabOk Try.func87 rfl rfl (show 2 ≤ _ by decide) rfl fun _ => ?_; simp only [Try.ntmps87]
    repeat (first | (with_reducible first | refine AWi.seqK fun _ => ?_ | refine AWi.blockK fun _ => ?_ | refine KI.go ?_) | ((first | refine AWi.region tabOk ?_ | refine AWi.condK fun _ _ => ?_); simp [-getElem?_pos, z0, z1, z2, hm, hl, hp, hpi, ht, hwn]) | ((first | refine AWi.ret ?_ | refine AWi.skip ?_ | refine AWi.exit ?_); try simp only [thenP]) | (with_reducible refine BB.go ?_; simp only [blockP, thenP, reduceIte]))
    refine AWi.drawsT tabOk mixedR 45 (by kernel_rfl) (by kernel_rfl) ?_
    simp only [List.take_succ_cons, List.take_zero, List.drop_succ_cons, List.drop_zero]
    repeat (with_reducible refine ExecV.auto tabOk ?_; simp [-getElem?_pos, z0, z1, z2, kindV, isPure, hm, hl, hp, hpi, ht, hwn, w1, w2, w3, w4, w5, w6, q1, q2, m1, m2, ht0, hw]; try (refine And.intro (OkV_old (by simp; try omega) (by omega) (by simp [AllAcc])) ?_))
    unfold ExecV
    simp [-getElem?_pos, z0, z1, z2, g]
    repeat (first | (with_reducible first | refine AWi.seqK fun _ => ?_ | refine AWi.blockK fun _ => ?_ | refine KI.go ?_) | ((first | refine AWi.region tabOk ?_ | refine AWi.condK fun _ _ => ?_); simp [-getElem?_pos, z0, z1, z2, hwn, g]) | ((first | refine AWi.ret ?_ | refine AWi.skip ?_ | refine AWi.exit ?_); try simp only [thenP]) | (with_reducible refine BB.go ?_; simp only [blockP, thenP, reduceIte]))
    refine RI.ret (xs := [.agg [.d (iD 0), .d (iD 0)]]) (by simp [Try.results87, resSlots, resSlot, g]) ?_
    exact ⟨rfl, fun j hj => by (try dsimp only); repeat (first | rw [setMem_lt (by omega)] | rw [putN_lt (by omega)])⟩
  · rw [if_neg g]
    refine cwpK tabOk Try.func87 rfl rfl (show 2 ≤ _ by decide) rfl fun _ => ?_; simp only [Try.ntmps87]
    repeat (first | (with_reducible first | refine AWi.seqK fun _ => ?_ | refine AWi.blockK fun _ => ?_ | refine KI.go ?_) | ((first | refine AWi.region tabOk ?_ | refine AWi.condK fun _ _ => ?_); simp [-getElem?_pos, z0, z1, z2, hm, hl, hp, hpi, ht, hwn]) | ((first | refine AWi.ret ?_ | refine AWi.skip ?_ | refine AWi.exit ?_); try simp only [thenP]) | (with_reducible refine BB.go ?_; simp only [blockP, thenP, reduceIte]))
    refine AWi.drawsT tabOk mixedR 45 (by kernel_rfl) (by kernel_rfl) ?_
    simp only [List.take_succ_cons, List.take_zero, List.drop_succ_cons, List.drop_zero]
    repeat (with_reducible refine ExecV.auto tabOk ?_; simp [-getElem?_pos, z0, z1, z2, kindV, isPure, hm, hl, hp, hpi, ht, hwn, w1, w2, w3, w4, w5, w6, q1, q2, m1, m2, ht0, hw]; try (refine And.intro (OkV_old (by simp; try omega) (by omega) (by simp [AllAcc])) ?_))
    unfold ExecV
    simp [-getElem?_pos, z0, z1, z2, g]
    repeat (first | (with_reducible first | refine AWi.seqK fun _ => ?_ | refine AWi.blockK fun _ => ?_ | refine KI.go ?_) | ((first | refine AWi.region tabOk ?_ | refine AWi.condK fun _ _ => ?_); simp [-getElem?_pos, z0, z1, z2, hwn, g]) | ((first | refine AWi.ret ?_ | refine AWi.skip ?_ | refine AWi.exit ?_); try simp only [thenP]) | (with_reducible refine BB.go ?_; simp only [blockP, thenP, reduceIte]))
    refine RI.ret (xs := [.agg [.d (iD x), .d (iD y)]]) (by simp [Try.results87, resSlots, resSlot, g]) ?_
    exact ⟨rfl, fun j hj => by (try dsimp only); repeat (first | rw [setMem_lt (by omega)] | rw [putN_lt (by omega)])⟩
end Go.Proofs.Ytdkneonokbakjaa.Eng

noncomputable section
namespace Go.Proofs.Ytdkneonokbakjaa.Eng
open Go.RowKit
variable {P : Program} {T : Tab} {r : Option Nat} {ns : Nat}
def ExecS (P : Program) (r : Option Nat) (ns : Nat) (ops : Array Oper) : Nat → List Oper → St → (Nat → St → Prop) → Prop
  | n, [], s, Q => Q n s
  | n, o :: l, s, Q => guardS ops ns s o = some true ∧ ∃ G, StepI P r ns n s o G ∧ ∀ n' s', G n' s' → ExecS P r ns ops n' l s' Q
theorem execS_list {W0 : Fix} {R0 : Nat → Prop} {B : Nat} (hi : InAct r W0 R0 B) {ops : Array Oper} {Q : Exit → Act → World → Prop} : ∀ (l : List Oper) (n : Nat) {s : St} {E : Env} {a : Act} {w : World} {Q' : Nat → St → Prop}, ExecS P r ns ops n l s Q' →
    Sim W0 R0 ns (· < n) s E a w → (∀ n' s' E' a' w', Sim W0 R0 ns (· < n') s' E' a' w' → Q' n' s' → Q .normal a' w') → wpListIn (fen (rOf W0 r)) 0 P ops Q l a w
  | [], n, s, E, a, w, Q', h, hs, hQ => hQ n s E a w hs h
  | o :: l, n, s, E, a, w, Q', ⟨hg, G, h1, h2⟩, hs, hQ => by
    refine wpListIn_step fun K hK => ?_
    rw [guard_ok hs hg, if_pos rfl]
    exact h1 W0 R0 B E a w hi hs (guardS_dst hg) K Q fun n' s' E' a' w' hG hs' => hK _ _ (execS_list hi l n' (h2 n' s' hG) hs' hQ)
theorem AWi.regionS {id n : Nat} {s : St} {Q : Post} {l : List Oper} (h : ExecS P r ns l.toArray n l s (fun n' s' => Q .normal n' s')) : AWi P r ns (.region id l.toArray false) n s Q :=
  fun W0 _ _ _ _ _ hi hs => wpIn_region_lit (execS_list hi l n h hs fun n' s' E' _ _ h1 h2 => ⟨n', s', E', W0, Ext.refl _, hi, h1, h2⟩)
section
variable {ops : Array Oper} {o : Oper} {l : List Oper} {n : Nat} {s : St} {Q : Nat → St → Prop}
theorem ExecS.plain (hT : TabOk P T) {out : Out} (hg : guardS ops ns s o = some true) (hw : waits o.op = false) (hx : aop T s.mem n (opd ns s) o.op = some out) (h : ExecS P r ns ops (n + 1) l (putS s n o.dst out) Q) : ExecS P r ns ops n (o :: l) s Q :=
  ⟨hg, fun n' s' => n' = n + 1 ∧ s' = putS s n o.dst out, fun W0 R0 B E a w hi hs hd K Q' hK =>
    oper_in (noDefer_spec (aop_noDefer hx) List.mem_cons_self) (step_wp hT hs (nid := n) (by omega) (N := n) (fun _ h => h) hd ((step_plain hw).2 hx) fun E' a' w' hs' => hK _ _ E' a' w' ⟨rfl, rfl⟩ (hs'.weak fun i hi => by omega)), fun n' s' ⟨e1, e2⟩ => by rw [e1, e2]; exact h⟩
theorem ExecS.slice (hT : TabOk P T) {t e : TypeId} {x : Operand} {i ie : TI} {N id j : Nat} (ho : o.op = .slice t x none none none) (hg : guardS ops ns s o = some true) (hi : T t = some i) (hk : i.kind = .array N e) (hie : T e = some ie) (hN : 0 < N) (hx : opd ns s x = some (.ptr id 0 j))
    (h : ExecS P r ns ops n l ⟨setSlot s.slots o.dst (.sl id j N (some N)), s.mem⟩ Q) : ExecS P r ns ops n (o :: l) s Q :=
  ⟨hg, fun n' s' => n' = n ∧ s' = ⟨setSlot s.slots o.dst (.sl id j N (some N)), s.mem⟩, fun W0 R0 B E a w hin hs hd K Q' hK => by
    have hr := hs.opd hx
    have hc : sliceC T i (.ptr id 0 j) none none none = some (.sl id j N (some N)) := by
      have hN' : ¬ (N : Int) = 0 := by omega
      simp [sliceC, hk, hie, hN']
    obtain ⟨z, h1, h2⟩ := sliceC_run (w := w) hT hi Bd.none Bd.none Bd.none hc hr
    refine oper_in (fun c e => by rw [ho] at e; cases e) ?_
    unfold Oper.wp
    have he : (execOp a.eval o).run P w = .ok (.value z) w := by
      simp only [execOp, ho, Sem.run_bind]
      simp [h1]
    rw [he]
    exact hK n _ E _ w ⟨rfl, rfl⟩ (hs.put hd h2), fun n' s' ⟨e1, e2⟩ => by rw [e1, e2]; exact h⟩
theorem ExecS.clear (hT : TabOk P T) {t e ty : TypeId} {x : Operand} {c : Call} {i ie : TI} {N id j cp : Nat} {cells : List SV} (ho : o.op = .call c) (hc1 : c.callee = .builtin .clear) (hc2 : c.args.toList = [x]) (hc3 : c.argTypes.toList = [t]) (hg : guardS ops ns s o = some true) (hi : T t = some i) (hk : i.kind = .slice e) (hie : T e = some ie) (hN : 0 < N) (hx : opd ns s x = some (.sl id j N (some cp))) (hm : s.mem id = some (.box ty cells false)) (hle : j + N * ie.size ≤ cells.length)
    (h : ExecS P r ns ops n l ⟨setSlot s.slots o.dst (.tup []), setMem s.mem id (some (.box ty (splice cells j (zerosC ie (N * ie.size))) false))⟩ Q) : ExecS P r ns ops n (o :: l) s Q :=
  ⟨hg, fun n' s' => n' = n ∧ s' = ⟨setSlot s.slots o.dst (.tup []), setMem s.mem id (some (.box ty (splice cells j (zerosC ie (N * ie.size))) false))⟩, fun W0 R0 B E a w hin hs hd K Q' hK => by
    rw [call_eq hc1 hc2 hc3] at ho
    have hr := hs.opd hx
    have hu := slice_und (hT t i hi) hk
    obtain ⟨inf, z0, i1, i4, i2, i3, hzs, hz⟩ := zeros_reps (E := E) (w := w) hT hie
    obtain ⟨u, hu'⟩ : ∃ u, a.eval x = u := ⟨_, rfl⟩
    rw [hu'] at hr
    cases hr with
    | sl _ _ _ _ q0 cd hdm hcd hq hnd =>
    obtain rfl := (hq (.inl hN)).symm
    have hro : ¬ E.ro (E.home id).blk := fun k => by have := (hs.frz id _ hm).2 k; cases this
    cases hs.mem id _ hm with
    | box _ _ _ cur h1 h2 h3 h4 =>
    have hR := hz (N * ie.size)
    have hlen : (madeCells z0.cells (N * ie.size)).toList.length = N * ie.size := by simp [size_madeCells]
    have hst := run_storeCells_at P (E.home id).blk j ty (madeCells z0.cells (N * ie.size)).toList 0 cur w h1 (by rw [hlen]; omega) hR.ones
    simp only [Nat.add_zero] at hst
    have hzv : (zeroValue e).run P w = .ok z0 w := by simp [zeroValue, typeInfo, i1, i4]
    have hzc : Builtin.zeroCells z0.cells N = madeCells z0.cells (N * ie.size) := by unfold Builtin.zeroCells madeCells; rw [hzs]
    obtain ⟨q, rfl⟩ : ∃ q, N = q + 1 := ⟨N - 1, by omega⟩
    have hrun : (Builtin.clear_ #[t] o.type #[.slice (some ⟨(E.home id).blk, j, none⟩) (q + 1) cd]).run P w = .ok (.tuple #[]) (w.setRow (E.home id).blk (cur.toList.take j ++ (madeCells z0.cells ((q + 1) * ie.size)).toList ++ cur.toList.drop (j + (madeCells z0.cells ((q + 1) * ie.size)).toList.length)).toArray) := by
      simp [Builtin.clear_, run_underlying hu, hzv, hzc]
      simp at hst
      rw [hst]
      simp
    have he : (execOp a.eval o).run P w = .ok (.value (.tuple #[])) (w.setRow (E.home id).blk (cur.toList.take j ++ (madeCells z0.cells ((q + 1) * ie.size)).toList ++ cur.toList.drop (j + (madeCells z0.cells ((q + 1) * ie.size)).toList.length)).toArray) := by
      simp only [execOp, ho, resolve, invoke, builtin, Sem.run_bind, Sem.run_pure, Result.andThen_ok, List.map_toArray, List.map_cons, List.map_nil, hu', hrun]
    have hw : ∀ b, E.ro b → (w.setRow (E.home id).blk (cur.toList.take j ++ (madeCells z0.cells ((q + 1) * ie.size)).toList ++ cur.toList.drop (j + (madeCells z0.cells ((q + 1) * ie.size)).toList.length)).toArray).heap[b]? = w.heap[b]? := fun b hb => setRow_other _ _ _ _ (fun e => hro (e ▸ hb))
    have hC : Reps E w cells cur.toList := ⟨by simpa using h2, h3, fun i c v hc hv => h4 i c v hc (by simpa using hv)⟩
    have hS := (hC.keep (Env.le.refl E) hw).splice (hR.keep (Env.le.refl E) hw) j (by rw [zerosC_len]; exact hle) (cur.toList.take j ++ (madeCells z0.cells ((q + 1) * ie.size)).toList ++ cur.toList.drop (j + (madeCells z0.cells ((q + 1) * ie.size)).toList.length)).toArray (by simp [size_madeCells]; omega) fun k => by
      rw [splice_at cur _ j (by rw [hlen]; omega)]
      by_cases q1 : j ≤ k ∧ k < j + (madeCells z0.cells ((q + 1) * ie.size)).toList.length
      · rw [if_pos q1, if_pos ⟨q1.1, q1.2, by rw [hlen] at q1; simp; omega⟩]
      · rw [if_neg q1, if_neg (fun q' => q1 ⟨q'.1, q'.2.1⟩)]; simp
    have h6 : Sim W0 R0 ns (· < n) ⟨s.slots, setMem s.mem id (some (.box ty (splice cells j (zerosC ie ((q + 1) * ie.size))) false))⟩ E a (w.setRow (E.home id).blk (cur.toList.take j ++ (madeCells z0.cells ((q + 1) * ie.size)).toList ++ cur.toList.drop (j + (madeCells z0.cells ((q + 1) * ie.size)).toList.length)).toArray) :=
      hs.write hm rfl rfl (grown_setRow _ _ _) (.box ty _ _ _ (setRow_heap _ _ _ _ _ _ h1) (by simpa using hS.1) hS.2.1 fun i c v hc hv => hS.2.2 i c v hc (by simpa using hv))
    refine oper_in (fun c e => by rw [ho] at e; cases e) ?_
    unfold Oper.wp
    rw [he]
    exact hK n _ E _ _ ⟨rfl, rfl⟩ (h6.put hd (.tup [] #[] rfl (by simp))), fun n' s' ⟨e1, e2⟩ => by rw [e1, e2]; exact h⟩
end
end Go.Proofs.Ytdkneonokbakjaa.Eng

noncomputable section
namespace Go.Proofs.Ytdkneonokbakjaa.Eng
open Go.RowKit
set_option maxRecDepth 100000
set_option maxHeartbeats 8000000
theorem whS_congr {s : RS} {ps : List Int} {A B : Rgs} (h : ∀ j, j < 12 → A j = B j) : whS s ps A = whS s ps B := by
  have e : ∀ A : Rgs, spS A = [.d (iD (A 0).1), .d (iD (A 0).2), .d (iD (A 1).1), .d (iD (A 1).2), .d (iD (A 2).1), .d (iD (A 2).2), .d (iD (A 3).1), .d (iD (A 3).2), .d (iD (A 4).1), .d (iD (A 4).2), .d (iD (A 5).1), .d (iD (A 5).2), .d (iD (A 6).1), .d (iD (A 6).2), .d (iD (A 7).1), .d (iD (A 7).2), .d (iD (A 8).1), .d (iD (A 8).2), .d (iD (A 9).1), .d (iD (A 9).2), .d (iD (A 10).1), .d (iD (A 10).2), .d (iD (A 11).1), .d (iD (A 11).2)] := fun _ => rfl
  unfold whS
  rw [e A, e B, h 0 (by decide), h 1 (by decide), h 2 (by decide), h 3 (by decide), h 4 (by decide), h 5 (by decide), h 6 (by decide), h 7 (by decide), h 8 (by decide), h 9 (by decide), h 10 (by decide), h 11 (by decide)]
theorem WhAt.congr {s : RS} {ps : List Int} {A B : Rgs} {w : Nat} {m : Mem} (h : WhAt s ps A w m) (hb : ∀ j, j < 12 → B j = A j) : WhAt s ps B w m := by
  unfold WhAt
  rw [whS_congr hb]
  exact h
theorem WhAt.only {s : RS} {ps : List Int} {A : Rgs} {w : Nat} {m : Mem} (h : WhAt s ps A w m) : WhAt s ps A w (only m [w]) := by
  show Eng.only m [w] w = _
  rw [only_at, if_pos List.mem_cons_self]
  exact h
theorem wh_put (s : RS) (ps : List Int) (A : Rgs) {k : Nat} (hk : k < 12) (a b : Int) : List.take (6 + k * 2) (whS s ps A) ++ .d (iD a) :: .d (iD b) :: List.drop (6 + k * 2 + 2) (whS s ps A) = whS s ps fun j => if j = k then (a, b) else A j := by
  have h : ∀ p : Fin 12, List.take (6 + p.1 * 2) (whS s ps A) ++ .d (iD a) :: .d (iD b) :: List.drop (6 + p.1 * 2 + 2) (whS s ps A) = whS s ps fun j => if j = p.1 then (a, b) else A j := by
    intro p
    match p with
    | ⟨0, _⟩ => rfl
    | ⟨1, _⟩ => rfl
    | ⟨2, _⟩ => rfl
    | ⟨3, _⟩ => rfl
    | ⟨4, _⟩ => rfl
    | ⟨5, _⟩ => rfl
    | ⟨6, _⟩ => rfl
    | ⟨7, _⟩ => rfl
    | ⟨8, _⟩ => rfl
    | ⟨9, _⟩ => rfl
    | ⟨10, _⟩ => rfl
    | ⟨11, _⟩ => rfl
  exact h ⟨k, hk⟩
theorem use_w {s : RS} {ps : List Int} {A : Rgs} {w : Nat} {m : Mem} (hm : WhAt s ps A w m) (ok : StoOk s ps) (Y : SV) (hY : FnV Y) (mt : Nat → Bool) (n : Nat) (hw : w < n)
    (hM : ∀ p, p < ps.length → ∀ (n' : Nat) (m' : Mem) (B : Rgs), n ≤ n' → WhAt s ps B w m' → (∀ j, j < n → j ≠ w → m' j = m j) → YCall Try.prog Y [.d (iD p)] n' m' fun y n'' m'' => n' ≤ n'' ∧ y = .d (bD (mt p)) ∧ ∀ j, j < n' → m'' j = m' j) :
    CWp Try.prog 84 [.ptr w 0 0, Y] n m fun y n' m' => n ≤ n' ∧ y = .tup [] ∧ WhAt s ps (allR s ps mt) w m' ∧ ∀ j, j < n → j ≠ w → m' j = m j := by
  obtain ⟨hY1, hY2⟩ := hY
  have n2 := ok.n2
  have hl := whS_len s ps
  have hz : splice (whS s ps A) 6 (zerosC { size := 2, bytes := 16, zero := [.int .i64 0, .int .i64 0], kind := .struct [(0, 2), (1, 2)], eqk := [.i64, .i64] } (12 * 2)) = whS s ps fun _ => (0, 0) := by rfl
  refine cwpK tabOk Try.func84 rfl rfl (show 2 ≤ _ by decide) rfl fun _ => ?_; simp only [Try.ntmps84]
  refine AWi.seqK fun _ => ?_
  refine AWi.regionS ?_
  refine ExecS.plain tabOk (out := { res := .ptr w 0 0 }) rfl rfl (by simp [-getElem?_pos, z0, z1, z2]) ?_
  refine ExecS.plain tabOk (out := { res := .ptr w 0 0 }) rfl rfl (by simp [-getElem?_pos, z0, z1, z2, hm]) ?_
  refine ExecS.plain tabOk (out := { res := .ptr w 0 6 }) rfl rfl (by simp [-getElem?_pos, z0, z1, z2, hm]) ?_
  refine ExecS.slice tabOk (N := 12) (id := w) (j := 6) rfl rfl (TB81) rfl (TB23) (by decide) (by simp [-getElem?_pos, z0, z1, z2]) ?_
  refine ExecS.clear tabOk (ty := 83) (N := 12) (id := w) (j := 6) (cp := 12) (cells := whS s ps A) rfl rfl rfl rfl rfl (TB74) rfl (TB23) (by decide) (by simp [-getElem?_pos, z0, z1, z2]) (by simp [putS, hm]) (by simp) ?_
  rw [show splice _ _ _ = _ from hz]
  simp [putS, ExecS]
  with_reducible refine KI.go ?_
  repeat (first | (with_reducible first | refine AWi.seqK fun _ => ?_ | refine AWi.blockK fun _ => ?_ | refine KI.go ?_) | ((first | refine AWi.region tabOk ?_ | refine AWi.condK fun _ _ => ?_ | refine AWi.draws tabOk rfl (by kernel_rfl) (by kernel_rfl) ?_); simp [-getElem?_pos, z0, z1, z2, hl]) | ((first | refine AWi.ret ?_ | refine AWi.skip ?_ | refine AWi.exit ?_); try simp only [thenP]) | (with_reducible refine BB.go ?_; simp only [blockP, thenP, reduceIte]) | (with_reducible refine And.intro (okLog_c (by simp [footOf, guardSlot, slotsOf, idsRead, looks, idsOf, idsOf1, idsWritten, colF]; kernel_rfl)) ?_))
  refine AWi.loopK (fun (k : Nat) n1 t => n ≤ n1 ∧ k ≤ ps.length ∧ t.slots 0 = .ptr w 0 0 ∧ t.slots 1 = Y ∧ t.slots 13 = .d (iD ps.length) ∧ t.slots 14 = .d (iD k) ∧ WhAt s ps (fun j => if j < k then allR s ps mt j else (0, 0)) w t.mem ∧ ∀ j, j < n → j ≠ w → t.mem j = m j) (fun k => ps.length - k) 0 ?_ ?_
  · refine ⟨by omega, Nat.zero_le _, by simp, by simp, by simp [iD], by simp [iD], ?_, fun j h1 h2 => ?_⟩
    · exact if_pos rfl
    · simp [h2]
  rintro k n1 t ⟨r0, r1, t0, t1, t13, t14, tm, tl⟩ kk
  have w1 : IntKind.i64.wrap ((k : Int) + 1) = (k : Int) + 1 := wrap64_in (by omega)
  by_cases hlt : k < ps.length
  · have hii : (k : Int) < ps.length := by omega
    obtain ⟨tu, htu⟩ : ∃ tu, ps[k]? = some tu := ⟨_, List.getElem?_eq_getElem hlt⟩
    repeat (first | (with_reducible first | refine AWi.seqK fun _ => ?_ | refine AWi.blockK fun _ => ?_ | refine KI.go ?_) | ((first | refine AWi.region tabOk ?_ | refine AWi.condK fun _ _ => ?_); simp [-getElem?_pos, z0, z1, z2, t0, t1, t13, t14, hii]) | ((first | refine AWi.ret ?_ | refine AWi.skip ?_ | refine AWi.exit ?_); try simp only [thenP]) | (with_reducible refine BB.go ?_; simp only [blockP, thenP, reduceIte]))
    refine ExecI.callY (Y := Y) (xs := [.d (iD k)]) (hM k hlt _ _ _ (by omega) tm tl) (by simp [-getElem?_pos, z0, z1, z2]) (by simp [calleeV, evList]) ?_
    rintro y n2 m2 ⟨q1, rfl, q3⟩
    have tm2 : WhAt s ps (fun j => if j < k then allR s ps mt j else (0, 0)) w m2 := (q3 w (by omega)).trans tm
    have hall : allR s ps mt k = if mt k then spR s tu else (0, 0) := by rw [allR, htu]
    cases hmt : mt k with
    | false =>
      rw [hmt] at hall
      simp [-getElem?_pos, z0, z1, z2]
      repeat (first | (with_reducible first | refine AWi.seqK fun _ => ?_ | refine AWi.blockK fun _ => ?_ | refine KI.go ?_) | ((first | refine AWi.region tabOk ?_ | refine AWi.condK fun _ _ => ?_); simp [-getElem?_pos, z0, z1, z2, t14, w1]) | ((first | refine AWi.ret ?_ | refine AWi.skip ?_ | refine AWi.exit ?_); try simp only [thenP]) | (with_reducible refine BB.go ?_; simp only [blockP, thenP, reduceIte]))
      refine LI.go (k + 1) ⟨by omega, hlt, by simp [t0], by simp [t1], by simp [t13], by simp [iD], tm2.congr fun j _ => ?_, fun j h1 h2 => (q3 j (by omega)).trans (tl j h1 h2)⟩ (by omega)
      by_cases h1 : j < k
      · rw [if_pos h1, if_pos (by omega)]
      · by_cases h2 : j = k
        · subst h2; rw [if_pos (by omega), if_neg h1, hall]; rfl
        · rw [if_neg h1, if_neg (by omega)]
    | true =>
      rw [hmt, if_pos rfl] at hall
      simp [-getElem?_pos, z0, z1, z2]
      repeat (first | (with_reducible first | refine AWi.seqK fun _ => ?_ | refine AWi.blockK fun _ => ?_ | refine KI.go ?_) | ((first | refine AWi.region tabOk ?_ | refine AWi.condK fun _ _ => ?_); simp [-getElem?_pos, z0, z1, z2, t0, t14, tm2]) | ((first | refine AWi.ret ?_ | refine AWi.skip ?_ | refine AWi.exit ?_); try simp only [thenP]) | (with_reducible refine BB.go ?_; simp only [blockP, thenP, reduceIte]))
      have hk12 : k < 12 := by omega
      have hk12i : (k : Int) < 12 := by omega
      have hput := wh_put s ps (fun j => if j < k then allR s ps mt j else (0, 0)) hk12 (spR s tu).1 (spR s tu).2
      have hwn2 : w < n2 := by omega
      have hle : 6 + k * 2 + 2 ≤ 30 := by omega
      refine AWi.drawsT tabOk mixedR 8 (by kernel_rfl) (by kernel_rfl) ?_
      simp only [List.take_succ_cons, List.take_zero, List.drop_succ_cons, List.drop_zero]
      repeat (with_reducible refine ExecV.auto tabOk ?_; simp [-getElem?_pos, z0, z1, z2, kindV, isPure, t0, tm2, hwn2]; try (refine And.intro (OkV_old (by simp; try omega) (by omega) (by simp [AllAcc])) ?_))
      refine ExecV.ro (x := .agg [.d (iD (spR s tu).1), .d (iD (spR s tu).2)]) (d := rngD (spR s tu)) (svs := [.ptr w 0 0, .d (iD k)]) [w] (RCall.of3 (n0 := w + 1) fun nn hnn => span_w (A := fun j => if j < k then allR s ps mt j else (0, 0)) tm2.only ok.g htu (ok.turn htu) nn (by omega)) rfl rfl (by simp [calleeS, evList]) (OkV_old (by simp; try omega) (by omega) (by simp [AllAcc])) ?_
      repeat (with_reducible refine ExecV.auto tabOk ?_; simp [-getElem?_pos, z0, z1, z2, kindV, isPure, t0, tm2, hwn2, hk12, hk12i, hl, hle]; try (refine And.intro (OkV_old (by simp; try omega) (by omega) (by simp [AllAcc])) ?_))
      unfold ExecV
      simp [-getElem?_pos, z0, z1, z2, tm2, hle, hput]
      repeat (first | (with_reducible first | refine AWi.seqK fun _ => ?_ | refine AWi.blockK fun _ => ?_ | refine KI.go ?_) | ((first | refine AWi.region tabOk ?_ | refine AWi.condK fun _ _ => ?_); simp [-getElem?_pos, z0, z1, z2, t14, w1]) | ((first | refine AWi.ret ?_ | refine AWi.skip ?_ | refine AWi.exit ?_); try simp only [thenP]) | (with_reducible refine BB.go ?_; simp only [blockP, thenP, reduceIte]))
      refine LI.go (k + 1) ⟨by omega, hlt, by simp [t0], by simp [t1], by simp [t13], by simp [iD], WhAt.congr (A := fun j => if j = k then ((spR s tu).1, (spR s tu).2) else if j < k then allR s ps mt j else (0, 0)) (if_pos rfl) fun j _ => ?_, fun j h1 h2 => (if_neg h2).trans ((q3 j (by omega)).trans (tl j h1 h2))⟩ (by omega)
      by_cases h1 : j < k
      · rw [if_pos (by omega), if_neg (by omega), if_pos h1]
      · by_cases h2 : j = k
        · subst h2; rw [if_pos (by omega), if_pos rfl, hall]
        · rw [if_neg (by omega), if_neg h2, if_neg h1]
  · obtain rfl : k = ps.length := by omega
    repeat (first | (with_reducible first | refine AWi.seqK fun _ => ?_ | refine AWi.blockK fun _ => ?_ | refine KI.go ?_) | ((first | refine AWi.region tabOk ?_ | refine AWi.condK fun _ _ => ?_); simp [-getElem?_pos, z0, z1, z2, t13, t14]) | ((first | refine AWi.ret ?_ | refine AWi.skip ?_ | refine AWi.exit ?_); try simp only [thenP]) | (with_reducible refine BB.go ?_; simp only [blockP, thenP, reduceIte]))
    refine RI.normal rfl ⟨by omega, rfl, WhAt.congr (m := t.mem) tm fun j _ => ?_, tl⟩
    by_cases h1 : j < ps.length
    · rw [if_pos h1]
    · rw [if_neg h1, allR, List.getElem?_eq_none (by omega)]
theorem newWheel_w {s : RS} {ps : List Int} (ok : StoOk s ps) (n : Nat) (m : Mem) :
    CWp Try.prog 74 [.agg (sto5 s), .d (intL ps)] n m fun y n' m' => n ≤ n' ∧ (∃ w, n ≤ w ∧ w < n' ∧ y = .ptr w 0 0 ∧ WhAt s ps (allR s ps fun _ => true) w m') ∧ ∀ j, j < n → m' j = m j := by
  refine cwpK tabOk Try.func74 rfl rfl (show 2 ≤ _ by decide) rfl fun _ => ?_; simp only [Try.ntmps74]
  repeat (first | (with_reducible first | refine AWi.seqK fun _ => ?_ | refine AWi.blockK fun _ => ?_ | refine KI.go ?_) | ((first | refine AWi.region tabOk ?_ | refine AWi.condK fun _ _ => ?_); simp [-getElem?_pos, z0, z1, z2, z0]) | ((first | refine AWi.ret ?_ | refine AWi.skip ?_ | refine AWi.exit ?_); try simp only [thenP]) | (with_reducible refine BB.go ?_; simp only [blockP, thenP, reduceIte]))
  refine ExecI.callC (use_w (s := s) (ps := ps) (A := fun _ => (0, 0)) (w := n + 1 + 1 + 1 + 1 + 1) (if_pos rfl) ok (.fn 50 [.ptr (n + 1 + 1 + 1 + 1 + 1) 0 0] []) ⟨rfl, rfl⟩ (fun _ => true) _ (by omega) fun p hp n' m' B h1 h2 _ => YCall.fn ((isPulley_w h2 p n').mono fun y n2 m2 ⟨q1, _, e1, e2⟩ => ⟨q1, by rw [e1, decide_eq_true (by omega)], fun _ _ => by rw [e2]⟩)) rfl (by simp [calleeS, evList]) ?_
  rintro y n2 m2 ⟨q1, rfl, q3, q4⟩
  simp
  repeat (first | (with_reducible first | refine AWi.seqK fun _ => ?_ | refine AWi.blockK fun _ => ?_ | refine KI.go ?_) | ((first | refine AWi.region tabOk ?_ | refine AWi.condK fun _ _ => ?_); simp [-getElem?_pos, z0, z1, z2, z0]) | ((first | refine AWi.ret ?_ | refine AWi.skip ?_ | refine AWi.exit ?_); try simp only [thenP]) | (with_reducible refine BB.go ?_; simp only [blockP, thenP, reduceIte]))
  refine RI.ret rfl ⟨by omega, ⟨_, by omega, by omega, rfl, q3⟩, fun j hj => (q4 j (by omega) (by omega)).trans (by (try dsimp only); repeat (first | rw [setMem_lt (by omega)] | rw [putN_lt (by omega)]))⟩
def whP (s : RS) (ps : List Int) (n n' : Nat) (m m' : Mem) (y : SV) : Prop := if stoE s ps = 0 then ∃ w, n ≤ w ∧ w < n' ∧ y = .tup [.ptr w 0 0, .d (iD 0)] ∧ WhAt s ps (allR s ps fun _ => true) w m' else y = .tup [.d (.val (.pointer none)), .d (iD (stoE s ps))]
theorem check_w (s : RS) (ps : List Int) (hl : ps.length ≤ 1000000) (n : Nat) (m : Mem) :
    CWp Try.prog 49 [.agg (sto5 s), .d (intL ps)] n m fun y n' m' => n ≤ n' ∧ whP s ps n n' m m' y ∧ ∀ j, j < n → m' j = m j := by
  have cs := checkStone_c s ps hl
  by_cases h0 : stoE s ps = 0
  · rw [h0] at cs
    refine cwpK tabOk Try.func49 rfl rfl (show 2 ≤ _ by decide) rfl fun _ => ?_; simp only [Try.ntmps49]
    repeat (first | (with_reducible first | refine AWi.seqK fun _ => ?_ | refine AWi.blockK fun _ => ?_ | refine KI.go ?_) | ((first | refine AWi.region tabOk ?_ | refine AWi.condK fun _ _ => ?_); simp [-getElem?_pos, z0, z1, z2, z0]) | ((first | refine AWi.ret ?_ | refine AWi.skip ?_ | refine AWi.exit ?_); try simp only [thenP]) | (with_reducible refine BB.go ?_; simp only [blockP, thenP, reduceIte]))
    refine ExecI.call [] cs ?_ rfl ?_ ?_; (focus simp [-getElem?_pos, ]); (focus simp [-getElem?_pos, z0, z1, z2, ]); simp [-getElem?_pos, z0, z1, z2, ]
    repeat (first | (with_reducible first | refine AWi.seqK fun _ => ?_ | refine AWi.blockK fun _ => ?_ | refine KI.go ?_) | ((first | refine AWi.region tabOk ?_ | refine AWi.condK fun _ _ => ?_); simp [-getElem?_pos, z0, z1, z2, z0]) | ((first | refine AWi.ret ?_ | refine AWi.skip ?_ | refine AWi.exit ?_); try simp only [thenP]) | (with_reducible refine BB.go ?_; simp only [blockP, thenP, reduceIte]))
    refine ExecI.callC (newWheel_w (stoE_ok.1 h0) _ _) rfl (by simp [calleeS, evList]) ?_
    rintro y n2 m2 ⟨q1, ⟨w, h1, h2, rfl, h3⟩, q4⟩
    simp
    repeat (first | (with_reducible first | refine AWi.seqK fun _ => ?_ | refine AWi.blockK fun _ => ?_ | refine KI.go ?_) | ((first | refine AWi.region tabOk ?_ | refine AWi.condK fun _ _ => ?_); simp [-getElem?_pos, z0, z1, z2, z0]) | ((first | refine AWi.ret ?_ | refine AWi.skip ?_ | refine AWi.exit ?_); try simp only [thenP]) | (with_reducible refine BB.go ?_; simp only [blockP, thenP, reduceIte]))
    refine RI.ret rfl ⟨by omega, ?_, fun j hj => (q4 j (by omega)).trans (by (try dsimp only); repeat (first | rw [setMem_lt (by omega)] | rw [putN_lt (by omega)]))⟩
    rw [whP, if_pos h0]
    exact ⟨w, by omega, by omega, rfl, h3⟩
  · refine cwpK tabOk Try.func49 rfl rfl (show 2 ≤ _ by decide) rfl fun _ => ?_; simp only [Try.ntmps49]
    repeat (first | (with_reducible first | refine AWi.seqK fun _ => ?_ | refine AWi.blockK fun _ => ?_ | refine KI.go ?_) | ((first | refine AWi.region tabOk ?_ | refine AWi.condK fun _ _ => ?_); simp [-getElem?_pos, z0, z1, z2, z0]) | ((first | refine AWi.ret ?_ | refine AWi.skip ?_ | refine AWi.exit ?_); try simp only [thenP]) | (with_reducible refine BB.go ?_; simp only [blockP, thenP, reduceIte]))
    refine ExecI.call [] cs ?_ rfl ?_ ?_; (focus simp [-getElem?_pos, ]); (focus simp [-getElem?_pos, z0, z1, z2, ]); simp [-getElem?_pos, z0, z1, z2, ]
    repeat (first | (with_reducible first | refine AWi.seqK fun _ => ?_ | refine AWi.blockK fun _ => ?_ | refine KI.go ?_) | ((first | refine AWi.region tabOk ?_ | refine AWi.condK fun _ _ => ?_); simp [-getElem?_pos, z0, z1, z2, h0]) | ((first | refine AWi.ret ?_ | refine AWi.skip ?_ | refine AWi.exit ?_); try simp only [thenP]) | (with_reducible refine BB.go ?_; simp only [blockP, thenP, reduceIte]))
    refine RI.ret rfl ⟨by omega, ?_, fun j hj => by (try dsimp only); repeat (first | rw [setMem_lt (by omega)] | rw [putN_lt (by omega)])⟩
    rw [whP, if_neg h0]
    rfl
end Go.Proofs.Ytdkneonokbakjaa.Eng

noncomputable section
namespace Go.Proofs.Ytdkneonokbakjaa.Eng
open Go.RowKit
set_option maxRecDepth 100000
set_option maxHeartbeats 8000000
theorem AWi.scope0 {P : Program} {r : Option Nat} {ns n : Nat} {c : Code} {s : St} {Q : Post} (h : AWi P r ns c n s (fun e n s => (∀ l, e ≠ .goto l) ∧ Q e n s)) : AWi P r ns (.scope c) n s Q :=
  AWi.scope (AWs.of (h.mono fun e n s ⟨h1, h2⟩ => by
    cases e with
    | goto l => exact absurd rfl (h1 l)
    | _ => exact h2))
section
variable {P : Program} {r : Option Nat} {ops : Array Oper} {ns n : Nat} {o : Oper} {l : List Oper} {s : St} {Q : Nat → St → Prop}
theorem ExecS.bigeq {T0 : QTab} (hQ : QTabOk P T0) {t tt : TypeId} {x y : Operand} {X Y z0 : SV} (ho : o.op = .binOp .eql t x y tt) (hg : guardS ops ns s o = some true) (hx : opd ns s x = some X) (hy : opd ns s y = some Y) (h0 : bigEq T0 .eql t X Y = some z0)
    (h : ExecS P r ns ops n l ⟨setSlot s.slots o.dst z0, s.mem⟩ Q) : ExecS P r ns ops n (o :: l) s Q :=
  ⟨hg, fun n' s' => n' = n ∧ s' = ⟨setSlot s.slots o.dst z0, s.mem⟩, fun W0 R0 B E a w hin hs hd K Q' hK => by
    have hr1 := hs.opd hx
    have hr2 := hs.opd hy
    obtain ⟨z, h1, h2⟩ := bigEq_run hQ h0 hr1 hr2 x y
    refine oper_in (fun c e => by rw [ho] at e; cases e) ?_
    unfold Oper.wp
    have he : (execOp a.eval o).run P w = .ok (.value z) w := by
      simp only [execOp, ho, Sem.run_bind] at h1 ⊢
      simp [h1]
    rw [he]
    exact hK n _ E _ w ⟨rfl, rfl⟩ (hs.put hd h2), fun n' s' ⟨e1, e2⟩ => by rw [e1, e2]; exact h⟩
end
def endsL (A : Rgs) : List Int := (List.range 12).flatMap fun j => [(A j).1, (A j).2]
theorem spS_map (A : Rgs) : spS A = (endsL A).map (SV.d ∘ iD) := rfl
theorem cmpL_ints {per : List CK} (hper : ∀ i : Nat, per[i % per.length]? = some (.int .i64)) : ∀ (xs ys : List Int) (i : Nat), xs.length = ys.length → (∀ x ∈ xs, (Lit.int .i64 x).wf = true) → (∀ x ∈ ys, (Lit.int .i64 x).wf = true) → cmpL per i (xs.map (SV.d ∘ iD)) (ys.map (SV.d ∘ iD)) = some (decide (xs = ys))
  | [], [], i, _, _, _ => by simp [cmpL]
  | x :: xs, y :: ys, i, h, hx, hy => by
    have ih := cmpL_ints hper xs ys (i + 1) (by simpa using h) (fun a ha => hx a (List.mem_cons_of_mem _ ha)) fun a ha => hy a (List.mem_cons_of_mem _ ha)
    have h1 := hx x List.mem_cons_self
    have h2 := hy y List.mem_cons_self
    have e := hper i
    simp only [List.map_cons, Function.comp_apply, cmpL, e, ih, okCell, h1, h2, and_self, if_true, same, Option.some.injEq]
    rw [Bool.eq_iff_iff]
    simp
  | [], _ :: _, _, h, _, _ => by simp at h
  | _ :: _, [], _, h, _, _ => by simp at h
theorem wf64 {x : Int} (h1 : -9223372036854775808 ≤ x) (h2 : x ≤ 9223372036854775807) : (Lit.int .i64 x).wf = true := by
  have e1 : IntKind.i64.min = -9223372036854775808 := by decide
  have e2 : IntKind.i64.max = 9223372036854775807 := by decide
  simp only [Lit.wf, e1, e2, Bool.and_eq_true, decide_eq_true_eq]
  exact ⟨h1, h2⟩
theorem allR_in {s : RS} {ps : List Int} (ok : StoOk s ps) (j : Nat) : -1000000000 ≤ (allR s ps (fun _ => true) j).1 ∧ (allR s ps (fun _ => true) j).1 ≤ 2000000000 ∧ -1000000000 ≤ (allR s ps (fun _ => true) j).2 ∧ (allR s ps (fun _ => true) j).2 ≤ 2000000000 := by
  have hg := ok.g
  have := hg.s1; have := hg.s2; have := hg.s3; have := hg.o1; have := hg.o2; have := hg.l1; have := hg.l2; have := hg.l3
  unfold allR
  cases hj : ps[j]? with
  | none => simp
  | some t =>
    obtain ⟨t1, t2⟩ := ok.turn hj
    simp only [if_true, spR]
    split
    · simp
    · have a1 : 0 ≤ (s.lo + t - 1) / t := Int.ediv_nonneg (by omega) (by omega)
      have a2 : (s.lo + t - 1) / t ≤ 1000010000 := Int.le_trans (Int.ediv_le_self _ (by omega)) (by omega)
      have b1 : 0 ≤ s.hi / t := Int.ediv_nonneg (by omega) (by omega)
      have b2 : s.hi / t ≤ 1000000000 := Int.le_trans (Int.ediv_le_self _ (by omega)) (by omega)
      simp only [betR]
      omega
theorem ends_zero_iff (A : Rgs) : endsL A = List.replicate 24 0 ↔ ∀ j, j < 12 → A j = (0, 0) := by
  constructor
  · intro h j hj
    have e : endsL A = [(A 0).1, (A 0).2, (A 1).1, (A 1).2, (A 2).1, (A 2).2, (A 3).1, (A 3).2, (A 4).1, (A 4).2, (A 5).1, (A 5).2, (A 6).1, (A 6).2, (A 7).1, (A 7).2, (A 8).1, (A 8).2, (A 9).1, (A 9).2, (A 10).1, (A 10).2, (A 11).1, (A 11).2] := rfl
    rw [e] at h
    simp only [List.replicate, List.cons.injEq, and_true] at h
    have : j = 0 ∨ j = 1 ∨ j = 2 ∨ j = 3 ∨ j = 4 ∨ j = 5 ∨ j = 6 ∨ j = 7 ∨ j = 8 ∨ j = 9 ∨ j = 10 ∨ j = 11 := by omega
    rcases this with rfl | rfl | rfl | rfl | rfl | rfl | rfl | rfl | rfl | rfl | rfl | rfl <;> exact Prod.ext (by simp [h]) (by simp [h])
  · intro h
    have e : endsL A = [(A 0).1, (A 0).2, (A 1).1, (A 1).2, (A 2).1, (A 2).2, (A 3).1, (A 3).2, (A 4).1, (A 4).2, (A 5).1, (A 5).2, (A 6).1, (A 6).2, (A 7).1, (A 7).2, (A 8).1, (A 8).2, (A 9).1, (A 9).2, (A 10).1, (A 10).2, (A 11).1, (A 11).2] := rfl
    rw [e, h 0 (by decide), h 1 (by decide), h 2 (by decide), h 3 (by decide), h 4 (by decide), h 5 (by decide), h 6 (by decide), h 7 (by decide), h 8 (by decide), h 9 (by decide), h 10 (by decide), h 11 (by decide)]
    rfl
theorem gap_12 {s : RS} {ps : List Int} (ok : StoOk s ps) : gapR (allR s ps fun _ => true) 12 s.long s.short = gapR (betA s ps) ps.length s.long s.short := by
  have hs := ok.g.s1
  have n2 := ok.n2
  rw [← (runs_bet ok (n := ps.length) (Int.le_refl s.short) s.long).2]
  have hno : ∀ j x, ps.length ≤ j → s.short ≤ x → bearB (allR s ps fun _ => true) j x = false := fun j x hj hx => by
    rw [bearB, allR, List.getElem?_eq_none hj]
    exact decide_eq_false (by simp only; omega)
  cases hg : gapR (allR s ps fun _ => true) ps.length s.long s.short with
  | none =>
    refine gap_all fun z h1 h2 => ?_
    obtain ⟨j, hj, hb⟩ := gap_none hg z h1 h2
    exact ⟨j, by omega, hb⟩
  | some y =>
    have g := gap_some hg
    refine gap_eq ⟨g.le, g.ge, fun j hj => ?_, fun z h1 h2 => ?_⟩
    · by_cases hl : j < ps.length
      · exact g.no j hl
      · exact hno j y (by omega) g.ge
    · obtain ⟨j, hj, hb⟩ := g.all z h1 h2
      exact ⟨j, by omega, hb⟩
def gapV2 (s : RS) (ps : List Int) : SV := match gapR (betA s ps) ps.length s.long s.short with
  | some y => .tup [.d (iD y), .d (bD true)]
  | none => .tup [.d (iD 0), .d (bD false)]
theorem WhAt.set {s : RS} {ps : List Int} {A : Rgs} {w j : Nat} {m : Mem} {b : Option Blk} (h : WhAt s ps A w m) (hj : w ≠ j) : WhAt s ps A w (setMem m j b) := (if_neg hj).trans h
theorem allR_ge {s : RS} {ps : List Int} (ok : StoOk s ps) {j : Nat} {x : Int} (hx : s.short ≤ x) (hb : bearB (allR s ps fun _ => true) j x = true) : s.short ≤ (allR s ps (fun _ => true) j).1 := by
  have h1 := bear_val ok hx hb
  rw [bear_bet ok hx] at hb
  rw [h1]
  exact (bet_ge hb).1
theorem big_eq {s : RS} {ps : List Int} (ok : StoOk s ps) : bigEq QT .eql 81 (.agg (spS (allR s ps fun _ => true))) (.agg (List.replicate 24 (.d (iD 0)))) = some (.d (bD (decide (endsL (allR s ps fun _ => true) = List.replicate 24 0)))) := by
  have e1 : (List.replicate 24 (SV.d (iD 0))) = (List.replicate 24 (0 : Int)).map (SV.d ∘ iD) := rfl
  have hc := cmpL_ints (per := [.int .i64, .int .i64]) (fun i => by
      have : i % 2 = 0 ∨ i % 2 = 1 := by omega
      rcases this with h | h <;> simp [h]) (endsL (allR s ps fun _ => true)) (List.replicate 24 0) 0 rfl (fun x hx => by
      rw [endsL, List.mem_flatMap] at hx
      obtain ⟨j, -, hj⟩ := hx
      have := allR_in ok j
      simp at hj
      rcases hj with rfl | rfl
      · exact wf64 (by omega) (by omega)
      · exact wf64 (by omega) (by omega)) fun x hx => by
      have := (List.mem_replicate.1 hx).2
      subst this
      rfl
  rw [← e1, ← spS_map] at hc
  unfold bigEq QT
  simp [SV.one, SV.fit, SV.cells, hc, -List.reduceReplicate]
theorem gap_w {s : RS} {ps : List Int} (ok : StoOk s ps) {w : Nat} {m : Mem} (hm : WhAt s ps (allR s ps fun _ => true) w m) (n : Nat) (hw : w < n) :
    CWp Try.prog 52 [.ptr w 0 0] n m fun y n' m' => n ≤ n' ∧ y = gapV2 s ps ∧ ∀ j, j < n → m' j = m j := by
  have hg := ok.g
  have g1 := hg.s1; have g2 := hg.s2; have g3 := hg.s3
  have hl := whS_len s ps
  have hG := gap_12 ok
  have hsame : ∀ r, gapR (betA s ps) ps.length s.long s.short = r → gapV2 s ps = (match r with | some y => .tup [.d (iD y), .d (bD true)] | none => .tup [.d (iD 0), .d (bD false)]) := fun r h => by rw [gapV2, h]
  have hbig := big_eq ok
  by_cases hz : endsL (allR s ps fun _ => true) = List.replicate 24 0
  · have hno := (ends_zero_iff _).1 hz
    have hgap : gapR (betA s ps) ps.length s.long s.short = some s.long := by
      rw [← hG]
      exact gap_eq ⟨Int.le_refl _, g2, fun j hj => by rw [bearB, hno j hj]; exact decide_eq_false (by simp only; omega), fun z h1 h2 => by omega⟩
    rw [decide_eq_true hz] at hbig
    refine cwpK tabOk Try.func52 rfl rfl (show 1 ≤ _ by decide) rfl fun _ => ?_; simp only [Try.ntmps52]
    repeat (first | (with_reducible first | refine AWi.seqK fun _ => ?_ | refine AWi.blockK fun _ => ?_ | refine KI.go ?_) | (refine AWi.condK fun _ _ => ?_; simp [-getElem?_pos, z0, z1, z2, z0]) | ((first | refine AWi.ret ?_ | refine AWi.skip ?_ | refine AWi.exit ?_); try simp only [thenP]) | (with_reducible refine BB.go ?_; simp only [blockP, thenP, reduceIte]))
    refine AWi.region tabOk ?_
    simp [-getElem?_pos, z0, z1, z2]
    with_reducible refine KI.go ?_
    refine AWi.scope0 ?_
    repeat (first | (with_reducible first | refine AWi.seqK fun _ => ?_ | refine AWi.blockK fun _ => ?_ | refine KI.go ?_) | (refine AWi.condK fun _ _ => ?_; simp [-getElem?_pos, z0, z1, z2, z0]) | ((first | refine AWi.ret ?_ | refine AWi.skip ?_ | refine AWi.exit ?_); try simp only [thenP]) | (with_reducible refine BB.go ?_; simp only [blockP, thenP, reduceIte]))
    refine AWi.regionS ?_
    refine ExecS.plain tabOk (out := { res := .ptr w 0 0 }) rfl rfl (by simp [-getElem?_pos, z0, z1, z2]) ?_
    refine ExecS.plain tabOk (out := { res := .ptr w 0 0 }) rfl rfl (by simp [-getElem?_pos, z0, z1, z2, hm]) ?_
    refine ExecS.plain tabOk (out := { res := .ptr w 0 6 }) rfl rfl (by simp [-getElem?_pos, z0, z1, z2, hm]) ?_
    refine ExecS.plain tabOk (out := { res := .agg (spS (allR s ps fun _ => true)) }) rfl rfl (by simp [-getElem?_pos, z0, z1, z2, hm]) ?_
    refine ExecS.plain tabOk (out := { res := .agg (List.replicate 24 (.d (iD 0))) }) rfl rfl (by simp [-getElem?_pos, z0, z1, z2]) ?_
    refine ExecS.bigeq (T0 := QT) qtOk (X := .agg (spS (allR s ps fun _ => true))) (Y := .agg (List.replicate 24 (.d (iD 0)))) rfl rfl (by simp [-getElem?_pos, z0, z1, z2]) (by simp [-getElem?_pos, z0, z1, z2]) hbig ?_
    simp [putS, ExecS]
    with_reducible refine KI.go ?_
    repeat (first | (with_reducible first | refine AWi.seqK fun _ => ?_ | refine AWi.blockK fun _ => ?_ | refine KI.go ?_) | ((first | refine AWi.region tabOk ?_ | refine AWi.condK fun _ _ => ?_); simp [-getElem?_pos, z0, z1, z2, hm]) | ((first | refine AWi.ret ?_ | refine AWi.skip ?_ | refine AWi.exit ?_); try simp only [thenP]) | (with_reducible refine BB.go ?_; simp only [blockP, thenP, reduceIte]))
    exact ⟨by simp, RI.ret rfl ⟨by omega, by rw [hsame _ hgap]; rfl, fun j hj => rfl⟩⟩
  rw [decide_eq_false hz] at hbig
  clear hz
  refine cwpK tabOk Try.func52 rfl rfl (show 1 ≤ _ by decide) rfl fun _ => ?_; simp only [Try.ntmps52]
  repeat (first | (with_reducible first | refine AWi.seqK fun _ => ?_ | refine AWi.blockK fun _ => ?_ | refine KI.go ?_) | (refine AWi.condK fun _ _ => ?_; simp [-getElem?_pos, z0, z1, z2, z0]) | ((first | refine AWi.ret ?_ | refine AWi.skip ?_ | refine AWi.exit ?_); try simp only [thenP]) | (with_reducible refine BB.go ?_; simp only [blockP, thenP, reduceIte]))
  refine AWi.region tabOk ?_
  simp [-getElem?_pos, z0, z1, z2]
  with_reducible refine KI.go ?_
  refine AWi.scope0 ?_
  repeat (first | (with_reducible first | refine AWi.seqK fun _ => ?_ | refine AWi.blockK fun _ => ?_ | refine KI.go ?_) | (refine AWi.condK fun _ _ => ?_; simp [-getElem?_pos, z0, z1, z2, z0]) | ((first | refine AWi.ret ?_ | refine AWi.skip ?_ | refine AWi.exit ?_); try simp only [thenP]) | (with_reducible refine BB.go ?_; simp only [blockP, thenP, reduceIte]))
  refine AWi.regionS ?_
  refine ExecS.plain tabOk (out := { res := .ptr w 0 0 }) rfl rfl (by simp [-getElem?_pos, z0, z1, z2]) ?_
  refine ExecS.plain tabOk (out := { res := .ptr w 0 0 }) rfl rfl (by simp [-getElem?_pos, z0, z1, z2, hm]) ?_
  refine ExecS.plain tabOk (out := { res := .ptr w 0 6 }) rfl rfl (by simp [-getElem?_pos, z0, z1, z2, hm]) ?_
  refine ExecS.plain tabOk (out := { res := .agg (spS (allR s ps fun _ => true)) }) rfl rfl (by simp [-getElem?_pos, z0, z1, z2, hm]) ?_
  refine ExecS.plain tabOk (out := { res := .agg (List.replicate 24 (.d (iD 0))) }) rfl rfl (by simp [-getElem?_pos, z0, z1, z2]) ?_
  refine ExecS.bigeq (T0 := QT) qtOk (X := .agg (spS (allR s ps fun _ => true))) (Y := .agg (List.replicate 24 (.d (iD 0)))) rfl rfl (by simp [-getElem?_pos, z0, z1, z2]) (by simp [-getElem?_pos, z0, z1, z2]) hbig ?_
  simp [putS, ExecS]
  with_reducible refine KI.go ?_
  repeat (first | (with_reducible first | refine AWi.seqK fun _ => ?_ | refine AWi.blockK fun _ => ?_ | refine KI.go ?_) | ((first | refine AWi.region tabOk ?_ | refine AWi.condK fun _ _ => ?_); simp [-getElem?_pos, z0, z1, z2, hm]) | ((first | refine AWi.ret ?_ | refine AWi.skip ?_ | refine AWi.exit ?_); try simp only [thenP]) | (with_reducible refine BB.go ?_; simp only [blockP, thenP, reduceIte]))
  refine AWi.label ?_
  simp only [thenP]
  repeat (first | (with_reducible first | refine AWi.seqK fun _ => ?_ | refine AWi.blockK fun _ => ?_ | refine KI.go ?_) | ((first | refine AWi.region tabOk ?_ | refine AWi.condK fun _ _ => ?_); simp [-getElem?_pos, z0, z1, z2, hm]) | ((first | refine AWi.ret ?_ | refine AWi.skip ?_ | refine AWi.exit ?_); try simp only [thenP]) | (with_reducible refine BB.go ?_; simp only [blockP, thenP, reduceIte]))
  obtain ⟨A, hA⟩ : ∃ A, A = allR s ps fun _ => true := ⟨_, rfl⟩
  have hbd := allR_in ok
  rw [← hA] at hm hG hbd
  refine AWi.loopK (ι := { x : Int // s.short - 1 ≤ x ∧ x ≤ s.long ∧ ∀ z, x < z → z ≤ s.long → ∃ j, j < 12 ∧ bearB A j z = true }) (fun x n1 t => n ≤ n1 ∧ t.slots 0 = .ptr w 0 0 ∧ t.slots 4 = .d (iD x.1) ∧ ∀ j, j < n → t.mem j = m j) (fun x => (x.1 + 1 - s.short).toNat) ⟨s.long, by omega, Int.le_refl _, fun z h1 h2 => by omega⟩ ?_ ?_
  · exact ⟨by omega, by simp, by simp, fun j hj => rfl⟩
  rintro ⟨x, hx1, hx2, hx3⟩ n1 t ⟨r0, t0, t4, tl⟩ kk
  simp only at t4
  have hm1 : WhAt s ps A w t.mem := (tl w hw).trans hm
  by_cases hlt : s.short ≤ x
  · repeat (first | (with_reducible first | refine AWi.seqK fun _ => ?_ | refine AWi.blockK fun _ => ?_ | refine KI.go ?_) | ((first | refine AWi.region tabOk ?_ | refine AWi.condK fun _ _ => ?_); simp [-getElem?_pos, z0, z1, z2, t0, t4, hm1, hlt]) | ((first | refine AWi.ret ?_ | refine AWi.skip ?_ | refine AWi.exit ?_); try simp only [thenP]) | (with_reducible refine BB.go ?_; simp only [blockP, thenP, reduceIte]))
    refine AWi.loopK (ι := { k : Nat // k ≤ 12 ∧ ∀ j, j < k → bearB A j x = false }) (fun k n2 u => n ≤ n2 ∧ u.slots 0 = .ptr w 0 0 ∧ u.slots 4 = .d (iD x) ∧ u.slots 33 = .agg (spS A) ∧ u.slots 34 = .d (iD k.1) ∧ ∀ j, j < n → u.mem j = m j) (fun k => 12 - k.1) ⟨0, by omega, fun j hj => by omega⟩ ?_ ?_
    · exact ⟨by omega, by simp [t0], by simp [t4], by simp, by simp, tl⟩
    rintro ⟨k, hk, hno⟩ n2 u ⟨q0, u0, u4, u33, u34, ul⟩ kd
    simp only at u34
    have hm2 : WhAt s ps A w u.mem := (ul w hw).trans hm
    have w1 : IntKind.i64.wrap ((k : Int) + 1) = (k : Int) + 1 := wrap64_in (by omega)
    by_cases hk12 : k < 12
    · have hki : (k : Int) < 12 := by omega
      have hat := sp_at A hk12
      have hsl := spS_len A
      have hle : k * 2 + 2 ≤ 24 := by omega
      repeat (first | (with_reducible first | refine AWi.seqK fun _ => ?_ | refine AWi.blockK fun _ => ?_ | refine KI.go ?_) | ((first | refine AWi.region tabOk ?_ | refine AWi.condK fun _ _ => ?_); simp [-getElem?_pos, z0, z1, z2, u0, u4, u33, u34, hki, hat, hsl, hle]) | ((first | refine AWi.ret ?_ | refine AWi.skip ?_ | refine AWi.exit ?_); try simp only [thenP]) | (with_reducible refine BB.go ?_; simp only [blockP, thenP, reduceIte]))
      refine ExecI.callC (bears_w ((hm2.set (by omega)).set (by omega)) hk12 x _ (by omega)) rfl (by simp [calleeS, evList]) ?_
      rintro y n3 m3 ⟨q1, q2, rfl, q3⟩
      have m3r : m3 (n2 + 1 + 1 + 1) = some (.box 23 [.d (iD (A k).1), .d (iD (A k).2)] false) := (q3 _ (by omega)).trans (if_pos rfl)
      have ml3 : ∀ j, j < n → m3 j = m j := fun j hj => (q3 j (by omega)).trans (Eq.trans (by (try dsimp only); repeat (first | rw [setMem_lt (by omega)] | rw [putN_lt (by omega)])) (ul j hj))
      cases hb : bearB A k x with
      | false =>
        simp [-getElem?_pos, z0, z1, z2]
        repeat (first | (with_reducible first | refine AWi.seqK fun _ => ?_ | refine AWi.blockK fun _ => ?_ | refine KI.go ?_) | ((first | refine AWi.region tabOk ?_ | refine AWi.condK fun _ _ => ?_); simp [-getElem?_pos, z0, z1, z2, u34, w1]) | ((first | refine AWi.ret ?_ | refine AWi.skip ?_ | refine AWi.exit ?_); try simp only [thenP]) | (with_reducible refine BB.go ?_; simp only [blockP, thenP, reduceIte]))
        refine LI.go ⟨k + 1, hk12, fun j hj => ?_⟩ ⟨by omega, by simp [u0], by simp [u4], by simp [u33], by simp [iD], ml3⟩ (by simp; omega)
        by_cases e : j = k
        · subst e; exact hb
        · exact hno j (by omega)
      | true =>
        have hb' := bearB_iff.1 hb
        have := hbd k
        have w2 : IntKind.i64.wrap ((A k).1 - 1) = (A k).1 - 1 := wrap64_in (by omega)
        simp [-getElem?_pos, z0, z1, z2]
        repeat (first | (with_reducible first | refine AWi.seqK fun _ => ?_ | refine AWi.blockK fun _ => ?_ | refine KI.go ?_) | ((first | refine AWi.region tabOk ?_ | refine AWi.condK fun _ _ => ?_); simp [-getElem?_pos, z0, z1, z2, m3r, w2]) | ((first | refine AWi.ret ?_ | refine AWi.skip ?_ | refine AWi.exit ?_); try simp only [thenP]) | (with_reducible refine BB.go ?_; simp only [blockP, thenP, reduceIte]))
        rw [if_neg (by decide)]
        repeat (first | (with_reducible first | refine AWi.seqK fun _ => ?_ | refine AWi.blockK fun _ => ?_ | refine KI.go ?_) | ((first | refine AWi.region tabOk ?_ | refine AWi.condK fun _ _ => ?_); simp [-getElem?_pos, z0, z1, z2, z0]) | ((first | refine AWi.ret ?_ | refine AWi.skip ?_ | refine AWi.exit ?_); try simp only [thenP]) | (with_reducible refine BB.go ?_; simp only [blockP, thenP, reduceIte]))
        rw [if_neg (by decide)]
        repeat (first | (with_reducible first | refine AWi.seqK fun _ => ?_ | refine AWi.blockK fun _ => ?_ | refine KI.go ?_) | ((first | refine AWi.region tabOk ?_ | refine AWi.condK fun _ _ => ?_); simp [-getElem?_pos, z0, z1, z2, z0]) | ((first | refine AWi.ret ?_ | refine AWi.skip ?_ | refine AWi.exit ?_); try simp only [thenP]) | (with_reducible refine BB.go ?_; simp only [blockP, thenP, reduceIte]))
        have hge := allR_ge ok hlt (j := k) (by rw [← hA]; exact hb)
        rw [← hA] at hge
        refine LI.go ⟨(A k).1 - 1, by omega, by omega, fun z h1 h2 => ?_⟩ ⟨by omega, by simp [u0], by simp, ml3⟩ (by simp; omega)
        by_cases hzx : z ≤ x
        · exact ⟨k, hk12, bearB_iff.2 ⟨by omega, by omega⟩⟩
        · exact hx3 z (by omega) h2
    · obtain rfl : k = 12 := by omega
      have hgap : gapR (betA s ps) ps.length s.long s.short = some x := by
        rw [← hG]
        exact gap_eq ⟨hx2, hlt, hno, hx3⟩
      repeat (first | (with_reducible first | refine AWi.seqK fun _ => ?_ | refine AWi.blockK fun _ => ?_ | refine KI.go ?_) | ((first | refine AWi.region tabOk ?_ | refine AWi.condK fun _ _ => ?_); simp [-getElem?_pos, z0, z1, z2, u0, u4, u33, u34]) | ((first | refine AWi.ret ?_ | refine AWi.skip ?_ | refine AWi.exit ?_); try simp only [thenP]) | (with_reducible refine BB.go ?_; simp only [blockP, thenP, reduceIte]))
      exact ⟨by simp, RI.ret rfl ⟨by omega, by rw [hsame _ hgap]; rfl, fun j hj => ul j hj⟩⟩
  · have hgap : gapR (betA s ps) ps.length s.long s.short = none := by
      rw [← hG]
      exact gap_all fun z h1 h2 => hx3 z (by omega) h2
    repeat (first | (with_reducible first | refine AWi.seqK fun _ => ?_ | refine AWi.blockK fun _ => ?_ | refine KI.go ?_) | ((first | refine AWi.region tabOk ?_ | refine AWi.condK fun _ _ => ?_); simp [-getElem?_pos, z0, z1, z2, t0, t4, hm1, hlt]) | ((first | refine AWi.ret ?_ | refine AWi.skip ?_ | refine AWi.exit ?_); try simp only [thenP]) | (with_reducible refine BB.go ?_; simp only [blockP, thenP, reduceIte]))
    exact ⟨by simp, RI.ret rfl ⟨by omega, by rw [hsame _ hgap]; rfl, fun j hj => tl j hj⟩⟩
end Go.Proofs.Ytdkneonokbakjaa.Eng

namespace Go.Proofs.Ytdkneonokbakjaa
open Go.RowKit
section
variable {P : Program}
theorem run_copy_wide (w : World) (dT sT ty elem : TypeId) (size g n dCap : Nat) (a : Addr) (sCap : Nat) (cur : Array Value) (t : TypeId) (cs : List Value)
    (hu : P.underlying dT = some (.slice elem)) (hs : (P.info? elem).map (·.size) = some size)
    (hg : w.heap[g]? = some (.cells cur t (0, 0))) (hn : cs.length = n * size)
    (hsrc : ∀ j v, cs[j]? = some v → w.cell? (a.add j) = some v) (hfit : cs.length ≤ cur.size) (h1 : ∀ v ∈ cs, v.oneCell' = true) :
    (Builtin.copy_ #[dT, sT] ty #[.slice (some ⟨g, 0, none⟩) n dCap, .slice (some a) n sCap]).run P w =
      .ok (goInt n) (w.setRow g (cs ++ cur.toList.drop cs.length).toArray) := by
  have hl := run_loadCells_list (P := P) w a cs hsrc
  have hst := run_storeCells_at P g 0 t cs 0 cur w hg (by simpa using hfit) h1
  simp only [Nat.zero_add, List.take_zero, List.nil_append] at hst
  cases hq : P.info? elem with
  | none => simp [hq] at hs
  | some i =>
    have hi : i.size = size := by simpa [hq] using hs
    have hm : Nat.min n n = n := Nat.min_self n
    simp [Builtin.copy_, run_underlying hu, Builtin.lenOf, Builtin.firstCells, sizeOf, typeInfo, hq, hi, hm, ← hn, hl, hst]
theorem run_copy_empty (w : World) (dT sT ty elem : TypeId) (size g dCap c : Nat) (hu : P.underlying dT = some (.slice elem)) (hs : (P.info? elem).map (·.size) = some size) :
    (Builtin.copy_ #[dT, sT] ty #[.slice (some ⟨g, 0, none⟩) 0 dCap, .slice none 0 c]).run P w = .ok (goInt 0) w := by
  cases hq : P.info? elem with
  | none => simp [hq] at hs
  | some i => simp [Builtin.copy_, run_underlying hu, Builtin.lenOf, Builtin.firstCells, sizeOf, typeInfo, hq, storeCells]
end
end Go.Proofs.Ytdkneonokbakjaa

namespace Go.Proofs.Ytdkneonokbakjaa.Eng
open Go.RowKit
variable {P : Program} {T : Tab} {r : Option Nat} {ns n : Nat} {s : St}
theorem setMem_id {m : Mem} {i : Nat} {b : Option Blk} (h : m i = b) : setMem m i b = m := by
  funext j
  unfold setMem
  split
  · rename_i e; rw [e, h]
  · rfl
theorem stepI_copy1 (hT : TabOk P T) {o : Oper} {x y : Operand} {t t' e ty : TypeId} {i ie : TI} (ho : o.op = .call { callee := .builtin .copy, args := #[x, y], argTypes := #[t, t'] }) (hi : T t = some i) (hk : i.kind = .slice e) (hie : T e = some ie) (h1 : ie.size = 1) {id k : Nat} {rows rows0 : List (List Dat)} (hl : rows.length = k) (hl0 : rows0.length = k) (hr1 : ∀ q ∈ rows, q.length = 1)
    (hx : opd ns s x = some (.own id k 1)) (hm : s.mem id = some (.row ty 1 rows0 false)) (hy : opd ns s y = some (.d (.list rows))) :
    StepI P r ns n s o fun n' s' => n' = n ∧ s' = ⟨setSlot s.slots o.dst (.d (.val (.int .i64 k))), setMem s.mem id (some (.row ty 1 rows false))⟩ := by
  intro W0 R0 B E a w hin h hd K Q hK
  refine oper_in (fun c e => by rw [ho] at e; cases e) ?_
  have hu := slice_und (hT t i hi) hk
  have hsz : (P.info? e).map (·.size) = some 1 := by
    obtain ⟨inf, z, a1, a2, -⟩ := (hT e ie hie).info
    rw [a1, ← h1, ← a2]; rfl
  obtain ⟨u, hu'⟩ : ∃ u, a.eval x = u := ⟨_, rfl⟩
  obtain ⟨v, hv'⟩ : ∃ v, a.eval y = v := ⟨_, rfl⟩
  have hrx := h.opd hx
  have hry := h.opd hy
  rw [hu'] at hrx
  rw [hv'] at hry
  subst hl
  cases hrx with
  | own _ _ _ hdm hz =>
  cases hry with
  | d _ _ hry =>
  cases hry with
  | list _ A c f q1 q2 q3 q4 q5 =>
  have hro : ¬ E.ro (E.home id).blk := fun k => by have := (h.frz id _ hm).2 k; cases this
  cases h.mem id _ hm with
  | row _ _ _ _ cur g1 g2 g3 g4 g5 g6 g7 g8 =>
  cases hrow : rows with
  | nil =>
    subst hrow
    obtain rfl : rows0 = [] := List.length_eq_zero_iff.1 hl0
    have hrun : (Builtin.copy_ #[t, t'] o.type #[.slice (some ⟨(E.home id).blk, 0, none⟩) 0 (E.home id).cap, .slice A 0 c]).run P w = .ok (goInt 0) w := by
      cases A with
      | none => exact run_copy_empty w t t' o.type e 1 (E.home id).blk (E.home id).cap c hu hsz
      | some ad =>
        have := run_copy_wide w t t' o.type e 1 (E.home id).blk 0 (E.home id).cap ad c cur ty [] hu hsz g1 (by simp) (fun j v h => by simp at h) (by simp) (fun v h => by cases h)
        rw [this]
        have e1 : (([] : List Value) ++ cur.toList.drop ([] : List Value).length).toArray = cur := by simp
        rw [e1, setRow_self _ _ _ _ _ g1]; rfl
    have he : (execOp a.eval o).run P w = .ok (.value (goInt 0)) w := by
      simp only [execOp, ho, resolve, invoke, builtin, Sem.run_bind, Sem.run_pure, Result.andThen_ok, List.map_toArray, List.map_cons, List.map_nil, hu', hv', List.length_nil, hrun]
    unfold Oper.wp
    rw [he]
    refine hK n _ E _ _ ⟨rfl, ?_⟩ (h.put hd (rep_val (u := goInt 0) rfl))
    rw [setMem_id hm]
    rfl
  | cons r0 rest =>
    have hpos : 0 < rows.length := by rw [hrow]; simp
    obtain ⟨b, off, esz, rfl, hb, hz1, hcell⟩ := q4 hpos
    obtain rfl : esz = 1 := by rw [← hz1 r0 (by rw [hrow]; simp), hr1 r0 (by rw [hrow]; simp)]
    let cs : List Value := (List.range rows.length).map fun i => f i 0
    have hcl : cs.length = rows.length := by simp [cs]
    have hcj : ∀ (j : Nat) v, cs[j]? = some v → j < rows.length ∧ v = f j 0 := fun j v hv => by
      simp only [cs, List.getElem?_map, Option.map_eq_some_iff] at hv
      obtain ⟨q, hq, rfl⟩ := hv
      obtain ⟨hq1, hq2⟩ := List.getElem?_eq_some_iff.1 hq
      simp at hq1 hq2
      subst hq2
      exact ⟨hq1, rfl⟩
    have hrep : ∀ (j : Nat) (hj : j < rows.length), ∃ d, rows[j] = [d] ∧ RepD E.ro w d (f j 0) ∧ d.one = true := fun j hj => by
      have h2 := hr1 rows[j] (List.getElem_mem hj)
      obtain ⟨d, hd2⟩ := List.length_eq_one_iff.1 h2
      exact ⟨d, hd2, q5 j 0 rows[j] d (List.getElem?_eq_getElem hj) (by rw [hd2]; rfl), q3 rows[j] (List.getElem_mem hj) d (by rw [hd2]; simp)⟩
    have hcap : rows.length ≤ cur.size := by rw [g3, ← hl0]; omega
    have hone : ∀ v ∈ cs, v.oneCell' = true := fun v hv => by
      obtain ⟨j, hj⟩ := List.mem_iff_getElem?.1 hv
      obtain ⟨h3, rfl⟩ := hcj j v hj
      obtain ⟨d, -, h4, h5⟩ := hrep j h3
      exact h4.one h5
    have hrun := run_copy_wide (P := P) w t t' o.type e 1 (E.home id).blk rows.length (E.home id).cap ⟨b, off, none⟩ c cur ty cs hu hsz g1 (by rw [hcl, Nat.mul_one]) (fun j v hv => by
      obtain ⟨h3, rfl⟩ := hcj j v hv
      have := hcell j 0 h3 (by omega)
      rw [Nat.mul_one, Nat.add_zero] at this
      by_cases hj0 : j = 0
      · subst hj0; simpa [Addr.add] using this
      · simpa [Addr.add, hj0] using this) (by rw [hcl]; exact hcap) hone
    have he : (execOp a.eval o).run P w = .ok (.value (goInt rows.length)) (w.setRow (E.home id).blk (cs ++ cur.toList.drop cs.length).toArray) := by
      simp only [execOp, ho, resolve, invoke, builtin, Sem.run_bind, Sem.run_pure, Result.andThen_ok, List.map_toArray, List.map_cons, List.map_nil, hu', hv', hrun]
    have hw : ∀ b, E.ro b → (w.setRow (E.home id).blk (cs ++ cur.toList.drop cs.length).toArray).heap[b]? = w.heap[b]? := fun b hb => setRow_other _ _ _ _ (fun e => hro (e ▸ hb))
    have h6 : Sim W0 R0 ns (· < n) ⟨s.slots, setMem s.mem id (some (.row ty 1 rows false))⟩ E a (w.setRow (E.home id).blk (cs ++ cur.toList.drop cs.length).toArray) :=
      h.write hm rfl rfl (grown_setRow _ _ _) (.row ty 1 rows false _ (setRow_heap _ _ _ _ _ _ g1) g2 (by simp; omega) (by rw [← hl0]; exact g4) g5 hr1 q3 fun i j q c v hq hc hv => by
        have hi2 := (List.getElem?_eq_some_iff.1 hq).1
        have hj0 : j = 0 := by
          have := (List.getElem?_eq_some_iff.1 hc).1
          rw [hr1 q (List.mem_of_getElem? hq)] at this
          omega
        subst hj0
        have h7 := q5 i 0 q c hq hc
        rw [Nat.mul_one, Nat.add_zero, List.getElem?_toArray, List.getElem?_append_left (by rw [hcl]; exact hi2)] at hv
        obtain ⟨-, rfl⟩ := hcj i v hv
        exact h7.keep (fun _ h => h) hw)
    unfold Oper.wp
    rw [he]
    exact hK n _ E _ _ ⟨rfl, rfl⟩ (h6.put hd (rep_val rfl))
theorem ExecS.copy1 (hT : TabOk P T) {ops : Array Oper} {o : Oper} {lo : List Oper} {Q : Nat → St → Prop} {x y : Operand} {c : Call} {t t' e ty : TypeId} {i ie : TI} (ho : o.op = .call c) (hc1 : c.callee = .builtin .copy) (hc2 : c.args.toList = [x, y]) (hc3 : c.argTypes.toList = [t, t']) (hg : guardS ops ns s o = some true) (hi : T t = some i) (hk : i.kind = .slice e) (hie : T e = some ie) (h1 : ie.size = 1) {id k : Nat} {rows rows0 : List (List Dat)} (hl : rows.length = k) (hl0 : rows0.length = k) (hr1 : ∀ q ∈ rows, q.length = 1)
    (hx : opd ns s x = some (.own id k 1)) (hm : s.mem id = some (.row ty 1 rows0 false)) (hy : opd ns s y = some (.d (.list rows)))
    (h : ExecS P r ns ops n lo ⟨setSlot s.slots o.dst (.d (.val (.int .i64 k))), setMem s.mem id (some (.row ty 1 rows false))⟩ Q) : ExecS P r ns ops n (o :: lo) s Q :=
  ⟨hg, _, stepI_copy1 hT (by rw [call_eq hc1 hc2 hc3] at ho; exact ho) hi hk hie h1 hl hl0 hr1 hx hm hy, fun n' s' ⟨e1, e2⟩ => by rw [e1, e2]; exact h⟩
end Go.Proofs.Ytdkneonokbakjaa.Eng

namespace Go.Proofs.Ytdkneonokbakjaa.Eng
open Go.RowKit
variable {P : Program} {T : Tab} {r : Option Nat} {ns n : Nat} {s : St}
theorem stepI_copyZ (hT : TabOk P T) {o : Oper} {x y : Operand} {t t' e ty : TypeId} {i ie : TI} (ho : o.op = .call { callee := .builtin .copy, args := #[x, y], argTypes := #[t, t'] }) (hi : T t = some i) (hk : i.kind = .slice e) (hie : T e = some ie) {z : Nat} (hz0 : 0 < z) (h1 : ie.size = z) {id k : Nat} {rows rows0 : List (List Dat)} (hl : rows.length = k) (hl0 : rows0.length = k) (hr1 : ∀ q ∈ rows, q.length = z)
    (hx : opd ns s x = some (.own id k z)) (hm : s.mem id = some (.row ty z rows0 false)) (hy : opd ns s y = some (.d (.list rows))) :
    StepI P r ns n s o fun n' s' => n' = n ∧ s' = ⟨setSlot s.slots o.dst (.d (.val (.int .i64 k))), setMem s.mem id (some (.row ty z rows false))⟩ := by
  intro W0 R0 B E a w hin h hd K Q hK
  refine oper_in (fun c e => by rw [ho] at e; cases e) ?_
  have hu := slice_und (hT t i hi) hk
  have hsz : (P.info? e).map (·.size) = some z := by
    obtain ⟨inf, zv, a1, a2, -⟩ := (hT e ie hie).info
    rw [a1, ← h1, ← a2]; rfl
  obtain ⟨u, hu'⟩ : ∃ u, a.eval x = u := ⟨_, rfl⟩
  obtain ⟨v, hv'⟩ : ∃ v, a.eval y = v := ⟨_, rfl⟩
  have hrx := h.opd hx
  have hry := h.opd hy
  rw [hu'] at hrx
  rw [hv'] at hry
  subst hl
  cases hrx with
  | own _ _ _ hdm hzz =>
  cases hry with
  | d _ _ hry =>
  cases hry with
  | list _ A c f q1 q2 q3 q4 q5 =>
  have hro : ¬ E.ro (E.home id).blk := fun k => by have := (h.frz id _ hm).2 k; cases this
  cases h.mem id _ hm with
  | row _ _ _ _ cur g1 g2 g3 g4 g5 g6 g7 g8 =>
  cases hrow : rows with
  | nil =>
    subst hrow
    obtain rfl : rows0 = [] := List.length_eq_zero_iff.1 hl0
    have hrun : (Builtin.copy_ #[t, t'] o.type #[.slice (some ⟨(E.home id).blk, 0, none⟩) 0 (E.home id).cap, .slice A 0 c]).run P w = .ok (goInt 0) w := by
      cases A with
      | none => exact run_copy_empty w t t' o.type e z (E.home id).blk (E.home id).cap c hu hsz
      | some ad =>
        have := run_copy_wide w t t' o.type e z (E.home id).blk 0 (E.home id).cap ad c cur ty [] hu hsz g1 (by simp) (fun j v h => by simp at h) (by simp) (fun v h => by cases h)
        rw [this]
        have e1 : (([] : List Value) ++ cur.toList.drop ([] : List Value).length).toArray = cur := by simp
        rw [e1, setRow_self _ _ _ _ _ g1]; rfl
    have he : (execOp a.eval o).run P w = .ok (.value (goInt 0)) w := by
      simp only [execOp, ho, resolve, invoke, builtin, Sem.run_bind, Sem.run_pure, Result.andThen_ok, List.map_toArray, List.map_cons, List.map_nil, hu', hv', List.length_nil, hrun]
    unfold Oper.wp
    rw [he]
    refine hK n _ E _ _ ⟨rfl, ?_⟩ (h.put hd (rep_val (u := goInt 0) rfl))
    rw [setMem_id hm]
    rfl
  | cons r0 rest =>
    have hpos : 0 < rows.length := by rw [hrow]; simp
    obtain ⟨b, off, esz, rfl, hb, hz1, hcell⟩ := q4 hpos
    obtain rfl : z = esz := by rw [← hz1 r0 (by rw [hrow]; simp), hr1 r0 (by rw [hrow]; simp)]
    let cs : List Value := (List.range (rows.length * z)).map fun i => f (i / z) (i % z)
    have hcl : cs.length = rows.length * z := by simp [cs]
    have hcj : ∀ (j : Nat) v, cs[j]? = some v → j < rows.length * z ∧ v = f (j / z) (j % z) := fun j v hv => by
      simp only [cs, List.getElem?_map, Option.map_eq_some_iff] at hv
      obtain ⟨q, hq, rfl⟩ := hv
      obtain ⟨hq1, hq2⟩ := List.getElem?_eq_some_iff.1 hq
      simp at hq1 hq2
      subst hq2
      exact ⟨hq1, rfl⟩
    have hdv : ∀ j, j < rows.length * z → j / z < rows.length := fun j hj => (Nat.div_lt_iff_lt_mul hz0).2 hj
    have hrep : ∀ (j : Nat) (hj : j < rows.length * z), ∃ d, RepD E.ro w d (f (j / z) (j % z)) ∧ d.one = true := fun j hj => by
      have h3 := hdv j hj
      have h2 := hr1 rows[j / z] (List.getElem_mem h3)
      have h4 : j % z < (rows[j / z]).length := by rw [h2]; exact Nat.mod_lt _ hz0
      exact ⟨(rows[j / z])[j % z], q5 (j / z) (j % z) rows[j / z] _ (List.getElem?_eq_getElem h3) (List.getElem?_eq_getElem h4), q3 rows[j / z] (List.getElem_mem h3) _ (List.getElem_mem h4)⟩
    have hcap : rows.length * z ≤ cur.size := by
      rw [g3]
      exact Nat.mul_le_mul_right z (by rw [← hl0]; exact g4)
    have hone : ∀ v ∈ cs, v.oneCell' = true := fun v hv => by
      obtain ⟨j, hj⟩ := List.mem_iff_getElem?.1 hv
      obtain ⟨h3, rfl⟩ := hcj j v hj
      obtain ⟨d, h4, h5⟩ := hrep j h3
      exact h4.one h5
    have hrun := run_copy_wide (P := P) w t t' o.type e z (E.home id).blk rows.length (E.home id).cap ⟨b, off, none⟩ c cur ty cs hu hsz g1 hcl (fun j v hv => by
      obtain ⟨h3, rfl⟩ := hcj j v hv
      have := hcell (j / z) (j % z) (hdv j h3) (Nat.mod_lt _ hz0)
      rw [Nat.add_assoc, Nat.div_add_mod'] at this
      by_cases hj0 : j = 0
      · subst hj0; simpa [Addr.add] using this
      · simpa [Addr.add, hj0] using this) (by rw [hcl]; exact hcap) hone
    have he : (execOp a.eval o).run P w = .ok (.value (goInt rows.length)) (w.setRow (E.home id).blk (cs ++ cur.toList.drop cs.length).toArray) := by
      simp only [execOp, ho, resolve, invoke, builtin, Sem.run_bind, Sem.run_pure, Result.andThen_ok, List.map_toArray, List.map_cons, List.map_nil, hu', hv', hrun]
    have hw : ∀ b, E.ro b → (w.setRow (E.home id).blk (cs ++ cur.toList.drop cs.length).toArray).heap[b]? = w.heap[b]? := fun b hb => setRow_other _ _ _ _ (fun e => hro (e ▸ hb))
    have h6 : Sim W0 R0 ns (· < n) ⟨s.slots, setMem s.mem id (some (.row ty z rows false))⟩ E a (w.setRow (E.home id).blk (cs ++ cur.toList.drop cs.length).toArray) :=
      h.write hm rfl rfl (grown_setRow _ _ _) (.row ty z rows false _ (setRow_heap _ _ _ _ _ _ g1) g2 (by
        have : cs.length ≤ cur.size := by rw [hcl]; exact hcap
        simp only [List.size_toArray, List.length_append, List.length_drop, Array.length_toList]
        omega) (by rw [← hl0]; exact g4) g5 hr1 q3 fun i j q c v hq hc hv => by
        have hi2 := (List.getElem?_eq_some_iff.1 hq).1
        have hjz : j < z := by
          have := (List.getElem?_eq_some_iff.1 hc).1
          rwa [hr1 q (List.mem_of_getElem? hq)] at this
        have hij : i * z + j < rows.length * z := by
          have : (i + 1) * z ≤ rows.length * z := Nat.mul_le_mul_right z hi2
          rw [Nat.add_mul, Nat.one_mul] at this
          omega
        have h7 := q5 i j q c hq hc
        rw [List.getElem?_toArray, List.getElem?_append_left (by rw [hcl]; exact hij)] at hv
        obtain ⟨-, rfl⟩ := hcj _ v hv
        rw [show (i * z + j) / z = i by rw [Nat.mul_comm, Nat.mul_add_div hz0, Nat.div_eq_of_lt hjz, Nat.add_zero], show (i * z + j) % z = j by rw [Nat.mul_comm, Nat.mul_add_mod, Nat.mod_eq_of_lt hjz]]
        exact h7.keep (fun _ h => h) hw)
    unfold Oper.wp
    rw [he]
    exact hK n _ E _ _ ⟨rfl, rfl⟩ (h6.put hd (rep_val rfl))
theorem ExecS.copyZ (hT : TabOk P T) {ops : Array Oper} {o : Oper} {lo : List Oper} {Q : Nat → St → Prop} {x y : Operand} {c : Call} {t t' e ty : TypeId} {i ie : TI} (ho : o.op = .call c) (hc1 : c.callee = .builtin .copy) (hc2 : c.args.toList = [x, y]) (hc3 : c.argTypes.toList = [t, t']) (hg : guardS ops ns s o = some true) (hi : T t = some i) (hk : i.kind = .slice e) (hie : T e = some ie) {z : Nat} (hz0 : 0 < z) (h1 : ie.size = z) {id k : Nat} {rows rows0 : List (List Dat)} (hl : rows.length = k) (hl0 : rows0.length = k) (hr1 : ∀ q ∈ rows, q.length = z)
    (hx : opd ns s x = some (.own id k z)) (hm : s.mem id = some (.row ty z rows0 false)) (hy : opd ns s y = some (.d (.list rows)))
    (h : ExecS P r ns ops n lo ⟨setSlot s.slots o.dst (.d (.val (.int .i64 k))), setMem s.mem id (some (.row ty z rows false))⟩ Q) : ExecS P r ns ops n (o :: lo) s Q :=
  ⟨hg, _, stepI_copyZ hT (by rw [call_eq hc1 hc2 hc3] at ho; exact ho) hi hk hie hz0 h1 hl hl0 hr1 hx hm hy, fun n' s' ⟨e1, e2⟩ => by rw [e1, e2]; exact h⟩
end Go.Proofs.Ytdkneonokbakjaa.Eng
