/-
  A part of the texts that the claim builds on: see the last one.
-/
import Derived.Test.YtcmkkgdjhjpldaaDl3
import Derived.StillTail
set_option linter.unusedSimpArgs false
set_option linter.unusedVariables false
noncomputable section
namespace Go.Proofs.Ytcmkkgdjhjpldaa.Eng
open Go.RowKit
variable {P : Program} {T : Tab} {r : Option Nat} {ns : Nat}
inductive Kd3 where
  | off
  | pure (x : SV) (ids : List Nat)
  | act (y : SV) (R : List Nat)
def Kd3.res : Kd3 → SV
  | .off => .tup []
  | .pure x _ => x
  | .act y _ => y
def tch (N : Nat → Nat) (kd : Nat → Kd3) (k i : Nat) : Prop := ∃ y R, kd k = .act y R ∧ (i ∈ R ∨ New (N k) (N (k + 1)) i)
def StepD (P : Program) (r : Option Nat) (ns : Nat) (D D' : Nat → Prop) (s : St) (o : Oper) (s2 : St) : Prop :=
  ∀ (W0 : Fix) (R0 : Nat → Prop) (B : Nat) (E : Env) (a : Act) (w : World), InAct r W0 R0 B → Sim W0 R0 ns D s E a w → (∀ t, o.dst = some t → t < ns) →
    ∀ (K : Act → World → Prop) (Q : Exit → Act → World → Prop), (∀ E' a' w', Sim W0 R0 ns D' s2 E' a' w' → K a' w') → o.wpIn (fen (rOf W0 r)) 0 P a w K Q
open Classical in
structure Draw3 (P : Program) (r : Option Nat) (ns : Nat) (l : List Oper) (st : Nat → St) (N : Nat → Nat) (kd : Nat → Kd3) : Prop where
  slots : ∀ k o, l[k]? = some o → (st (k + 1)).slots = setSlot (st k).slots o.dst (kd k).res
  mem : ∀ k, k < l.length → ∀ i, ¬ tch N kd k i → (st (k + 1)).mem i = (st k).mem i
  names : ∀ k, k < l.length → N k ≤ N (k + 1)
  off : ∀ k o, l[k]? = some o → kd k = .off → guardS l.toArray ns (st k) o = some false
  pure : ∀ k o x ids, l[k]? = some o → kd k = .pure x ids → guardS l.toArray ns (st k) o = some true ∧ ∃ j0,
    (∀ i ∈ ids, i ≠ j0 → ∀ e, e < l.length → tch N kd e i → (e < k → Anc l e k) ∧ (k < e → Anc l k e)) ∧
    ∀ p, p ≤ l.length → (∀ e, e < l.length → tch N kd e j0 → Anc l e k → e < p) → (∀ e, e < l.length → tch N kd e j0 → Anc l k e → p ≤ e) →
      ∀ (D : Nat → Prop) s', (∀ i, D i → i < N l.length) → (∀ t ∈ slotsOf o.op, s'.slots t = (st k).slots t) → (∀ i ∈ ids, i ≠ j0 → s'.mem i = (st k).mem i) → s'.mem j0 = (st p).mem j0 → StepD P r ns D D s' o ⟨setSlot s'.slots o.dst x, s'.mem⟩
  act : ∀ k o y R, l[k]? = some o → kd k = .act y R → guardS l.toArray ns (st k) o = some true ∧ ∃ I : List Nat, (∀ i ∈ I, ∀ e, e < l.length → e ≠ k → tch N kd e i → (e < k → Anc l e k) ∧ (k < e → Anc l k e)) ∧
    ∀ (D : Nat → Prop) s', (∀ i, D i → i < N l.length) → (∀ i, D i → ¬ New (N k) (N (k + 1)) i) → (∀ t ∈ slotsOf o.op, s'.slots t = (st k).slots t) → (∀ i ∈ R, s'.mem i = (st k).mem i) → (∀ i ∈ I, s'.mem i = (st k).mem i) →
      StepD P r ns D (fun i => D i ∨ New (N k) (N (k + 1)) i) s' o ⟨setSlot s'.slots o.dst y, fun i => if i ∈ R ∨ New (N k) (N (k + 1)) i then (st (k + 1)).mem i else s'.mem i⟩
  cslot : ∀ i k oi ok t, i < k → l[i]? = some oi → l[k]? = some ok → ((oi.dst = some t ∧ (ok.dst = some t ∨ t ∈ guardSlot l.toArray ok ∨ t ∈ slotsOf ok.op)) ∨ (ok.dst = some t ∧ (t ∈ guardSlot l.toArray oi ∨ t ∈ slotsOf oi.op))) → Anc l i k
  cmem : ∀ i k b, i < k → k < l.length → tch N kd i b → tch N kd k b → Anc l i k
open Classical in
def mF (st : Nat → St) (N : Nat → Nat) (kd : Nat → Kd3) (L : Nat → Bool) : Nat → Mem
  | 0 => (st 0).mem
  | k + 1 => fun i => if L k = true ∧ tch N kd k i then (st (k + 1)).mem i else mF st N kd L k i
theorem mF_at {st : Nat → St} {N : Nat → Nat} {kd : Nat → Kd3} {L M : Nat → Bool} {i : Nat} : ∀ n, (∀ k, k < n → tch N kd k i → L k = M k) → mF st N kd L n i = mF st N kd M n i
  | 0, _ => rfl
  | n + 1, h => by
    have ih := mF_at (st := st) n fun k hk => h k (by omega)
    simp only [mF]
    by_cases ht : tch N kd n i
    · rw [h n (by omega) ht, ih]
    · rw [if_neg (fun c => ht c.2), if_neg (fun c => ht c.2), ih]
theorem mF_text {st : Nat → St} {N : Nat → Nat} {kd : Nat → Kd3} {len : Nat} (hm : ∀ k, k < len → ∀ i, ¬ tch N kd k i → (st (k + 1)).mem i = (st k).mem i) (k : Nat) (hk : k ≤ len) : mF st N kd (fun i => decide (i < k)) len = (st k).mem := by
  have h1 : ∀ j, j ≤ k → mF st N kd (fun i => decide (i < k)) j = (st j).mem := by
    intro j
    induction j with
    | zero => intro _; rfl
    | succ j ih =>
      intro hj
      funext i
      simp only [mF]
      by_cases ht : tch N kd j i
      · rw [if_pos ⟨by simp; omega, ht⟩]
      · rw [if_neg (fun c => ht c.2), ih (by omega), hm j (by omega) i ht]
  have h2 : ∀ j, k ≤ j → mF st N kd (fun i => decide (i < k)) j = (st k).mem := by
    intro j
    induction j with
    | zero => intro hj; obtain rfl : k = 0 := by omega
              rfl
    | succ j ih =>
      intro hj
      rcases Nat.lt_or_ge j k with h | h
      · obtain rfl : k = j + 1 := by omega
        exact h1 (j + 1) (Nat.le_refl _)
      · funext i
        simp only [mF]
        rw [if_neg (fun c => by have := c.1; simp at this; omega), ih h]
  exact h2 len hk
def dF (N : Nat → Nat) (kd : Nat → Kd3) (len : Nat) (L : Nat → Bool) (i : Nat) : Prop := i < N 0 ∨ ∃ k y R, k < len ∧ L k = true ∧ kd k = .act y R ∧ New (N k) (N (k + 1)) i
open Classical in
theorem draw_any3 {l : List Oper} (hB : backB l.toArray = true) {st : Nat → St} {N : Nat → Nat} {kd : Nat → Kd3} (H : Draw3 P r ns l st N kd) {W0 : Fix} {R0 : Nat → Prop} {B : Nat} (hi : InAct r W0 R0 B)
    {E : Env} {a : Act} {w : World} (hs : Sim W0 R0 ns (· < N 0) (st 0) E a w) {Q : Exit → Act → World → Prop} (hQ : ∀ E' a' w', Sim W0 R0 ns (· < N l.length) (st l.length) E' a' w' → Q .normal a' w') :
    wpAnyIn (fen (rOf W0 r)) 0 P .any l.toArray Q l.toArray.size (Array.replicate l.toArray.size false) a w := by
  have mono : ∀ i k, i ≤ k → k ≤ l.length → N i ≤ N k := by
    intro i k hik
    induction k with
    | zero => intro _; (obtain rfl : i = 0 := (by omega)); exact Nat.le_refl _
    | succ k ih =>
      intro hk
      rcases Nat.lt_or_ge i (k + 1) with h | h
      · exact Nat.le_trans (ih (by omega) (by omega)) (H.names k (by omega))
      · obtain rfl : i = k + 1 := by omega
        exact Nat.le_refl _
  let res : Nat → SV := fun k => (kd k).res
  have text : ∀ (k j : Nat), j ≤ k → k ≤ l.length → slF l res (st 0).slots (fun i => decide (i < k)) j = (st j).slots := by
    intro k j
    induction j with
    | zero => intro _ _; rfl
    | succ j ih =>
      intro hj hk
      have hjl : l[j]? = some l[j] := List.getElem?_eq_getElem (by omega)
      simp only [slF, hjl]
      rw [if_pos (by simp; omega), ih (by omega) hk]
      exact (H.slots j _ hjl).symm
  have textE : ∀ (k : Nat), k ≤ l.length → ∀ j, k ≤ j → slF l res (st 0).slots (fun i => decide (i < k)) j = (st k).slots := by
    intro k hk j
    induction j with
    | zero =>
      intro hj
      obtain rfl : k = 0 := by omega
      rfl
    | succ j ih =>
      intro hj
      rcases Nat.lt_or_ge j k with h | h
      · obtain rfl : k = j + 1 := by omega
        exact text (j + 1) (j + 1) (Nat.le_refl _) hk
      · simp only [slF]
        cases l[j]? with
        | none => exact ih h
        | some o => simp only; rw [if_neg (by simp; omega)]; exact ih h
  let Closed (L : Nat → Bool) : Prop := ∀ i k, Anc l i k → k < l.length → L k = true → L i = true
  -- what operation k sees of the slots
  have see : ∀ (L : Nat → Bool) (k : Nat) (o : Oper), l[k]? = some o → L k = false → Closed L → (∀ i, Anc l i k → L i = true) → ∀ t, (o.dst = some t ∨ t ∈ guardSlot l.toArray o ∨ t ∈ slotsOf o.op) →
      ∀ i oi, l[i]? = some oi → oi.dst = some t → i ≠ k → L i = decide (i < k) := by
    intro L k o hk hLk hC hA t hx i oi hi hw hne
    rcases Nat.lt_or_gt_of_ne hne with h | h
    · rw [decide_eq_true h]
      exact hA i (H.cslot i k oi o t h hi hk (.inl ⟨hw, hx⟩))
    · rw [decide_eq_false (by omega)]
      have hanc : Anc l k i := H.cslot k i o oi t h hk hi (by
        rcases hx with hx | hx
        · exact .inl ⟨hx, .inl hw⟩
        · exact .inr ⟨hw, hx⟩)
      cases hLi : L i with
      | false => rfl
      | true =>
        have := hC k i hanc (List.getElem?_eq_some_iff.1 hi).1 hLi
        rw [hLk] at this
        cases this
  have see_slot : ∀ (L : Nat → Bool) (k : Nat) (o : Oper), l[k]? = some o → L k = false → Closed L → (∀ i, Anc l i k → L i = true) → ∀ t, (t ∈ guardSlot l.toArray o ∨ t ∈ slotsOf o.op) → slF l res (st 0).slots L l.length t = (st k).slots t := by
    intro L k o hk hLk hC hA t hx
    have hkl := (List.getElem?_eq_some_iff.1 hk).1
    rw [← textE k (by omega) l.length (by omega)]
    refine slF_at (fun i oi hi hd => ?_) _
    by_cases e : i = k
    · subst e; rw [hLk]; simp
    · exact see L k o hk hLk hC hA t (.inr hx) i oi hi hd e
  have meet : ∀ (L L' : Nat → Bool) (k : Nat) (o : Oper), l[k]? = some o → L k = false → Closed L → (∀ i, Anc l i k → L i = true) → (∀ i, L' i = if i = k then true else L i) → slF l res (st 0).slots L' l.length = setSlot (slF l res (st 0).slots L l.length) o.dst (res k) := by
    intro L L' k o hk hLk hC hA hL'
    have hkl := (List.getElem?_eq_some_iff.1 hk).1
    funext t
    rw [setSlot_at]
    by_cases hd : o.dst = some t
    · rw [if_pos hd, slF_at (M := fun i => decide (i < k + 1)) (fun i oi hi hdi => ?_) _, textE (k + 1) (by omega) l.length (by omega), H.slots k o hk, setSlot_at, if_pos hd]
      rw [hL']
      by_cases e : i = k
      · subst e; simp
      · rw [if_neg e, see L k o hk hLk hC hA t (.inl hd) i oi hi hdi e]
        by_cases h : i < k
        · rw [decide_eq_true h, decide_eq_true (by omega)]
        · rw [decide_eq_false h, decide_eq_false (by omega)]
    · rw [if_neg hd]
      refine slF_at (fun i oi hi hdi => ?_) _
      rw [hL', if_neg]
      rintro rfl
      rw [hk] at hi
      cases hi
      exact hd hdi
  have key : ∀ (fuel : Nat) (listed : Array Bool) (E : Env) (a : Act) (w : World), listed.size = l.toArray.size → leftOf l.toArray.size listed ≤ fuel → Closed (fun i => listed.getD i true) →
      Sim W0 R0 ns (dF N kd l.length (fun i => listed.getD i true)) ⟨slF l res (st 0).slots (fun i => listed.getD i true) l.length, mF st N kd (fun i => listed.getD i true) l.length⟩ E a w → wpAnyIn (fen (rOf W0 r)) 0 P .any l.toArray Q fuel listed a w := by
    have bound : ∀ (L : Nat → Bool) i, dF N kd l.length L i → i < N l.length := fun L i hi => by
      rcases hi with hi | ⟨k, _, _, hk, _, _, h1, h2⟩
      · exact Nat.lt_of_lt_of_le hi (mono 0 _ (Nat.zero_le _) (Nat.le_refl _))
      · exact Nat.lt_of_lt_of_le h2 (mono (k + 1) _ (by omega) (Nat.le_refl _))
    have fin : ∀ (listed : Array Bool) (E : Env) (a : Act) (w : World), listed.size = l.toArray.size →
        Sim W0 R0 ns (dF N kd l.length (fun i => listed.getD i true)) ⟨slF l res (st 0).slots (fun i => listed.getD i true) l.length, mF st N kd (fun i => listed.getD i true) l.length⟩ E a w → Region.ready .any l.toArray listed = [] → Q .normal a w := by
      intro listed E a w hsz hsim hr
      have hall := all_listed hsz hB hr
      have e : slF l res (st 0).slots (fun i => listed.getD i true) l.length = (st l.length).slots := by
        rw [← text l.length l.length (Nat.le_refl _) (Nat.le_refl _)]
        funext t
        refine slF_at (fun i oi hi _ => ?_) _
        have hil := (List.getElem?_eq_some_iff.1 hi).1
        rw [hall i (by simpa using hil), decide_eq_true hil]
      have e2 : mF st N kd (fun i => listed.getD i true) l.length = (st l.length).mem := by
        rw [← mF_text H.mem l.length (Nat.le_refl _)]
        funext x
        refine mF_at _ fun i hi _ => ?_
        rw [hall i (by simpa using hi), decide_eq_true hi]
      rw [e, e2] at hsim
      exact hQ E a w (hsim.weak (bound _))
    intro fuel
    induction fuel with
    | zero =>
      intro listed E a w hsz hl hC hsim
      have hr : Region.ready .any l.toArray listed = [] := by
        rw [List.eq_nil_iff_forall_not_mem]
        intro i hi
        have h1 := (mem_ready.1 hi).1
        have h2 : i ∈ (List.range l.toArray.size).filter fun j => !listed.getD j true := by
          rw [List.mem_filter]
          refine ⟨List.mem_range.2 ?_, by rw [h1]; rfl⟩
          obtain ⟨o, ho, _⟩ := (mem_ready.1 hi).2
          exact (Array.getElem?_eq_some_iff.1 ho).1
        unfold leftOf at hl
        rw [List.length_eq_zero_iff.1 (Nat.le_zero.1 hl)] at h2
        cases h2
      exact ⟨hr, fin listed E a w hsz hsim hr⟩
    | succ fuel ih =>
      intro listed E a w hsz hl hC hsim
      refine ⟨fun hr => fin listed E a w hsz hsim hr, fun k hk => ?_⟩
      obtain ⟨hun, o, ho, hdep⟩ := mem_ready.1 hk
      have hkl : k < l.length := by have := (Array.getElem?_eq_some_iff.1 ho).1; simpa using this
      have hlk : l[k]? = some o := by simpa using ho
      have hA : ∀ i, Anc l i k → listed.getD i true = true := by
        intro i hi
        cases hi with
        | one h1 h2 h3 =>
          rw [hlk] at h1
          cases h1
          have h4 := hdep _ (by simpa using h2) h3
          rename_i e
          rcases Nat.lt_or_ge e.on listed.size with h5 | h5
          · simp [h5] at h4 ⊢; exact h4
          · simp [Array.getElem?_eq_none h5] at h4
        | more h1 h2 h3 h4 =>
          rw [hlk] at h1
          cases h1
          rename_i e
          have h5 := hdep _ (by simpa using h2) h3
          rcases Nat.lt_or_ge e.on listed.size with h6 | h6
          · refine hC i e.on h4 (by simpa [hsz] using h6) ?_
            simp [h6] at h5 ⊢; exact h5
          · simp [Array.getElem?_eq_none h6] at h5
      have hL' : ∀ i, (listed.setIfInBounds k true).getD i true = if i = k then true else listed.getD i true := fun i => by
        by_cases e : i = k
        · subst e; rw [if_pos rfl]; simp [hsz, hkl]
        · rw [if_neg e]; exact getD_set_ne true (Ne.symm e)
      have hmeet := meet (fun i => listed.getD i true) (fun i => (listed.setIfInBounds k true).getD i true) k o hlk hun hC hA hL'
      have hC' : Closed (fun i => (listed.setIfInBounds k true).getD i true) := by
        intro i j hij hj hLj
        have hLj := (hL' j).symm.trans hLj
        refine (hL' i).trans ?_
        split
        · rfl
        · rename_i hne
          by_cases e : j = k
          · subst e; exact hA i hij
          · rw [if_neg e] at hLj; exact hC i j hij hj hLj
      have hseeS : ∀ t, (t ∈ guardSlot l.toArray o ∨ t ∈ slotsOf o.op) → slF l res (st 0).slots (fun i => listed.getD i true) l.length t = (st k).slots t := see_slot _ k o hlk hun hC hA
      have hgs : ∀ b, guardS l.toArray ns (st k) o = some b → guardS l.toArray ns ⟨slF l res (st 0).slots (fun i => listed.getD i true) l.length, mF st N kd (fun i => listed.getD i true) l.length⟩ o = some b := by
        intro b hb
        unfold guardS at hb ⊢
        have hdo : dstOk ns o.dst = true := by by_cases hd : dstOk ns o.dst = true; exact hd; rw [if_neg hd] at hb; cases hb
        rw [if_pos hdo] at hb ⊢
        cases hgd : o.guard with
        | none => rw [hgd] at hb; exact hb
        | some p =>
          obtain ⟨j, want⟩ := p
          rw [hgd] at hb
          simp only at hb ⊢
          cases hj : (l.toArray[j]?).bind (·.dst) with
          | none => rw [hj] at hb; cases hb
          | some t =>
            rw [hj] at hb
            simp only at hb ⊢
            rw [hseeS t (.inl ?_)]
            · exact hb
            · simp only [guardSlot, hgd, hj]
              simp
      have hlf := leftOf_set hsz hun fuel hl
      have dmore : ∀ i, dF N kd l.length (fun i => listed.getD i true) i → dF N kd l.length (fun i => (listed.setIfInBounds k true).getD i true) i := fun i hi => by
        rcases hi with hi | ⟨e, y, R, h1, h2, h3, h4⟩
        · exact .inl hi
        · refine .inr ⟨e, y, R, h1, ?_, h3, h4⟩
          show (listed.setIfInBounds k true).getD e true = true
          rw [hL' e]
          split
          · rfl
          · exact h2
      have keep : (∀ i, ¬ tch N kd k i) → mF st N kd (fun i => (listed.setIfInBounds k true).getD i true) l.length = mF st N kd (fun i => listed.getD i true) l.length := fun hno => by
        funext i
        refine mF_at _ fun e he ht => ?_
        rw [hL' e, if_neg]
        rintro rfl
        exact hno i ht
      unfold wpOpIn
      rw [show l.toArray[k]? = some o from ho]
      simp only
      cases hkd : kd k with
      | off =>
        have hg := H.off k o hlk hkd
        rw [guard_ok hsim (hgs _ hg), if_neg (by simp)]
        refine ⟨fun f _ => fen_fn _ f, ih _ E _ w (by simpa using hsz) hlf hC' ?_⟩
        rw [hmeet, keep (fun i ⟨y, R, h, _⟩ => by rw [hkd] at h; cases h)]
        have := (hsim.weak dmore).put (guardS_dst hg) rep_no
        simpa [res, hkd, Kd3.res] using this
      | pure x ids =>
        obtain ⟨hg, j0, hord, hst⟩ := H.pure k o x ids hlk hkd
        rw [guard_ok hsim (hgs _ hg), if_pos rfl]
        have hnot : ∀ i, ¬ tch N kd k i := fun i ⟨y, R, h, _⟩ => by rw [hkd] at h; cases h
        have hpre : ∀ n, n ≤ l.length → ∃ p, p ≤ n ∧ ∀ e, e < n → tch N kd e j0 → (listed.getD e true = true ↔ e < p) := by
          intro n
          induction n with
          | zero => intro _; exact ⟨0, Nat.le_refl _, fun e he => by omega⟩
          | succ n ihn =>
            intro hn
            obtain ⟨p, hp, h1⟩ := ihn (by omega)
            by_cases ht : tch N kd n j0
            · cases hLn : listed.getD n true with
              | true =>
                refine ⟨n + 1, Nat.le_refl _, fun e he hte => ⟨fun _ => he, fun _ => ?_⟩⟩
                by_cases hen : e = n
                · rw [hen]; exact hLn
                · exact hC e n (H.cmem e n j0 (by omega) (by omega) hte ht) (by omega) hLn
              | false =>
                refine ⟨p, by omega, fun e he hte => ?_⟩
                by_cases hen : e = n
                · rw [hen, hLn]
                  exact ⟨fun h => (by cases h), fun h => (by omega)⟩
                · exact h1 e (by omega) hte
            · refine ⟨p, by omega, fun e he hte => ?_⟩
              by_cases hen : e = n
              · rw [hen] at hte; exact absurd hte ht
              · exact h1 e (by omega) hte
        obtain ⟨p, hp, hpx⟩ := hpre l.length (Nat.le_refl _)
        refine hst p hp (fun e he1 he2 he3 => (hpx e he1 he2).1 (hA e he3)) (fun e he1 he2 he3 => ?_) _ ⟨slF l res (st 0).slots (fun i => listed.getD i true) l.length, mF st N kd (fun i => listed.getD i true) l.length⟩ (bound _) (fun t ht => hseeS t (.inr ht)) (fun i hi hne => ?_) ?_ W0 R0 B E a w hi hsim (guardS_dst hg) _ Q fun E' a' w' hs' => ?_
        · rcases Nat.lt_or_ge e p with h5 | h5
          · have h6 : listed.getD k true = true := hC k e he3 he1 ((hpx e he1 he2).2 h5)
            rw [hun] at h6; cases h6
          · exact h5
        · rw [← mF_text H.mem k (by omega)]
          refine mF_at _ fun e he ht => ?_
          obtain ⟨q1, q2⟩ := hord i hi hne e he ht
          rcases Nat.lt_trichotomy e k with h | h | h
          · rw [decide_eq_true h]; exact hA e (q1 h)
          · subst h; exact absurd ht (hnot i)
          · rw [decide_eq_false (by omega)]
            cases hLe : listed.getD e true with
            | false => rfl
            | true =>
              have h6 : listed.getD k true = true := hC k e (q2 h) he hLe
              rw [hun] at h6; cases h6
        · rw [← mF_text H.mem p hp]
          refine mF_at _ fun e he ht => ?_
          rw [Bool.eq_iff_iff, decide_eq_true_iff]
          exact hpx e he ht
        · refine ih _ E' a' w' (by simpa using hsz) hlf hC' ?_
          rw [hmeet, keep hnot]
          have := hs'.weak dmore
          simpa [res, hkd, Kd3.res] using this
      | act y R =>
        obtain ⟨hg, I, hord, hst⟩ := H.act k o y R hlk hkd
        rw [guard_ok hsim (hgs _ hg), if_pos rfl]
        have htk : ∀ i, tch N kd k i ↔ (i ∈ R ∨ New (N k) (N (k + 1)) i) := fun i => ⟨fun ⟨y', R', h, h2⟩ => by rw [hkd] at h; cases h; exact h2, fun h => ⟨y, R, hkd, h⟩⟩
        have hsee : ∀ i, tch N kd k i → ∀ e, e < l.length → tch N kd e i → e ≠ k → listed.getD e true = decide (e < k) := fun i hti e he hte hne => by
          rcases Nat.lt_or_gt_of_ne hne with h | h
          · rw [decide_eq_true h]; exact hA e (H.cmem e k i h hkl hte hti)
          · rw [decide_eq_false (by omega)]
            cases hLe : listed.getD e true with
            | false => rfl
            | true =>
              have h6 : listed.getD k true = true := hC k e (H.cmem k e i h he hti hte) he hLe
              rw [hun] at h6; cases h6
        refine hst _ ⟨slF l res (st 0).slots (fun i => listed.getD i true) l.length, mF st N kd (fun i => listed.getD i true) l.length⟩ (bound _) (fun i hd hnw => ?_) (fun t ht => hseeS t (.inr ht)) (fun i hi => ?_) (fun i hi => ?_) W0 R0 B E a w hi hsim (guardS_dst hg) _ Q fun E' a' w' hs' => ?_
        · rcases hd with hd | ⟨e, y', R', h1, h2, h3, h4⟩
          · have := mono 0 k (Nat.zero_le _) (by omega)
            have := hnw.1
            omega
          · rcases Nat.lt_trichotomy e k with h | h | h
            · have := mono (e + 1) k (by omega) (by omega)
              have := h4.2
              have := hnw.1
              omega
            · subst h
              have h2 : listed.getD e true = true := h2
              rw [hun] at h2; cases h2
            · have := mono (k + 1) e (by omega) (by omega)
              have := h4.1
              have := hnw.2
              omega
        · rw [← mF_text H.mem k (by omega)]
          refine mF_at _ fun e he ht => ?_
          by_cases hek : e = k
          · subst hek
            have hun' : listed.getD e true = false := hun
            rw [hun']; simp
          · exact hsee i ((htk i).2 (.inl hi)) e he ht hek
        · rw [← mF_text H.mem k (by omega)]
          refine mF_at _ fun e he ht => ?_
          by_cases hek : e = k
          · subst hek
            have hun' : listed.getD e true = false := hun
            rw [hun']; simp
          · obtain ⟨q1, q2⟩ := hord i hi e he hek ht
            rcases Nat.lt_or_gt_of_ne hek with h | h
            · rw [decide_eq_true h]; exact hA e (q1 h)
            · rw [decide_eq_false (by omega)]
              cases hLe : listed.getD e true with
              | false => rfl
              | true =>
                have h6 : listed.getD k true = true := hC k e (q2 h) he hLe
                rw [hun] at h6; cases h6
        · refine ih _ E' a' w' (by simpa using hsz) hlf hC' ?_
          have hmem : mF st N kd (fun i => (listed.setIfInBounds k true).getD i true) l.length = fun i => if i ∈ R ∨ New (N k) (N (k + 1)) i then (st (k + 1)).mem i else mF st N kd (fun i => listed.getD i true) l.length i := by
            funext i
            split
            · rename_i hti
              rw [← mF_text H.mem (k + 1) (by omega)]
              refine mF_at _ fun e he ht => ?_
              rw [hL' e]
              by_cases hek : e = k
              · subst hek; simp
              · rw [if_neg hek, hsee i ((htk i).2 hti) e he ht hek]
                by_cases h : e < k
                · rw [decide_eq_true h, decide_eq_true (by omega)]
                · rw [decide_eq_false h, decide_eq_false (by omega)]
            · rename_i hti
              refine mF_at _ fun e he ht => ?_
              rw [hL' e, if_neg]
              rintro rfl
              exact hti ((htk i).1 ht)
          rw [hmeet, hmem]
          have := hs'.weak (D' := dF N kd l.length (fun i => (listed.setIfInBounds k true).getD i true)) fun i hi => by
            rcases hi with hi | hi
            · exact dmore i hi
            · refine .inr ⟨k, y, R, hkl, ?_, hkd, hi⟩
              show (listed.setIfInBounds k true).getD k true = true
              rw [hL' k, if_pos rfl]
          simpa [res, hkd, Kd3.res] using this
  have hL0 : ∀ i, i < l.length → (Array.replicate l.toArray.size false).getD i true = false := fun i hi => by simp [hi]
  refine key l.toArray.size _ E a _ (by simp) (by unfold leftOf; exact Nat.le_trans (List.length_filter_le _ _) (by simp)) (fun i k hik hk hLk => by have hLk := (hL0 k hk).symm.trans hLk; cases hLk) ?_
  have e0 : slF l res (st 0).slots (fun i => (Array.replicate l.toArray.size false).getD i true) l.length = (st 0).slots := by
    refine Eq.trans ?_ (textE 0 (Nat.zero_le _) l.length (Nat.zero_le _))
    funext t
    exact slF_at (fun i oi hi _ => by rw [hL0 i (List.getElem?_eq_some_iff.1 hi).1]; rfl) _
  have e1 : mF st N kd (fun i => (Array.replicate l.toArray.size false).getD i true) l.length = (st 0).mem := by
    rw [← mF_text H.mem 0 (Nat.zero_le _)]
    funext i
    exact mF_at _ fun k hk _ => by rw [hL0 k hk]; simp
  rw [e0, e1]
  exact hs.weak fun i hi => .inl hi
theorem AWi.drawsI3 (hm : P.follows .mixedOrders = true) {id : Nat} {l : List Oper} (hB : backB l.toArray = true) {st : Nat → St} {N : Nat → Nat} {kd : Nat → Kd3} (H : Draw3 P r ns l st N kd) {Q : Post} (h : Q .normal (N l.length) (st l.length)) :
    AWi P r ns (.region id l.toArray true) (N 0) (st 0) Q := fun W0 R0 B E a w hi hs =>
  wpIn_region_any hm (draw_any3 hB H hi hs.drew fun E' a' w' hs' => ⟨_, _, E', W0, Ext.refl _, hi, hs', h⟩)
end Go.Proofs.Ytcmkkgdjhjpldaa.Eng

noncomputable section
namespace Go.Proofs.Ytcmkkgdjhjpldaa.Eng
open Go.RowKit
variable {P : Program} {T : Tab} {Z : ZTab} {Q : QTab} {M : MTab} {K : Known} {R : Runner} {r : Option Nat} {ns : Nat}
def ordB (l : List Oper) (i k : Nat) : Bool := ((ancs l []).getD k 0).testBit i
theorem fresh_nat : ∀ ids : List Nat, ∃ j, ∀ i ∈ ids, i < j
  | [] => ⟨0, by simp⟩
  | a :: l => by
    obtain ⟨j, hj⟩ := fresh_nat l
    refine ⟨max (a + 1) j, fun i hi => ?_⟩
    rcases List.mem_cons.1 hi with rfl | hi
    · omega
    · have := hj i hi; omega
end Go.Proofs.Ytcmkkgdjhjpldaa.Eng

noncomputable section
namespace Go.Proofs.Ytcmkkgdjhjpldaa.Eng
open Go.RowKit
variable {P : Program} {T : Tab} {Z : ZTab} {Q : QTab} {M : MTab} {K : Known} {R : Runner} {r : Option Nat} {ns : Nat}
theorem stepD_call {f : FuncId} {svs : List SV} {m0 mq : Mem} {n n' : Nat} {y : SV} (h : NCall P f svs m0 n n' y mq) {D : Nat → Prop} {s' : St} {o : Oper} (hD : ∀ i, D i → ¬ New n n' i) (h1 : calleeS ns s' o.op = some (f, svs)) (hm : ∀ i b, m0 i = some b → s'.mem i = some b) :
    StepD P r ns D (fun i => D i ∨ New n n' i) s' o ⟨setSlot s'.slots o.dst y, behind s'.mem m0 mq n n'⟩ := by
  intro W0 R0 B E a w _ hs hd K1 Q' hK1
  obtain ⟨vs, hex, v1, v2⟩ := calleeS_run hs h1 h.callable
  refine oper_in (fun c e => by rw [e] at h1; cases h1) ?_
  unfold Oper.wp
  rw [hex, Oper.upon_enter]
  refine (h.calls W0 R0 D s'.mem E w vs hD hm hs.ms v1 v2).mono ?_
  rintro e w' ⟨v, E', rfl, M, hE, hw, hv⟩
  exact hK1 E' _ w' ((hs.back M hE hw).put hd hv)
theorem stepD_ro {f : FuncId} {svs : List SV} {m0 : Mem} {d : Dat} (h : RCall P f svs d m0) {D : Nat → Prop} {N : Nat} {s' : St} {o : Oper} (hD : ∀ i, D i → i < N) (h1 : calleeS ns s' o.op = some (f, svs)) (hm : ∀ i b, m0 i = some b → s'.mem i = some b) {x : SV} (hx : toD3 x = some d) :
    StepD P r ns D D s' o ⟨setSlot s'.slots o.dst x, s'.mem⟩ := by
  intro W0 R0 B E a w _ hs hd K1 Q' hK1
  obtain ⟨vs, hex, v1, v2⟩ := calleeS_run hs h1 h.callable
  refine oper_in (fun c e => by rw [e] at h1; cases h1) ?_
  unfold Oper.wp
  rw [hex, Oper.upon_enter]
  refine ((h.more hm).calls W0 R0 D N E w vs hD hs.ms v1 v2).mono ?_
  rintro e w' ⟨v, E', rfl, M, hE, hw, hv⟩
  exact hK1 E' _ w' ((hs.back M hE hw).put hd ((toD3_rep hx).2 hv))
end Go.Proofs.Ytcmkkgdjhjpldaa.Eng

noncomputable section
namespace Go.Proofs.Ytcmkkgdjhjpldaa.Eng
open Go.RowKit
variable {P : Program} {T : Tab} {r : Option Nat} {ns : Nat}
open Classical in
theorem ncall_ofM {f : FuncId} {svs : List SV} {n : Nat} {m0 : Mem} {n1 : Nat} {y0 : SV} {mq : Mem} (h : CWp P f svs n m0 fun y n' m' => y0 = y ∧ n1 = n' ∧ mq = m') (hlt : ∀ i b, m0 i = some b → i < n) (hm0 : ∀ i b, m0 i = some b → OfB (fun i => (m0 i).isSome = true) b) (hargs : ∀ x ∈ svs, Of (fun i => (m0 i).isSome = true) x)
    (hq : ∀ i b, mq i = some b → ((m0 i).isSome = true ∨ New n n1 i) ∧ OfB (fun i => (m0 i).isSome = true ∨ New n n1 i) b) (hy : Of (fun i => (m0 i).isSome = true ∨ New n n1 i) y0) : NCall P f svs m0 n n1 y0 mq :=
  ⟨h.callable, fun W0 R0 D m E w vs hD hm M h1 h2 => by
    have some_of : ∀ i, (m0 i).isSome = true → ∃ b, m0 i = some b := fun i hi => Option.isSome_iff_exists.1 hi
    let W1 : Fix := { w := w, U := fun b => b < w.heap.size ∧ ∀ i c, m0 i = some c → (E.home i).blk ≠ b, lt := fun _ h => h.1, g := fun _ => undef }
    have hU : ∀ b, W0.U b → W1.U b := fun b hb => ⟨Nat.lt_of_lt_of_le (W0.lt b hb) M.below.size, fun i c hi e => M.base i c (hm i c hi) (e ▸ hb)⟩
    have hUn : ∀ i b, m i = some b → ¬ (m0 i).isSome = true → W1.U (E.home i).blk := fun i b hi hn => ⟨(M.mem i b hi).lt, fun j c hj => M.inj j i c b (hm j c hj) hi fun e => hn (by rw [← e, hj]; rfl)⟩
    let E0 : Env := { E with dom := fun i => E.dom i ∧ (m0 i).isSome = true }
    have M0 : MS W1 E.ro (· < n) m0 E0 w := ⟨Kept.refl _ _, fun _ h => h, fun _ h => .inl h, M.rlt, fun i hi => by obtain ⟨b, hb⟩ := some_of i hi.2; exact hlt i b hb, fun i b hi => ⟨M.live i b (hm i b hi), by rw [hi]; rfl⟩, fun i b hi => Holds.of (E := E) (E0 := E0) rfl (fun i a b => ⟨a, b⟩) (fun _ _ _ => rfl) (M.mem i b (hm i b hi)) (hm0 i b hi), fun i b hi h => h.2 i b hi rfl, fun i b hi => M.frz i b (hm i b hi), fun i j b c hi hj hn => M.inj i j b c (hm i b hi) (hm j c hj) hn⟩
    refine ((h.calls W1 E.ro E0 w vs M0 h1 fun i x v hx hv => Rep.of (E := E) (E0 := E0) rfl (fun i a b => ⟨a, b⟩) (fun _ _ _ => rfl) (h2 i x v hx hv) (hargs x (List.mem_of_getElem? hx)))).mono ?_
    rintro e w' ⟨v, E', n', m', y, rfl, M2, hE, hw, hv, rfl, rfl, rfl⟩
    have hro : ∀ b, E'.ro b → E.ro b ∨ ¬ W1.U b := M2.ro1
    let E2 : Env := { E' with dom := fun i => E.dom i ∨ (New n n1 i ∧ E'.dom i), home := fun i => if New n n1 i then E'.home i else E.home i }
    have live0 : ∀ i, (m0 i).isSome = true → E.dom i := fun i hi => by obtain ⟨b, hb⟩ := some_of i hi; exact M.live i b (hm i b hb)
    have not_new : ∀ i, E.dom i → ¬ New n n1 i := fun i hi => hD i (M.dom i hi)
    have home2 : ∀ i, (m0 i).isSome = true ∨ New n n1 i → E2.home i = E'.home i := fun i hi => by
      by_cases hn : New n n1 i
      · show (if New n n1 i then E'.home i else E.home i) = _
        rw [if_pos hn]
      · show (if New n n1 i then E'.home i else E.home i) = _
        rw [if_neg hn]
        have hs := hi.resolve_right hn
        exact (hE.home i ⟨live0 i hs, hs⟩).symm
    have homeE : ∀ i, E.dom i → E2.home i = E.home i := fun i hi => by
      show (if New n n1 i then E'.home i else E.home i) = _
      rw [if_neg (not_new i hi)]
    have dom2 : ∀ i, E'.dom i → (m0 i).isSome = true ∨ New n n1 i → E2.dom i := fun i hd hi => by
      rcases hi with hi | hi
      · exact .inl (live0 i hi)
      · exact .inr ⟨hi, hd⟩
    have hle : E.le E2 := ⟨hE.ro, fun _ h => .inl h, homeE⟩
    have cases_ : ∀ i b, behind m m0 mq n n1 i = some b → (((m0 i).isSome = true ∨ New n n1 i) ∧ mq i = some b) ∨ (¬ ((m0 i).isSome = true ∨ New n n1 i) ∧ m i = some b) := fun i b hb => by
      unfold behind at hb
      split at hb
      · rename_i c; exact .inl ⟨c, hb⟩
      · rename_i c; exact .inr ⟨c, hb⟩
    refine ⟨v, E2, rfl, ⟨M.below.trans (M2.below.mono hU), fun b hb => hE.ro b (M.ro0 b hb), fun b hb => ?_, M2.rlt, fun i hi => ?_, fun i b hi => ?_, fun i b hi => ?_, fun i b hi => ?_, fun i b hi => ?_, fun i j b c hi hj hn => ?_⟩, hle, hw, ?_⟩
    · rcases hro b hb with h3 | h3
      · exact M.ro1 b h3
      · exact .inr fun h4 => h3 (hU b h4)
    · rcases hi with hi | hi
      · exact .inl (M.dom i hi)
      · exact .inr hi.1
    · rcases cases_ i b hi with ⟨h3, h4⟩ | ⟨_, h4⟩
      · exact dom2 i (M2.live i b h4) h3
      · exact .inl (M.live i b h4)
    · rcases cases_ i b hi with ⟨h3, h4⟩ | ⟨h3, h4⟩
      · rw [home2 i h3]
        exact Holds.of (E := E') (E0 := E2) rfl dom2 (fun i _ hs => home2 i hs) (M2.mem i b h4) (hq i b h4).2
      · rw [homeE i (M.live i b h4)]
        exact (M.mem i b h4).keep hle hw (M2.below.block _ (hUn i b h4 fun hs => h3 (.inl hs)))
    · rcases cases_ i b hi with ⟨h3, h4⟩ | ⟨h3, h4⟩
      · rw [home2 i h3]
        exact fun h5 => M2.base i b h4 (hU _ h5)
      · rw [homeE i (M.live i b h4)]
        exact M.base i b h4
    · rcases cases_ i b hi with ⟨h3, h4⟩ | ⟨h3, h4⟩
      · rw [home2 i h3]
        exact M2.frz i b h4
      · rw [homeE i (M.live i b h4)]
        refine (M.frz i b h4).trans ⟨fun h => hE.ro _ h, fun h => ?_⟩
        rcases hro _ h with h5 | h5
        · exact h5
        · exact absurd (hUn i b h4 fun hs => h3 (.inl hs)) h5
    · rcases cases_ i b hi with ⟨h3, h4⟩ | ⟨h3, h4⟩
      · rcases cases_ j c hj with ⟨k3, k4⟩ | ⟨k3, k4⟩
        · rw [home2 i h3, home2 j k3]
          exact M2.inj i j b c h4 k4 hn
        · rw [home2 i h3, homeE j (M.live j c k4)]
          exact fun e => M2.base i b h4 (e ▸ hUn j c k4 fun hs => k3 (.inl hs))
      · rcases cases_ j c hj with ⟨k3, k4⟩ | ⟨k3, k4⟩
        · rw [homeE i (M.live i b h4), home2 j k3]
          exact fun e => M2.base j c k4 (e ▸ hUn i b h4 fun hs => h3 (.inl hs))
        · rw [homeE i (M.live i b h4), homeE j (M.live j c k4)]
          exact M.inj i j b c h4 k4 hn
    · exact Rep.of (E := E') (E0 := E2) rfl dom2 (fun i _ hs => home2 i hs) hv hy⟩
structure EnV where
  k : Kd3
  n : Nat
  s : St
  n' : Nat
  s' : St
  rd : List Nat
def EnV.reads (e : EnV) : List Nat := match e.k with
  | .pure _ ids => ids
  | .act _ _ => e.rd
  | .off => []
def EnV.tch (e : EnV) (b : Nat) : Prop := match e.k with
  | .act _ R => b ∈ R ∨ New e.n e.n' b
  | _ => False
open Classical in
structure EnVOk (P : Program) (r : Option Nat) (ns : Nat) (ops : Array Oper) (o : Oper) (e : EnV) : Prop where
  k : match e.k with
    | .off => guardS ops ns e.s o = some false ∧ e.n' = e.n ∧ e.s' = ⟨setSlot e.s.slots o.dst (.tup []), e.s.mem⟩
    | .pure x ids => guardS ops ns e.s o = some true ∧ (∀ (s' : St) (D : Nat → Prop) (N : Nat), (∀ i, D i → i < N) → (∀ t ∈ slotsOf o.op, s'.slots t = e.s.slots t) → (∀ i ∈ ids, s'.mem i = e.s.mem i) → StepD P r ns D D s' o ⟨setSlot s'.slots o.dst x, s'.mem⟩) ∧ e.n' = e.n ∧ e.s' = ⟨setSlot e.s.slots o.dst x, e.s.mem⟩
    | .act y R => guardS ops ns e.s o = some true ∧ (∀ (D : Nat → Prop) (s' : St), (∀ i, D i → ¬ New e.n e.n' i) → (∀ t ∈ slotsOf o.op, s'.slots t = e.s.slots t) → (∀ i ∈ R, s'.mem i = e.s.mem i) → (∀ i ∈ e.rd, s'.mem i = e.s.mem i) →
        StepD P r ns D (fun i => D i ∨ New e.n e.n' i) s' o ⟨setSlot s'.slots o.dst y, fun i => if i ∈ R ∨ New e.n e.n' i then e.s'.mem i else s'.mem i⟩) ∧ e.n ≤ e.n' ∧ e.s'.slots = setSlot e.s.slots o.dst y ∧ ∀ i, ¬ (i ∈ R ∨ New e.n e.n' i) → e.s'.mem i = e.s.mem i
inductive ChainV (P : Program) (r : Option Nat) (ns : Nat) (ops : Array Oper) : List Oper → List EnV → Nat → St → Nat → St → Prop
  | nil (n s) : ChainV P r ns ops [] [] n s n s
  | cons {o l e es nF sF} : EnVOk P r ns ops o e → ChainV P r ns ops l es e.n' e.s' nF sF → ChainV P r ns ops (o :: l) (e :: es) e.n e.s nF sF
def stV (es : List EnV) (sF : St) (k : Nat) : St := match es[k]? with
  | some e => e.s
  | none => sF
def nV (es : List EnV) (nF : Nat) (k : Nat) : Nat := match es[k]? with
  | some e => e.n
  | none => nF
def kdV (es : List EnV) (k : Nat) : Kd3 := match es[k]? with
  | some e => e.k
  | none => .off
theorem chainV_len {ops : Array Oper} {l : List Oper} {es : List EnV} {n nF : Nat} {s sF : St} (h : ChainV P r ns ops l es n s nF sF) : es.length = l.length := by
  induction h with
  | nil => rfl
  | cons _ _ ih => simp [ih]
theorem chainV_zero {ops : Array Oper} {l : List Oper} {es : List EnV} {n nF : Nat} {s sF : St} (h : ChainV P r ns ops l es n s nF sF) : stV es sF 0 = s ∧ nV es nF 0 = n := by
  cases h with
  | nil => exact ⟨rfl, rfl⟩
  | cons => exact ⟨rfl, rfl⟩
theorem chainV_at {ops : Array Oper} {l : List Oper} {es : List EnV} {n nF : Nat} {s sF : St} (h : ChainV P r ns ops l es n s nF sF) : ∀ (k : Nat) o, l[k]? = some o → ∃ e, es[k]? = some e ∧ EnVOk P r ns ops o e ∧ (stV es sF k = e.s ∧ nV es nF k = e.n) ∧ stV es sF (k + 1) = e.s' ∧ nV es nF (k + 1) = e.n' := by
  induction h with
  | nil => intro k o hk; simp at hk
  | @cons o l e es nF sF he hc ih =>
    intro k o' hk
    match k with
    | 0 =>
      simp only [List.getElem?_cons_zero, Option.some.injEq] at hk
      subst hk
      exact ⟨e, rfl, he, ⟨rfl, rfl⟩, chainV_zero hc⟩
    | k + 1 =>
      obtain ⟨e', h1, h2, h3, h4⟩ := ih k o' (by simpa using hk)
      exact ⟨e', by simpa using h1, h2, h3, h4⟩
theorem chainV_end {ops : Array Oper} {l : List Oper} {es : List EnV} {n nF : Nat} {s sF : St} (h : ChainV P r ns ops l es n s nF sF) : stV es sF l.length = sF ∧ nV es nF l.length = nF := by
  unfold stV nV
  rw [List.getElem?_eq_none (by rw [chainV_len h]; omega)]
  exact ⟨rfl, rfl⟩
def FreeV (a e : EnV) : Prop := (∀ b, ¬ (a.tch b ∧ e.tch b)) ∧ (∀ i ∈ e.reads, ¬ a.tch i) ∧ ∀ i ∈ a.reads, ¬ e.tch i
theorem draw3_V {l : List Oper} {es : List EnV} {n nF : Nat} {s sF : St} (h : ChainV P r ns l.toArray l es n s nF sF) (hst : stOk l.toArray = true) (hp : ∀ i k ei ek, i < k → es[i]? = some ei → es[k]? = some ek → ordB l i k = true ∨ FreeV ei ek) :
    Draw3 P r ns l (stV es sF) (nV es nF) (kdV es) := by
  have hlen := chainV_len h
  have at_ : ∀ (k : Nat), k < l.length → ∃ o e, l[k]? = some o ∧ es[k]? = some e ∧ EnVOk P r ns l.toArray o e ∧ (stV es sF k = e.s ∧ nV es nF k = e.n) ∧ stV es sF (k + 1) = e.s' ∧ nV es nF (k + 1) = e.n' := fun k hk => by
    obtain ⟨e, h1, h2, h3, h4⟩ := chainV_at h k _ (List.getElem?_eq_getElem hk)
    exact ⟨_, e, List.getElem?_eq_getElem hk, h1, h2, h3, h4⟩
  unfold stOk at hst
  rw [Bool.and_eq_true] at hst
  have bitD : ∀ {i k : Nat}, ordB l i k = true → Anc l i k := fun {i k} hb => ancs_ok l [] [] rfl rfl (fun k i hk => by simp at hk) k i hb
  have bit : ∀ {i k b : Nat}, (ancs l [])[k]? = some b → b.testBit i = true → Anc l i k := fun {i k b} hb hbt => bitD (by unfold ordB; rw [List.getD_eq_getElem?_getD, hb]; simpa using hbt)
  have tchV : ∀ k e i, es[k]? = some e → tch (nV es nF) (kdV es) k i → e.tch i := fun k e i he ht => by
    have hk : k < l.length := by rw [← hlen]; exact (List.getElem?_eq_some_iff.1 he).1
    obtain ⟨y, R, hkd, ht⟩ := ht
    obtain ⟨o, e', _, g1, _, g3, g4⟩ := at_ k hk
    rw [he] at g1
    cases g1
    simp only [kdV, he] at hkd
    simp only [New, g3.2, g4.2] at ht
    unfold EnV.tch
    rw [hkd]
    exact ht
  refine ⟨fun k o hk => ?_, fun k hk i hi => ?_, fun k hk => ?_, fun k o hk hd => ?_, fun k o x ids hk hd => ?_, fun k o y R hk hd => ?_, fun i k oi ok t hik hi hk ht => ?_, fun i k b hik hk hi he => ?_⟩
  · obtain ⟨e, g1, g2, g3, g4⟩ := chainV_at h k o hk
    have hk2 := g2.k
    rw [g3.1, g4.1]
    simp only [kdV, g1]
    cases hek : e.k with
    | off => rw [hek] at hk2; rw [hk2.2.2]; rfl
    | pure x ids => rw [hek] at hk2; rw [hk2.2.2.2]; rfl
    | act y R => rw [hek] at hk2; rw [hk2.2.2.2.1]; rfl
  · obtain ⟨o, e, _, g1, g2, g3, g4⟩ := at_ k hk
    have hk2 := g2.k
    rw [g3.1, g4.1]
    cases hek : e.k with
    | off => rw [hek] at hk2; rw [hk2.2.2]
    | pure x ids => rw [hek] at hk2; rw [hk2.2.2.2]
    | act y R =>
      rw [hek] at hk2
      refine hk2.2.2.2.2 i fun hc => hi ⟨y, R, by simp only [kdV, g1, hek], ?_⟩
      simp only [g3.2, g4.2]
      exact hc
  · obtain ⟨o, e, _, g1, g2, g3, g4⟩ := at_ k hk
    have hk2 := g2.k
    rw [g3.2, g4.2]
    cases hek : e.k with
    | off => rw [hek] at hk2; rw [hk2.2.1]; exact Nat.le_refl _
    | pure x ids => rw [hek] at hk2; rw [hk2.2.2.1]; exact Nat.le_refl _
    | act y R => rw [hek] at hk2; exact hk2.2.2.1
  · obtain ⟨e, g1, g2, g3, g4⟩ := chainV_at h k o hk
    simp only [kdV, g1] at hd
    have hk2 := g2.k
    rw [hd] at hk2
    rw [g3.1]
    exact hk2.1
  · obtain ⟨e, g1, g2, g3, g4⟩ := chainV_at h k o hk
    simp only [kdV, g1] at hd
    have hk2 := g2.k
    rw [hd] at hk2
    obtain ⟨j0, hj0⟩ := fresh_nat ids
    have hkl : k < l.length := (List.getElem?_eq_some_iff.1 hk).1
    rw [g3.1]
    refine ⟨hk2.1, j0, fun i hi _ e' he' ht => ?_, fun p _ _ _ D s' hDN hsl hme _ => hk2.2.1 s' D _ hDN hsl fun i hi => hme i hi (Nat.ne_of_lt (hj0 i hi))⟩
    obtain ⟨o', ee, _, q1, _⟩ := at_ e' he'
    have h9 := tchV e' ee i q1 ht
    have hri : i ∈ e.reads := by unfold EnV.reads; rw [hd]; exact hi
    refine ⟨fun hlt => ?_, fun hlt => ?_⟩
    · rcases hp e' k ee e hlt q1 g1 with q | q
      · exact bitD q
      · exact absurd h9 (q.2.1 i hri)
    · rcases hp k e' e ee hlt g1 q1 with q | q
      · exact bitD q
      · exact absurd h9 (q.2.2 i hri)
  · obtain ⟨e, g1, g2, g3, g4⟩ := chainV_at h k o hk
    simp only [kdV, g1] at hd
    have hk2 := g2.k
    rw [hd] at hk2
    rw [g3.1, g3.2, g4.1, g4.2]
    refine ⟨hk2.1, e.rd, fun i hi e' he' hne ht => ?_, fun D s' _ hD hsl hR hI => hk2.2.1 D s' hD hsl hR hI⟩
    obtain ⟨o', ee, _, q1, _⟩ := at_ e' he'
    have h9 := tchV e' ee i q1 ht
    have hri : i ∈ e.reads := by unfold EnV.reads; rw [hd]; exact hi
    refine ⟨fun hlt => ?_, fun hlt => ?_⟩
    · rcases hp e' k ee e hlt q1 g1 with q | q
      · exact bitD q
      · exact absurd h9 (q.2.1 i hri)
    · rcases hp k e' e ee hlt g1 q1 with q | q
      · exact bitD q
      · exact absurd h9 (q.2.2 i hri)
  · have a1 : (l.toArray.toList.map fun o => (maskL (guardSlot l.toArray o ++ slotsOf o.op), maskL o.dst.toList))[i]? = some (maskL (guardSlot l.toArray oi ++ slotsOf oi.op), maskL oi.dst.toList) := by simp [hi]
    have a2 : (l.toArray.toList.map fun o => (maskL (guardSlot l.toArray o ++ slotsOf o.op), maskL o.dst.toList))[k]? = some (maskL (guardSlot l.toArray ok ++ slotsOf ok.op), maskL ok.dst.toList) := by simp [hk]
    obtain ⟨b, hb, h5⟩ := stAll_spec hst.2 (by rw [ancs_len]; simp) i k _ _ hik a1 a2
    rcases h5 with h5 | h6
    · exact bit hb (by simpa using h5)
    · exfalso
      obtain ⟨h7, h8⟩ := or_zero h6
      rcases ht with ⟨ht, h9⟩ | ⟨ht, h9⟩
      · refine and_bit h7 (x := t) (maskL_mem (by simp [ht])) ?_
        rw [Nat.testBit_or, Bool.or_eq_true]
        rcases h9 with h9 | h9 | h9
        · exact .inr (maskL_mem (by simp [h9]))
        · exact .inl (maskL_mem (List.mem_append_left _ h9))
        · exact .inl (maskL_mem (List.mem_append_right _ h9))
      · refine and_bit h8 (x := t) (maskL_mem ?_) (maskL_mem (by simp [ht]))
        rcases h9 with h9 | h9
        · exact List.mem_append_left _ h9
        · exact List.mem_append_right _ h9
  · obtain ⟨o1, e1, _, q1, _⟩ := at_ i (by omega)
    obtain ⟨o2, e2, _, q2, _⟩ := at_ k hk
    rcases hp i k e1 e2 hik q1 q2 with q | q
    · exact bitD q
    · exact absurd ⟨tchV i e1 b q1 hi, tchV k e2 b q2 he⟩ (q.1 b)
structure FtV where
  n : Nat
  n' : Nat
  wr : List Nat
  rd : List Nat
def EnV.wr (e : EnV) : List Nat := match e.k with
  | .act _ R => R
  | _ => []
def EnV.ft (e : EnV) : FtV := ⟨e.n, e.n', e.wr, e.reads⟩
def AllAcc (f : Nat → FtV → Prop) : Nat → List FtV → Prop
  | _, [] => True
  | i, a :: acc => f i a ∧ AllAcc f (i + 1) acc
theorem allAcc_at {f : Nat → FtV → Prop} : ∀ {acc : List FtV} {i : Nat}, AllAcc f i acc → ∀ j a, acc[j]? = some a → f (i + j) a
  | [], i, _, j, a, h => by simp at h
  | a0 :: acc, i, hf, 0, a, h => by simp at h; subst h; exact hf.1
  | a0 :: acc, i, hf, j + 1, a, h => by
    have := allAcc_at hf.2 j a (by simpa using h)
    rwa [show i + 1 + j = i + (j + 1) by omega] at this
def IdOk (l : List Oper) (k n0 : Nat) (acc : List FtV) (id : Nat) : Prop := (id < n0 ∧ AllAcc (fun _ a => id ∉ a.wr) 0 acc) ∨ AllAcc (fun i a => ordB l i k = true ∨ (id ∉ a.wr ∧ ¬ (a.n ≤ id ∧ id < a.n'))) 0 acc
def OkV (l : List Oper) (k n0 : Nat) (acc : List FtV) (e : FtV) : Prop := (∀ id ∈ e.wr ++ e.rd, id < e.n ∧ IdOk l k n0 acc id) ∧ (e.wr = [] ∨ AllAcc (fun i a => ordB l i k = true ∨ ∀ id ∈ e.wr, id ∉ a.rd) 0 acc)
def ExecV (P : Program) (r : Option Nat) (ns : Nat) (l0 : List Oper) (n0 : Nat) : List Oper → Nat → St → List FtV → (Nat → St → Prop) → Prop
  | [], n, s, _, Q => Q n s
  | o :: l, n, s, acc, Q => ∃ e : EnV, e.n = n ∧ e.s = s ∧ EnVOk P r ns l0.toArray o e ∧ OkV l0 acc.length n0 acc e.ft ∧ ExecV P r ns l0 n0 l e.n' e.s' (acc ++ [e.ft]) Q
theorem EnVOk.le {ops : Array Oper} {o : Oper} {e : EnV} (h : EnVOk P r ns ops o e) : e.n ≤ e.n' := by
  have hk := h.k
  cases hek : e.k with
  | off => rw [hek] at hk; rw [hk.2.1]; exact Nat.le_refl _
  | pure x ids => rw [hek] at hk; rw [hk.2.2.1]; exact Nat.le_refl _
  | act y R => rw [hek] at hk; exact hk.2.2.1
theorem tch_iff {e : EnV} {b : Nat} (h : e.tch b) : b ∈ e.wr ∨ (e.n ≤ b ∧ b < e.n') := by
  unfold EnV.tch at h
  unfold EnV.wr
  split at h
  · exact h
  · exact h.elim
theorem free_of {l : List Oper} {k n0 : Nat} {acc : List FtV} {a e : EnV} {i : Nat} (ho : OkV l k n0 acc e.ft) (ha : acc[i]? = some a.ft) (h0 : n0 ≤ a.n) (h1 : a.n' ≤ e.n) (h9 : a.n ≤ a.n') (ht : ∀ id ∈ a.wr ++ a.reads, id < a.n) : ordB l i k = true ∨ FreeV a e := by
  cases hord : ordB l i k with
  | true => exact .inl rfl
  | false =>
    obtain ⟨o1, o2⟩ := ho
    have ids : ∀ id ∈ e.wr ++ e.reads, id ∉ a.wr ∧ ¬ (a.n ≤ id ∧ id < a.n') := fun id hid => by
      obtain ⟨_, q | q⟩ := o1 id hid
      · have h2 : id ∉ a.wr := allAcc_at q.2 i _ ha
        have h3 := q.1
        exact ⟨h2, by omega⟩
      · have := allAcc_at q i _ ha
        rw [Nat.zero_add] at this
        exact this.resolve_left (by rw [hord]; simp)
    refine .inr ⟨fun b ⟨t1, t2⟩ => ?_, fun id hid t1 => ?_, fun id hid t2 => ?_⟩
    · rcases tch_iff t2 with t2 | t2
      · obtain ⟨q1, q2⟩ := ids b (List.mem_append_left _ t2)
        exact (tch_iff t1).elim q1 q2
      · rcases tch_iff t1 with t1 | t1
        · have := ht b (List.mem_append_left _ t1)
          omega
        · omega
    · obtain ⟨q1, q2⟩ := ids id (List.mem_append_right _ hid)
      exact (tch_iff t1).elim q1 q2
    · have h4 := ht id (List.mem_append_right _ hid)
      rcases tch_iff t2 with t2 | t2
      · rcases o2 with o2 | o2
        · have o2 : e.wr = [] := o2
          rw [o2] at t2; cases t2
        · have := allAcc_at o2 i _ ha
          rw [Nat.zero_add] at this
          exact this.resolve_left (by rw [hord]; simp) id t2 hid
      · omega
theorem execV_chain {l0 : List Oper} {n0 : Nat} : ∀ (l : List Oper) (n : Nat) (s : St) (acc : List EnV) {Q : Nat → St → Prop}, (∀ a ∈ acc, n0 ≤ a.n ∧ a.n' ≤ n ∧ a.n ≤ a.n' ∧ ∀ id ∈ a.wr ++ a.reads, id < a.n) → n0 ≤ n → ExecV P r ns l0 n0 l n s (acc.map EnV.ft) Q → ∃ es nF sF, ChainV P r ns l0.toArray l es n s nF sF ∧ Q nF sF ∧ ∀ i k ei ek, i < k → acc.length ≤ k → (acc ++ es)[i]? = some ei → (acc ++ es)[k]? = some ek → ordB l0 i k = true ∨ FreeV ei ek
  | [], n, s, acc, Q, _, _, h => ⟨[], n, s, .nil n s, h, fun i k ei ek _ hk _ h2 => by rw [List.append_nil, List.getElem?_eq_none hk] at h2; cases h2⟩
  | o :: l, n, s, acc, Q, hacc, hn, ⟨e, h1, h2, h3, h4, h5⟩ => by
    subst h1
    subst h2
    have hle := h3.le
    obtain ⟨es, nF, sF, k1, k2, k3⟩ := execV_chain l e.n' e.s' (acc ++ [e]) (fun a ha => by
      rcases List.mem_append.1 ha with ha | ha
      · obtain ⟨q1, q2, q9, q3⟩ := hacc a ha
        exact ⟨q1, Nat.le_trans q2 hle, q9, q3⟩
      · rw [List.mem_singleton] at ha
        subst ha
        exact ⟨hn, Nat.le_refl _, hle, fun id hid => (h4.1 id hid).1⟩) (Nat.le_trans hn hle) (by rw [List.map_append]; exact h5)
    refine ⟨e :: es, nF, sF, .cons h3 k1, k2, fun i k ei ek hik hk hi hke => ?_⟩
    have e1 : acc ++ e :: es = (acc ++ [e]) ++ es := by simp
    rcases Nat.lt_or_ge acc.length k with h | h
    · rw [e1] at hi hke
      exact k3 i k ei ek hik (by simp; omega) hi hke
    · obtain rfl : k = acc.length := by omega
      rw [List.getElem?_append_right (Nat.le_refl _)] at hke
      simp at hke
      subst hke
      rw [List.getElem?_append_left hik] at hi
      obtain ⟨q1, q2, q9, q3⟩ := hacc ei (List.mem_of_getElem? hi)
      rw [List.length_map] at h4
      exact free_of h4 (by rw [List.getElem?_map, hi]; rfl) q1 q2 q9 q3
theorem AWi.drawsV (hm : P.follows .mixedOrders = true) {id : Nat} {l : List Oper} (hst : stOk l.toArray = true) {n : Nat} {s : St} {Q : Post} (h : ExecV P r ns l n l n s [] (fun n' s' => Q .normal n' s')) : AWi P r ns (.region id l.toArray true) n s Q := by
  obtain ⟨es, nF, sF, k1, k2, k3⟩ := execV_chain l n s [] (fun _ h => by cases h) (Nat.le_refl _) h
  have hD := draw3_V k1 hst fun i k ei ek hik hi hk => k3 i k ei ek hik (Nat.zero_le _) hi hk
  have hB : backB l.toArray = true := by unfold stOk at hst; rw [Bool.and_eq_true] at hst; exact hst.1
  have := AWi.drawsI3 (r := r) (id := id) hm hB hD (Q := Q) (by rw [(chainV_end k1).1, (chainV_end k1).2]; exact k2)
  rw [(chainV_zero k1).1, (chainV_zero k1).2] at this
  exact this
end Go.Proofs.Ytcmkkgdjhjpldaa.Eng

noncomputable section
namespace Go.Proofs.Ytcmkkgdjhjpldaa.Eng
open Go.RowKit
variable {P : Program} {T : Tab} {r : Option Nat} {ns : Nat}
def isPure : Op → Bool
  | .box .. | .alloc _ | .buildSlice .. | .makeSlice .. | .store .. => false
  | .call c => match c.callee with
    | .builtin .append => false
    | .builtin _ => true
    | _ => false
  | _ => true
theorem pure_run (hT : TabOk P T) {W0 : Fix} {R0 D : Nat → Prop} {s : St} {E : Env} {a : Act} {w : World} (h : Sim W0 R0 ns D s E a w) {o : Oper} {nid : Nat} {x : SV} (hp : isPure o.op = true) (hs : aop T s.mem nid (opd ns s) o.op = some { res := x }) : ∃ v, (execOp a.eval o).run P w = .ok (.value v) w ∧ Rep E w x v := by
  have hev : ∀ x v, opd ns s x = some v → Rep E w v (a.eval x) := fun x v hx => h.opd hx
  have fin : ∀ {r : SV}, aopR T s.mem (opd ns s) o.op = some r → ({ res := r } : Out) = { res := x } → ∃ v, (execOp a.eval o).run P w = .ok (.value v) w ∧ Rep E w x v := fun {r} hr e => by
    cases e
    exact aopR_run hT hev h.mem hr
  unfold aop at hs
  split at hs
  · rename_i ho; rw [ho] at hp; cases hp
  · rename_i ho; rw [ho] at hp; cases hp
  · rename_i t ps ho
    split at hs
    · rename_i i l hi hl
      split at hs
      · rename_i hkn
        rw [Option.map_eq_some_iff] at hs
        obtain ⟨c, hc, e⟩ := hs
        cases e
        obtain ⟨p1, p2⟩ := evParts_rep (w := w) (E := E) hev hl
        obtain ⟨z, hz, hr⟩ := build_run (w := w) (E := E) hT hi hkn (ps := ps.map fun (i, x) => (i, a.eval x)) (by simpa using p1) (fun j p q hp hq => p2 j p q hp (by simpa using hq)) hc
        exact ⟨z, by simp only [execOp, ho, Sem.run_bind, hz, Result.andThen_ok]; rfl, hr⟩
      · cases hs
    · cases hs
  · rename_i ho; rw [ho] at hp; cases hp
  · rename_i ho; rw [ho] at hp; cases hp
  · rename_i ho; rw [ho] at hp; cases hp
  · rename_i c ho
    split at hs
    · rename_i hc _ _
      rw [ho] at hp
      simp only [isPure, hc] at hp
      cases hp
    · rw [Option.map_eq_some_iff] at hs
      obtain ⟨r, hr, e⟩ := hs
      exact fin (by rw [ho]; exact hr) e
  · rw [Option.map_eq_some_iff] at hs
    obtain ⟨r, hr, e⟩ := hs
    exact fin hr e
section
variable {l0 : List Oper} {n0 : Nat} {o : Oper} {l : List Oper} {n : Nat} {s : St} {acc : List FtV} {Q : Nat → St → Prop}
theorem ExecV.pure (hT : TabOk P T) {x : SV} (hg : guardS l0.toArray ns s o = some true) (hp : isPure o.op = true) (hw : waits o.op = false) (hx : aop T s.mem n (opd ns s) o.op = some { res := x }) (hok : OkV l0 acc.length n0 acc ⟨n, n, [], idsRead s o.op⟩)
    (h : ExecV P r ns l0 n0 l n ⟨setSlot s.slots o.dst x, s.mem⟩ (acc ++ [⟨n, n, [], idsRead s o.op⟩]) Q) : ExecV P r ns l0 n0 (o :: l) n s acc Q :=
  ⟨⟨.pure x (idsRead s o.op), n, s, n, ⟨setSlot s.slots o.dst x, s.mem⟩, []⟩, rfl, rfl, ⟨⟨hg, fun s' D N _ hsl hme => by
    intro W0 R0 B E a w hin hs hd K1 Q' hK1
    have hst := step_local (P := P) ((step_plain (P := P) hw).2 hx) hsl hme (fun _ h => by cases h)
    obtain ⟨v, hr, hv⟩ := pure_run hT hs hp ((step_plain hw).1 hst)
    refine oper_in (noDefer_spec (aop_noDefer hx) List.mem_cons_self) ?_
    unfold Oper.wp
    rw [hr]
    exact hK1 E _ w (hs.put hd hv), rfl, rfl⟩⟩, hok, h⟩
open Classical in
theorem ExecV.new (hT : TabOk P T) {y : SV} {b : Blk} (hg : guardS l0.toArray ns s o = some true) (hw : waits o.op = false) (hx : aop T s.mem n (opd ns s) o.op = some { res := y, nw := some b }) (hok : OkV l0 acc.length n0 acc ⟨n, n + 1, [], idsRead s o.op⟩)
    (h : ExecV P r ns l0 n0 l (n + 1) ⟨setSlot s.slots o.dst y, setMem s.mem n (some b)⟩ (acc ++ [⟨n, n + 1, [], idsRead s o.op⟩]) Q) : ExecV P r ns l0 n0 (o :: l) n s acc Q :=
  ⟨⟨.act y [], n, s, n + 1, ⟨setSlot s.slots o.dst y, setMem s.mem n (some b)⟩, idsRead s o.op⟩, rfl, rfl, ⟨⟨hg, fun D s' hD hsl _ hrd => by
    intro W0 R0 B E a w hin hs hd K1 Q' hK1
    have hst := step_local (P := P) ((step_plain (P := P) hw).2 hx) hsl hrd (fun _ h => by cases h)
    have hDn : ¬ D n := fun h => hD n h ⟨Nat.le_refl _, Nat.lt_succ_self _⟩
    obtain ⟨E', w', h2, h3⟩ := aop_run hT hs hDn ((step_plain hw).1 hst)
    have hm : (fun i => if i ∈ ([] : List Nat) ∨ New n (n + 1) i then setMem s.mem n (some b) i else s'.mem i) = setMem s'.mem n (some b) := by
      funext i
      by_cases e : i = n
      · subst e; rw [if_pos (.inr ⟨Nat.le_refl _, Nat.lt_succ_self _⟩)]; simp [setMem]
      · rw [if_neg (fun h => h.elim (by simp) fun h => e (by have := h.1; have := h.2; omega))]; simp [setMem, e]
    have h4 : Sim W0 R0 ns (fun i => D i ∨ New n (n + 1) i) ⟨s'.slots, setMem s'.mem n (some b)⟩ E' a w' := h2.weak fun i hi => hi.elim (fun e => .inr (by subst e; exact ⟨Nat.le_refl _, Nat.lt_succ_self _⟩)) .inl
    refine oper_in (noDefer_spec (aop_noDefer hx) List.mem_cons_self) ?_
    unfold Oper.wp
    rcases h3 with ⟨v, hr, hv⟩ | ⟨hr, hu⟩
    · rw [hr]
      refine hK1 E' _ w' ?_
      rw [hm]
      exact h4.put hd hv
    · rw [hr]
      refine hK1 E' _ w' ?_
      rw [hm]
      have hu : y = .und := hu
      subst hu
      exact h4.put hd (Rep.und (E := E') (w := w') undef), Nat.le_succ _, rfl, fun i hi => by
    have e : ¬ i = n := fun e => hi (.inr (by subst e; exact ⟨Nat.le_refl _, Nat.lt_succ_self _⟩))
    simp [setMem, e]⟩⟩, hok, h⟩
open Classical in
theorem ExecV.store (hT : TabOk P T) {t : TypeId} {x y : Operand} {id : Nat} {b : Option Blk} (ho : o.op = .store t x y) (hg : guardS l0.toArray ns s o = some true) (hx : aop T s.mem n (opd ns s) o.op = some { res := .und, wr := some (id, b) }) (hok : OkV l0 acc.length n0 acc ⟨n, n, [id], idsRead s o.op⟩)
    (h : ExecV P r ns l0 n0 l n ⟨setSlot s.slots o.dst .und, setMem s.mem id b⟩ (acc ++ [⟨n, n, [id], idsRead s o.op⟩]) Q) : ExecV P r ns l0 n0 (o :: l) n s acc Q :=
  ⟨⟨.act .und [id], n, s, n, ⟨setSlot s.slots o.dst .und, setMem s.mem id b⟩, idsRead s o.op⟩, rfl, rfl, ⟨⟨hg, fun D s' hD hsl _ hrd => by
    intro W0 R0 B E a w hin hs hd K1 Q' hK1
    have hw : waits o.op = false := by rw [ho]; rfl
    have hst := step_local (P := P) ((step_plain (P := P) hw).2 hx) hsl hrd (fun _ h => by cases h)
    have hx' := (step_plain (P := P) hw).1 hst
    rw [ho] at hx'
    simp only [aop] at hx'
    split at hx'
    · rename_i i id' rr j v hi h1 h2
      have hr1 := hs.opd h1
      have hD1 : D id' := by
        obtain ⟨u, hu⟩ : ∃ u, a.eval x = u := ⟨_, rfl⟩
        rw [hu] at hr1
        cases hr1 with
        | ptr _ _ _ hd => exact hs.dom _ hd
      obtain ⟨E', w', q2, q3⟩ := store_run (nid := id') hT hs ho hi hr1 (hs.opd h2) hx'
      have hm : (fun i => if i ∈ [id] ∨ New n n i then setMem s.mem id b i else s'.mem i) = setMem s'.mem id b := by
        funext i
        by_cases e : i = id
        · subst e; rw [if_pos (.inl List.mem_cons_self)]; simp [setMem]
        · rw [if_neg (fun h => h.elim (fun h => e (List.mem_singleton.1 h)) fun h => by have := h.1; have := h.2; omega)]; simp [setMem, e]
      have q4 : Sim W0 R0 ns (fun i => D i ∨ New n n i) ⟨s'.slots, setMem s'.mem id b⟩ E' a w' := q2.weak fun i hi => hi.elim (fun e => .inl (e ▸ hD1)) .inl
      refine oper_in (noDefer_spec (aop_noDefer hx) List.mem_cons_self) ?_
      unfold Oper.wp
      rcases q3 with ⟨v, hr, hv⟩ | ⟨hr, hu⟩
      · rw [hr]
        refine hK1 E' _ w' ?_
        rw [hm]
        exact q4.put hd hv
      · rw [hr]
        refine hK1 E' _ w' ?_
        rw [hm]
        exact q4.put hd (Rep.und (E := E') (w := w') undef)
    · exact (by cases hx'), Nat.le_refl _, rfl, fun i hi => by
    have e : ¬ i = id := fun e => hi (.inl (by subst e; exact List.mem_cons_self))
    simp [setMem, e]⟩⟩, hok, h⟩
theorem ExecV.ro {f : FuncId} {svs : List SV} {d : Dat} {x : SV} (rds : List Nat) (hc : RCall P f svs d (only s.mem rds)) (hxd : toD3 x = some d) (hg : guardS l0.toArray ns s o = some true) (h1 : calleeS ns s o.op = some (f, svs)) (hok : OkV l0 acc.length n0 acc ⟨n, n, [], rds⟩)
    (h : ExecV P r ns l0 n0 l n ⟨setSlot s.slots o.dst x, s.mem⟩ (acc ++ [⟨n, n, [], rds⟩]) Q) : ExecV P r ns l0 n0 (o :: l) n s acc Q :=
  ⟨⟨.pure x rds, n, s, n, ⟨setSlot s.slots o.dst x, s.mem⟩, []⟩, rfl, rfl, ⟨⟨hg, fun s' D N hD hsl hme => stepD_ro hc hD (by
    rw [← h1]
    exact calleeS_congr fun x hx => opd_congr fun t ht => hsl t (mem_slotsOf (ht ▸ hx))) (fun i b hb => by
    unfold only at hb
    split at hb
    · rename_i hm
      exact (hme i hm).trans hb
    · cases hb) hxd, rfl, rfl⟩⟩, hok, h⟩
open Classical in
theorem ExecV.calln {f : FuncId} {svs : List SV} {y : SV} {mq m' : Mem} {n' : Nat} (rds : List Nat) (hc : NCall P f svs (only s.mem rds) n n' y mq) (hn : n ≤ n') (hr : ∀ i ∈ rds, (s.mem i).isSome = true ∧ mq i = s.mem i) (hm : ∀ i, (New n n' i → m' i = mq i) ∧ (¬ New n n' i → m' i = s.mem i)) (hg : guardS l0.toArray ns s o = some true) (h1 : calleeS ns s o.op = some (f, svs)) (hok : OkV l0 acc.length n0 acc ⟨n, n', [], rds⟩)
    (h : ExecV P r ns l0 n0 l n' ⟨setSlot s.slots o.dst y, m'⟩ (acc ++ [⟨n, n', [], rds⟩]) Q) : ExecV P r ns l0 n0 (o :: l) n s acc Q :=
  ⟨⟨.act y [], n, s, n', ⟨setSlot s.slots o.dst y, m'⟩, rds⟩, rfl, rfl, ⟨⟨hg, fun D s' hD hsl _ hrd => by
    have hs := stepD_call (r := r) (ns := ns) hc (D := D) (s' := s') (o := o) hD (by
      rw [← h1]
      exact calleeS_congr fun x hx => opd_congr fun t ht => hsl t (mem_slotsOf (ht ▸ hx))) (fun i b hb => by
      unfold only at hb
      split at hb
      · rename_i hm
        exact (hrd i hm).trans hb
      · cases hb)
    have e : behind s'.mem (only s.mem rds) mq n n' = fun i => if i ∈ ([] : List Nat) ∨ New n n' i then m' i else s'.mem i := by
      funext i
      unfold behind
      by_cases hw : New n n' i
      · rw [if_pos (.inr hw), if_pos (.inr hw), (hm i).1 hw]
      · rw [if_neg (show ¬ (i ∈ ([] : List Nat) ∨ New n n' i) from fun h => h.elim (by simp) hw)]
        by_cases hi : i ∈ rds
        · rw [if_pos (.inl (by simp only [only, if_pos hi]; exact (hr i hi).1)), (hr i hi).2]
          exact (hrd i hi).symm
        · rw [if_neg (fun h => h.elim (by simp [only, hi]) hw)]
    rw [e] at hs
    exact hs, hn, rfl, fun i hi => (hm i).2 fun h => hi (.inr h)⟩⟩, hok, h⟩
theorem ExecV.off (hg : guardS l0.toArray ns s o = some false) (h : ExecV P r ns l0 n0 l n ⟨setSlot s.slots o.dst (.tup []), s.mem⟩ (acc ++ [⟨n, n, [], []⟩]) Q) : ExecV P r ns l0 n0 (o :: l) n s acc Q :=
  ⟨⟨.off, n, s, n, ⟨setSlot s.slots o.dst (.tup []), s.mem⟩, []⟩, rfl, rfl, ⟨⟨hg, rfl, rfl⟩⟩, ⟨fun _ h => (by cases h), .inl rfl⟩, h⟩
end
end Go.Proofs.Ytcmkkgdjhjpldaa.Eng

noncomputable section
namespace Go.Proofs.Ytcmkkgdjhjpldaa.Eng
open Go.RowKit
variable {P : Program} {T : Tab} {r : Option Nat} {ns : Nat}
theorem RCall.ofA {f : FuncId} {ds : List Dat} {d : Dat} (h : ACall P f ds d) {svs : List SV} (hs : mapO toD3 svs = some ds) (m : Nat → Option Blk) : RCall P f svs d m :=
  ⟨h.callable, fun W0 R0 D N E w vs hD M h1 h2 => by
    obtain ⟨hlen, hget⟩ := mapO_get hs
    refine (h.calls E.ro w vs M.rlt (by rw [h1, hlen]) fun i d v hd hv => ?_).mono ?_
    · have hi : i < svs.length := by rw [← hlen]; exact (List.getElem?_eq_some_iff.1 hd).1
      obtain ⟨y, q1, q2⟩ := hget i _ (List.getElem?_eq_getElem hi)
      rw [hd] at q1
      cases q1
      cases (toD3_rep q2).1 (h2 i _ v (List.getElem?_eq_getElem hi) hv) with | d _ _ h => exact h
    · rintro e w' ⟨v, rfl, hb, hr⟩
      let E2 : Env := { E with ro := fun b => E.ro b ∨ (w.heap.size ≤ b ∧ b < w'.heap.size) }
      have hE : E.le E2 := ⟨fun _ h => .inl h, fun _ h => h, fun _ _ => rfl⟩
      have hw : ∀ b, E.ro b → w'.heap[b]? = w.heap[b]? := fun b hb' => hb.block b (M.rlt b hb')
      refine ⟨v, E2, rfl, ⟨M.below.trans (kept_of hb fun b hu => Nat.lt_of_lt_of_le (W0.lt b hu) M.below.size), fun b hb => .inl (M.ro0 b hb), fun b hb' => ?_, fun b hb' => ?_, M.dom, M.live, fun i b hi => (M.mem i b hi).keep hE hw (hb.block _ (M.mem i b hi).lt), M.base, fun i b hi => ?_, M.inj⟩, hE, hw, .d _ _ hr⟩
      · rcases hb' with h | h
        · exact M.ro1 b h
        · exact .inr fun hu => by have := W0.lt b hu; have := M.below.size; omega
      · rcases hb' with h | h
        · exact Nat.lt_of_lt_of_le (M.rlt b h) (kept_of (U := fun _ => False) hb fun _ h => h.elim).size
        · exact h.2
      · refine (M.frz i b hi).trans ⟨.inl, fun h => h.elim id fun h => ?_⟩
        have h5 : (E.home i).blk < w.heap.size := (M.mem i b hi).lt
        have h6 : w.heap.size ≤ (E.home i).blk := h.1
        omega⟩
def kindV (op : Op) (out : Out) (Kp : SV → Prop) (Kn : SV → Blk → Prop) (Ks : Nat → Option Blk → Prop) : Prop :=
  match isPure op, out.frz, out.wr, out.nw, out.rds with
  | true, [], none, none, [] => Kp out.res
  | false, [], none, some b, [] => Kn out.res b
  | false, [], some (id, b), none, [] => (out.res = .und ∧ ∃ t x y, op = .store t x y) ∧ Ks id b
  | _, _, _, _, _ => False
section
variable {l0 : List Oper} {n0 : Nat} {o : Oper} {l : List Oper} {n : Nat} {s : St} {acc : List FtV} {Q : Nat → St → Prop}
def ExecVW (P : Program) (r : Option Nat) (ns : Nat) (l0 : List Oper) (n0 : Nat) (l : List Oper) (n : Nat) (s : St) (acc : List FtV) (Q : Nat → St → Prop) : Prop := ExecV P r ns l0 n0 l n s acc Q
theorem ExecV.auto (hT : TabOk P T) (h : match guardS l0.toArray ns s o, waits o.op with
    | some true, false => match aop T s.mem n (opd ns s) o.op with
      | some out => kindV o.op out
          (fun x => OkV l0 acc.length n0 acc ⟨n, n, [], idsRead s o.op⟩ ∧ ExecV P r ns l0 n0 l n ⟨setSlot s.slots o.dst x, s.mem⟩ (acc ++ [⟨n, n, [], idsRead s o.op⟩]) Q)
          (fun y b => OkV l0 acc.length n0 acc ⟨n, n + 1, [], idsRead s o.op⟩ ∧ ExecV P r ns l0 n0 l (n + 1) ⟨setSlot s.slots o.dst y, setMem s.mem n (some b)⟩ (acc ++ [⟨n, n + 1, [], idsRead s o.op⟩]) Q)
          (fun id b => OkV l0 acc.length n0 acc ⟨n, n, [id], idsRead s o.op⟩ ∧ ExecV P r ns l0 n0 l n ⟨setSlot s.slots o.dst .und, setMem s.mem id b⟩ (acc ++ [⟨n, n, [id], idsRead s o.op⟩]) Q)
      | none => False
    | some false, _ => ExecV P r ns l0 n0 l n ⟨setSlot s.slots o.dst (.tup []), s.mem⟩ (acc ++ [⟨n, n, [], []⟩]) Q
    | _, _ => ExecVW P r ns l0 n0 (o :: l) n s acc Q) : ExecV P r ns l0 n0 (o :: l) n s acc Q := by
  split at h
  · rename_i hg hw
    split at h
    · rename_i out hx
      obtain ⟨res, frz, wr, nw, rds⟩ := out
      unfold kindV at h
      split at h
      · rename_i hp h1 h2 h3 h4
        simp only at h1 h2 h3 h4
        subst h1; subst h2; subst h3; subst h4
        exact ExecV.pure hT hg hp hw hx h.1 h.2
      · rename_i b hp h1 h2 h3 h4
        simp only at h1 h2 h3 h4
        subst h1; subst h2; subst h3; subst h4
        exact ExecV.new hT hg hw hx h.1 h.2
      · rename_i id b hp h1 h2 h3 h4
        simp only at h1 h2 h3 h4
        subst h1; subst h2; subst h3; subst h4
        obtain ⟨⟨hu, t, x, y, ho⟩, h5, h6⟩ := h
        have hu : res = .und := hu
        subst hu
        exact ExecV.store hT ho hg hx h5 h6
      · exact h.elim
    · exact h.elim
  · rename_i hg; exact ExecV.off hg h
  · exact h
@[simp] theorem OkV_nil {k n' : Nat} : OkV l0 k n0 acc ⟨n, n', [], []⟩ = True := by
  simp only [eq_iff_iff, iff_true]
  exact ⟨fun _ h => (by cases h), .inl rfl⟩
theorem OkV_old {k n' : Nat} {rd : List Nat} (h1 : ∀ id ∈ rd, id < n0) (hn : n0 ≤ n) (h2 : AllAcc (fun _ a => a.wr = []) 0 acc) : OkV l0 k n0 acc ⟨n, n', [], rd⟩ := by
  refine ⟨fun id hid => ?_, .inl rfl⟩
  have h3 := h1 id (by simpa using hid)
  refine ⟨Nat.lt_of_lt_of_le h3 hn, .inl ⟨h3, ?_⟩⟩
  have gen : ∀ (l : List FtV) (i : Nat), AllAcc (fun _ a => a.wr = []) i l → AllAcc (fun _ a => id ∉ a.wr) i l := by
    intro l
    induction l with
    | nil => intro i _; trivial
    | cons a l ih => intro i h; exact ⟨by have h1 : a.wr = [] := h.1; show id ∉ a.wr; rw [h1]; simp, ih _ h.2⟩
  exact gen acc 0 h2
theorem allAcc_of {f g : Nat → FtV → Prop} : ∀ {acc : List FtV} {i : Nat}, AllAcc f i acc → (∀ j a, acc[j]? = some a → f (i + j) a → g (i + j) a) → AllAcc g i acc
  | [], _, _, _ => trivial
  | a :: acc, i, h, hg => ⟨hg 0 a rfl h.1, allAcc_of h.2 fun j b hb hf => by
    have := hg (j + 1) b (by simpa using hb)
    rw [show i + 1 + j = i + (j + 1) by omega] at hf ⊢
    exact this hf⟩
theorem OkV_last {k n' : Nat} {wr rd : List Nat} (h1 : ∀ id ∈ wr ++ rd, id < n) (h2 : AllAcc (fun i _ => ordB l0 i k = true) 0 acc) : OkV l0 k n0 acc ⟨n, n', wr, rd⟩ :=
  ⟨fun id hid => ⟨h1 id hid, .inr (allAcc_of h2 fun _ _ _ h => .inl h)⟩, .inr (allAcc_of h2 fun _ _ _ h => .inl h)⟩
def putN (m : Mem) (n n' : Nat) (q : Mem) : Mem := fun i => if n ≤ i ∧ i < n' then q i else m i
@[simp] theorem putN_at {m q : Mem} {n n' i : Nat} : putN m n n' q i = if n ≤ i ∧ i < n' then q i else m i := rfl
open Classical in
theorem ExecV.callP {f : FuncId} {svs : List SV} {y : SV} {mq : Mem} {n' : Nat} (rds : List Nat) (hc : NCall P f svs (only s.mem rds) n n' y mq) (hn : n ≤ n') (hr : ∀ i ∈ rds, (s.mem i).isSome = true ∧ mq i = s.mem i) (hg : guardS l0.toArray ns s o = some true) (h1 : calleeS ns s o.op = some (f, svs)) (hok : OkV l0 acc.length n0 acc ⟨n, n', [], rds⟩)
    (h : ExecV P r ns l0 n0 l n' ⟨setSlot s.slots o.dst y, putN s.mem n n' mq⟩ (acc ++ [⟨n, n', [], rds⟩]) Q) : ExecV P r ns l0 n0 (o :: l) n s acc Q :=
  ExecV.calln rds hc hn hr (fun i => ⟨fun hi => if_pos ⟨hi.1, hi.2⟩, fun hi => if_neg fun h => hi ⟨h.1, h.2⟩⟩) hg h1 hok h
end
theorem RCall.cwp {f : FuncId} {svs : List SV} {d : Dat} {m0 m : Mem} (h : RCall P f svs d m0) (hm : ∀ i b, m0 i = some b → m i = some b) {x : SV} (hx : toD3 x = some d) (n : Nat) : CWp P f svs n m fun y n' m' => y = x ∧ n' = n ∧ m' = m :=
  ⟨h.callable, fun W0 R0 E w vs M k1 k2 => by
    refine ((h.more hm).calls W0 R0 (· < n) n E w vs (fun _ h => h) M k1 k2).mono ?_
    rintro e w' ⟨v, E', rfl, M', hE, hw, hv⟩
    exact ⟨v, E', n, m, x, rfl, M', hE, hw, (toD3_rep hx).2 hv, rfl, rfl, rfl⟩⟩
theorem NCall.of {f : FuncId} {svs : List SV} {n : Nat} {m0 : Mem} {n1 : Nat} {y0 : SV} {mq : Mem} (h : CWp P f svs n m0 fun y n' m' => y0 = y ∧ n1 = n' ∧ mq = m') (hlt : ∀ i b, m0 i = some b → i < n) (hm0 : ∀ i b, m0 i = some b → OfB (fun i => (m0 i).isSome = true) b) (hargs : ∀ x ∈ svs, Of (fun i => (m0 i).isSome = true) x)
    (hq : ∀ i b, mq i = some b → ((m0 i).isSome = true ∨ New n n1 i) ∧ OfB (fun i => (m0 i).isSome = true ∨ New n n1 i) b) (hy : Of (fun i => (m0 i).isSome = true ∨ New n n1 i) y0) : NCall P f svs m0 n n1 y0 mq := ncall_ofM h hlt hm0 hargs hq hy
end Go.Proofs.Ytcmkkgdjhjpldaa.Eng

noncomputable section
namespace Go.Proofs.Ytcmkkgdjhjpldaa.Eng
open Go.RowKit
variable {P : Program}
theorem ACall.ofR {f : FuncId} {ds : List Dat} {d : Dat} (h : RCall P f (ds.map .d) d (fun _ => none)) : ACall P f ds d :=
  ⟨h.callable, fun ro w vs hro hs hr => by
    let E : Env := ⟨ro, fun _ => False, fun _ => ⟨0, 0, 0⟩⟩
    have M : MS (fixOf w) ro (fun _ => False) (fun _ => none) E w := ⟨Kept.refl _ _, fun _ h => h, fun _ h => .inl h, hro, fun _ h => h, fun i b hi => by (cases hi), fun i b hi => by (cases hi), fun i b hi => by (cases hi), fun i b hi => by (cases hi), fun i j b c hi => by (cases hi)⟩
    refine (h.calls (fixOf w) ro (fun _ => False) 0 E w vs (fun _ h => h.elim) M (by simp [hs]) fun i x v hx hv => ?_).mono ?_
    · rw [List.getElem?_map, Option.map_eq_some_iff] at hx
      obtain ⟨d, hd, rfl⟩ := hx
      exact .d _ _ (hr i d v hd hv)
    · rintro e w' ⟨v, E', rfl, M', hE, hw, hv⟩
      cases hv with
      | d _ _ hv =>
      refine ⟨v, rfl, M'.below.below, hv.keep (fun b hb => ?_) fun _ _ => rfl⟩
      rcases M'.ro1 b hb with h | h
      · exact .inl h
      · exact .inr ⟨Nat.le_of_not_lt h, M'.rlt b hb⟩⟩
end Go.Proofs.Ytcmkkgdjhjpldaa.Eng

namespace Go.Proofs.Ytcmkkgdjhjpldaa.Eng
open Go.RowKit
def tab (f : Nat → Int) : List Int := (List.range 7).map f
@[simp] theorem tab_len (f : Nat → Int) : (tab f).length = 7 := by simp [tab]
theorem tab_get (f : Nat → Int) {k : Nat} (hk : k < 7) : (tab f)[k]? = some (f k) := by simp [tab, hk]
theorem tab_ext {f g : Nat → Int} (h : ∀ k, k < 7 → f k = g k) : tab f = tab g := by
  unfold tab
  exact List.map_congr_left fun k hk => h k (List.mem_range.1 hk)
theorem tab_set (f : Nat → Int) {k : Nat} (hk : k < 7) (v : Int) : (tab f).set k v = tab fun i => if i = k then v else f i := by
  refine List.ext_getElem? fun i => ?_
  rw [List.getElem?_set]
  by_cases hi : i < 7
  · rw [tab_get _ hi, tab_get _ hi]
    by_cases h : k = i
    · subst h; simp [hi]
    · rw [if_neg h, if_neg (Ne.symm h)]
  · rw [List.getElem?_eq_none (by simp; omega), List.getElem?_eq_none (l := tab _) (by simp; omega)]
    split
    · rename_i h
      subst h
      simp [hi]
    · rfl
abbrev rowD (f : Nat → Int) : Dat := .agg ((tab f).map iD)
abbrev rowS (f : Nat → Int) : List SV := (tab f).map (SV.d ∘ iD)
theorem cell1 {α β : Type} {f : α → β} {l : List α} {k : Nat} {x : α} (h : l[k]? = some x) : List.take 1 (List.drop k (List.map f l)) = [f x] := by
  obtain ⟨hk, rfl⟩ := List.getElem?_eq_some_iff.1 h
  rw [List.drop_eq_getElem_cons (by simpa using hk)]
  simp
theorem tab1 {β : Type} {g : Int → β} {f : Nat → Int} {k : Nat} (hk : k < 7) : List.take 1 (List.drop k (List.map g (tab f))) = [g (f k)] := cell1 (tab_get f hk)
@[simp] theorem tab_take {β : Type} (g : Int → β) (f : Nat → Int) : List.take 7 (List.map g (tab f)) = List.map g (tab f) := List.take_of_length_le (by simp)
@[simp] theorem renCs_row (n : Nat) (σ : Nat → Nat) : ∀ l : List Int, renCs n σ (List.map (SV.d ∘ iD) l) = some (List.map (SV.d ∘ iD) l)
  | [] => rfl
  | x :: l => by simp [renCs, renC, renCs_row n σ l]
@[simp] theorem escL_row (m : Nat → Option Blk) : ∀ l : List Int, escL m (List.map (SV.d ∘ iD) l) = some (l.map iD, [])
  | [] => rfl
  | x :: l => by simp [escL, esc1, esc, escL_row m l]
theorem row_put {f f' : Nat → Int} {k : Nat} (hk : k < 7) {v : Int} (h : ∀ i, i < 7 → f' i = if i = k then v else f i) : List.take k (List.map (SV.d ∘ iD) (tab f)) ++ SV.d (Dat.val (Value.int .i64 v)) :: List.drop (k + 1) (List.map (SV.d ∘ iD) (tab f)) = List.map (SV.d ∘ iD) (tab f') := by
  rw [tab_ext h, ← tab_set f hk v, List.set_eq_take_append_cons_drop, if_pos (by simpa using hk)]
  simp
theorem tab7 (f : Nat → Int) : tab f = [f 0, f 1, f 2, f 3, f 4, f 5, f 6] := rfl
set_option maxRecDepth 100000 in
set_option maxHeartbeats 4000000 in
theorem has_c (f : Nat → Int) (e : HE) (ge : GoodE e) : ACall Try.prog 79 [rowD f, edgD e] (bD (decide (e.depth < f e.burr.toNat))) := by
  obtain ⟨d, b⟩ := e
  obtain ⟨h1, h2, h3, h4⟩ := ge
  simp only at h1 h2 h3 h4 ⊢
  obtain ⟨k, rfl⟩ := Int.eq_ofNat_of_zero_le h3
  have hk : k < 7 := by omega
  have hk1 : k + 1 ≤ 7 := by omega
  have hk7 : (k : Int) < 7 := by omega
  have c1 := fun g : Int → SV => tab1 (g := g) (f := f) hk
  refine acallK tabOk Try.func79 rfl rfl (show 2 ≤ _ by decide) rfl fun _ => ?_; simp only [Try.ntmps79]
  repeat (first | (with_reducible first | refine zq1 fun _ => ?_ | refine zq2 fun _ => ?_ | refine zq3 ?_) | ((first | refine zq4 ?_ | refine zq5 fun _ _ => ?_ | refine zq6 ?_); simp [-getElem?_pos, z0, z1, z2, hk1, hk7, c1]) | ((first | refine AWp.ret ?_ | refine AWp.skip ?_ | refine AWp.exit ?_); try simp only [thenP]) | (with_reducible refine zq7 ?_; simp only [blockP, thenP, reduceIte]) | with_reducible refine zq8 ?_)
  (first | refine RR.ret ?_ | refine RR.normal ?_); simp []
set_option maxRecDepth 100000 in
set_option maxHeartbeats 4000000 in
theorem with_c (f g : Nat → Int) : ACall Try.prog 86 [rowD f, rowD g] (rowD fun i => max (f i) (g i)) := by
  obtain ⟨x, hx⟩ : ∃ x, x = tab fun i => max (f i) (g i) := ⟨_, rfl⟩
  show ACall _ _ _ (.agg ((tab fun i => max (f i) (g i)).map iD))
  rw [← hx]
  refine acallK tabOk Try.func86 rfl rfl (show 2 ≤ _ by decide) rfl fun _ => ?_; simp only [Try.ntmps86]
  repeat (first | (with_reducible first | refine zq1 fun _ => ?_ | refine zq2 fun _ => ?_ | refine zq3 ?_) | ((first | refine zq4 ?_ | refine zq5 fun _ _ => ?_ | refine zq6 ?_); simp [-getElem?_pos, z0, z1, z2, ]) | ((first | refine AWp.ret ?_ | refine AWp.skip ?_ | refine AWp.exit ?_); try simp only [thenP]) | (with_reducible refine zq7 ?_; simp only [blockP, thenP, reduceIte]) | with_reducible refine zq8 ?_)
  refine AWp.loopK (ι := { k : Nat // k ≤ 7 }) (n := 2) (fun k => [(2, .ptr 0 0 0), (4, .ptr 1 0 0), (7, .agg (rowS g)), (8, .d (iD k.1))]) (fun k => [(0, .box 83 (rowS fun i => if i < k.1 then max (f i) (g i) else f i) false), (1, .box 83 (List.replicate 7 (.d (iD 0))) false)]) (fun k => 7 - k.1) ⟨0, Nat.zero_le _⟩ [0, 2] ?_ ?_
  · refine ⟨by rfl, by simp [tab7], by simp [or_imp, forall_and, tab7] <;> (try (intro _hne; simp [_hne])), by decide⟩
  rintro ⟨k, hk⟩ kk
  have w1 : IntKind.i64.wrap ((k : Int) + 1) = (k : Int) + 1 := wrap64_in (by omega)
  by_cases hlt : k < 7
  · have hk1 : k + 1 ≤ 7 := hlt
    have hk7 : (k : Int) < 7 := by omega
    have c1 := fun (g : Int → SV) f => tab1 (g := g) (f := f) hlt
    have c2 := fun f => tab_get f hlt
    have m1 : (if f k < g k then g k else f k) = max (f k) (g k) := by split <;> omega
    have hput := row_put (f := fun i => if i < k then max (f i) (g i) else f i) (f' := fun i => if i < k + 1 then max (f i) (g i) else f i) hlt (v := max (f k) (g k)) fun i hi => by
      by_cases h1 : i = k
      · subst h1; simp
      · by_cases h2 : i < k
        · rw [if_pos (by omega), if_neg h1, if_pos h2]
        · rw [if_neg (by omega), if_neg h1, if_neg h2]
    repeat (first | (with_reducible first | refine zq1 fun _ => ?_ | refine zq2 fun _ => ?_ | refine zq3 ?_) | ((first | refine zq4 ?_ | refine zq5 fun _ _ => ?_ | refine zq6 ?_); simp [-getElem?_pos, z0, z1, z2, hk1, hk7, c1, c2, w1, m1]) | ((first | refine AWp.ret ?_ | refine AWp.skip ?_ | refine AWp.exit ?_); try simp only [thenP]) | (with_reducible refine zq7 ?_; simp only [blockP, thenP, reduceIte]) | with_reducible refine zq8 ?_)
    refine LL.go ⟨k + 1, hlt⟩ [0, 1] ⟨by rfl, by simp [hput], by simp [or_imp, forall_and, hput] <;> (try (intro _hne; simp [_hne])), by decide⟩ ?_
    simp; omega
  · obtain rfl : k = 7 := by omega
    have hx2 : x = tab fun i => if i < 7 then max (f i) (g i) else f i := by rw [hx]; exact tab_ext fun k hk => by rw [if_pos hk]
    repeat (first | (with_reducible first | refine zq1 fun _ => ?_ | refine zq2 fun _ => ?_ | refine zq3 ?_) | ((first | refine zq4 ?_ | refine zq5 fun _ _ => ?_ | refine zq6 ?_); simp [-getElem?_pos, z0, z1, z2, ]) | ((first | refine AWp.ret ?_ | refine AWp.skip ?_ | refine AWp.exit ?_); try simp only [thenP]) | (with_reducible refine zq7 ?_; simp only [blockP, thenP, reduceIte]) | with_reducible refine zq8 ?_)
    (first | refine RR.ret ?_ | refine RR.normal ?_); simp [hx2]
@[simp] theorem intsOf_row : ∀ l : List Int, intsOf (List.map (SV.d ∘ iD) l) = some (l.map fun _ => .i64, l)
  | [] => rfl
  | x :: l => by simp [intsOf, intsOf_row l]
@[simp] theorem tab_kinds (f : Nat → Int) : List.map (fun _ => IntKind.i64) (tab f) = [.i64, .i64, .i64, .i64, .i64, .i64, .i64] := rfl
@[simp] theorem ids_row : ∀ l : List Int, List.flatMap idsOf1 (List.map (SV.d ∘ iD) l) = []
  | [] => rfl
  | x :: l => by
    rw [List.map_cons, List.flatMap_cons, ids_row l]
    rfl
def inR (f g : Nat → Int) : Bool := (List.range 7).all fun i => decide (f i ≤ g i)
theorem inR_iff {f g : Nat → Int} : inR f g = true ↔ ∀ i, i < 7 → f i ≤ g i := by simp [inR]
set_option maxRecDepth 100000 in
set_option maxHeartbeats 4000000 in
theorem isIn_c (f g : Nat → Int) : ACall Try.prog 78 [rowD f, rowD g] (bD (inR f g)) := by
  have cw := with_c f g
  have key : inR f g = decide ((tab fun i => max (f i) (g i)) = tab g) := by
    rw [Bool.eq_iff_iff, inR_iff, decide_eq_true_iff]
    constructor
    · intro h
      exact tab_ext fun i hi => by have := h i hi; omega
    · intro h i hi
      have := congrArg (fun l : List Int => l[i]?) h
      simp only [tab_get _ hi, Option.some.injEq] at this
      omega
  rw [key]
  generalize (fun i => max (f i) (g i)) = h at *
  refine acallK tabOk Try.func78 rfl rfl (show 2 ≤ _ by decide) rfl fun _ => ?_; simp only [Try.ntmps78]
  repeat (first | (with_reducible first | refine zq1 fun _ => ?_ | refine zq2 fun _ => ?_ | refine zq3 ?_) | ((first | refine zq4 ?_ | refine zq5 fun _ _ => ?_ | refine zq6 ?_); simp [-getElem?_pos, z0, z1, z2, ]) | ((first | refine AWp.ret ?_ | refine AWp.skip ?_ | refine AWp.exit ?_); try simp only [thenP]) | (with_reducible refine zq7 ?_; simp only [blockP, thenP, reduceIte]) | with_reducible refine zq8 ?_)
  (first | refine Exec0.call [] cw ?_ rfl ?_ ?_ | refine Exec.call [] cw ?_ rfl ?_ ?_); (focus simp [-getElem?_pos, ]); (focus simp [-getElem?_pos, z0, z1, z2, ]); simp [-getElem?_pos, z0, z1, z2, ]
  repeat (first | (with_reducible first | refine zq1 fun _ => ?_ | refine zq2 fun _ => ?_ | refine zq3 ?_) | ((first | refine zq4 ?_ | refine zq5 fun _ _ => ?_ | refine zq6 ?_); simp [-getElem?_pos, z0, z1, z2, ]) | ((first | refine AWp.ret ?_ | refine AWp.skip ?_ | refine AWp.exit ?_); try simp only [thenP]) | (with_reducible refine zq7 ?_; simp only [blockP, thenP, reduceIte]) | with_reducible refine zq8 ?_)
  (first | refine RR.ret ?_ | refine RR.normal ?_); simp []
end Go.Proofs.Ytcmkkgdjhjpldaa.Eng

namespace Go.Proofs.Ytcmkkgdjhjpldaa.Eng
open Go.RowKit
variable {P : Program} {r : Option Nat} {ns : Nat}
theorem YCall.mono {Y : SV} {xs : List SV} {n : Nat} {m : Mem} {R R' : SV → Nat → Mem → Prop} (h : YCall P Y xs n m R) (hi : ∀ y n' m', R y n' m' → R' y n' m') : YCall P Y xs n m R' :=
  fun r ns s o e1 e2 W0 R0 B E a w i1 i2 i3 K K2 hK => h r ns s o e1 e2 W0 R0 B E a w i1 i2 i3 K K2 fun n' s' E' a' w' ⟨y, m', hR, e⟩ hs => hK n' s' E' a' w' ⟨y, m', hi _ _ _ hR, e⟩ hs
def StableN (I : Nat → (Nat → Prop) → Mem → Prop) : Prop :=
  ∀ (n : Nat) (O : Nat → Prop) (m : Mem) (n2 : Nat) (O2 : Nat → Prop) (m' : Mem), n ≤ n2 → (∀ j, O2 j → O j ∨ n ≤ j) → (∀ j, j < n → ¬ O2 j → m' j = m j) → I n O m → I n2 O2 m'
theorem StableN.lt {I : Nat → (Nat → Prop) → Mem → Prop} (h : StableN I) {n : Nat} {O : Nat → Prop} {m : Mem} (hi : I n O m) {k : Nat} (hk : ∀ n O m, I n O m → m k ≠ none) : k < n ∧ ¬ O k := by
  refine Classical.byContradiction fun hc => ?_
  refine hk _ _ _ (h n O m n O (setMem m k none) (Nat.le_refl _) (fun _ h => .inl h) (fun j hj ho => if_neg fun e : j = k => hc (by subst e; exact ⟨hj, ho⟩)) hi) (if_pos rfl)
def Iterates2 (P : Program) (f : FuncId) (args : SV → List SV) (xs : List (List SV)) (K : Mem → Prop) : Prop :=
  ∀ (Y : SV) (I : Nat → Nat → (Nat → Prop) → Mem → Prop) (J : Nat → (Nat → Prop) → Mem → Prop), FnV Y → (∀ i, StableN (I i)) → StableN J → (∀ i n O m, I i n O m → K m) →
    (∀ i n O m x, xs[i]? = some x → (∀ j, O j → j < n) → I i n O m → YCall P Y x n m fun y n' m' => n ≤ n' ∧ (∀ j, O j → m' j = m j) ∧ ((y = .d (.val (.bool true)) ∧ I (i + 1) n' O m') ∨ (y = .d (.val (.bool false)) ∧ J n' O m'))) →
    ∀ n m, I 0 n (fun _ => False) m → CWp P f (args Y) n m fun _ n' m' => n ≤ n' ∧ ∃ O : Nat → Prop, (∀ j, O j → n ≤ j ∧ j < n') ∧ (I xs.length n' O m' ∨ J n' O m')
theorem Iterates2.old {f : FuncId} {args : SV → List SV} {xs : List (List SV)} {K : Mem → Prop} (h : Iterates2 P f args xs K) : Iterates P f args xs K := by
  intro Y n0 I J hY hI hJ hK hy n m hn h0
  refine (h Y (fun i n2 O m2 => n ≤ n2 ∧ (∀ j, O j → n ≤ j) ∧ (∀ j, n0 ≤ j → j < n → m2 j = m j) ∧ I i m2) (fun n2 O m2 => n ≤ n2 ∧ (∀ j, O j → n ≤ j) ∧ (∀ j, n0 ≤ j → j < n → m2 j = m j) ∧ J m2) hY ?_ ?_ (fun i _ _ m h => hK i m h.2.2.2) ?_ n m ⟨Nat.le_refl _, fun _ h => h.elim, fun _ _ _ => rfl, h0⟩).mono ?_
  · rintro i n2 O m2 n3 O3 m3 h1 h2 h3 ⟨a, b, c, d⟩
    have hO : ∀ j, O3 j → n ≤ j := fun j hj => (h2 j hj).elim (b j) fun h => by omega
    have hlow : ∀ j, j < n → m3 j = m2 j := fun j hj => h3 j (by omega) fun ho => by have := hO j ho; omega
    exact ⟨by omega, hO, fun j j1 j2 => (hlow j j2).trans (c j j1 j2), hI i _ _ (fun j hj => hlow j (by omega)) d⟩
  · rintro n2 O m2 n3 O3 m3 h1 h2 h3 ⟨a, b, c, d⟩
    have hO : ∀ j, O3 j → n ≤ j := fun j hj => (h2 j hj).elim (b j) fun h => by omega
    have hlow : ∀ j, j < n → m3 j = m2 j := fun j hj => h3 j (by omega) fun ho => by have := hO j ho; omega
    exact ⟨by omega, hO, fun j j1 j2 => (hlow j j2).trans (c j j1 j2), hJ _ _ (fun j hj => hlow j (by omega)) d⟩
  · rintro i n2 O m2 x hx hOn ⟨a, b, c, d⟩
    refine (hy i n2 m2 x hx (by omega) d).mono ?_
    rintro y n3 m3 ⟨hk, h5⟩
    have hle := hk.1
    refine ⟨hk.1, fun j hj => hk.2 j (by have := b j hj; omega) (hOn j hj), ?_⟩
    rcases h5 with ⟨rfl, h5⟩ | ⟨rfl, h5⟩
    · exact .inl ⟨rfl, by omega, b, fun j j1 j2 => (hk.2 j j1 (by omega)).trans (c j j1 j2), h5⟩
    · exact .inr ⟨rfl, by omega, b, fun j j1 j2 => (hk.2 j j1 (by omega)).trans (c j j1 j2), h5⟩
  · rintro _ n3 m3 ⟨h1, O, hO, ⟨a, b, c, d⟩ | ⟨a, b, c, d⟩⟩
    · exact ⟨⟨h1, c⟩, .inl d⟩
    · exact ⟨⟨h1, c⟩, .inr d⟩
def ownP (O : Nat → Prop) (n : Nat) : Nat → Prop := fun j => O j ∨ j = n
def RoundP2 (n n2 : Nat) (O : Nat → Prop) (m2 : Mem) (I : Nat → (Nat → Prop) → Mem → Prop) (J : Code → Nat → (Nat → Prop) → Mem → Prop) : Post := fun e n3 s3 =>
  n2 ≤ n3 ∧ (∀ j, ownP O n j → s3.mem j = m2 j) ∧ match jumpOf e with
    | some none => I n3 (ownP O n) s3.mem
    | some (some c) => J c n3 (ownP O n) s3.mem
    | none => False
theorem AWi.iter2 {n : Nat} {s : St} {Q : Post} {g : Operand} {ps : Array Tmp} {x y : Code} {f : FuncId} {us vs : List SV} {args : SV → List SV} {xs : List (List SV)} {K : Mem → Prop} (hit : Iterates2 P f args xs K) (hg : opd ns s g = some (.fn f us vs)) (ha : ∀ Y, args Y = us ++ [Y] ++ vs)
    (hr : ∀ id, r = some id → ∃ st pe k sl ps x y z, s.mem id = some (.loop st pe k sl ps x y z)) (hp : ps.toList.all (· < ns) = true) (hsz : ∀ z ∈ xs, z.length = ps.size)
    (I : Nat → Nat → (Nat → Prop) → Mem → Prop) (J : Code → Nat → (Nat → Prop) → Mem → Prop) (hI : ∀ i, StableN (I i)) (hJ : ∀ c, StableN (J c)) (hK : ∀ i n O m, I i n O m → K m) (h0 : I 0 n (fun _ => False) s.mem)
    (round : ∀ i n1 O m1 z, xs[i]? = some z → n < n1 → (∀ j, ownP O n j → j < n1) → I i n1 (ownP O n) m1 → m1 n = some (.loop .ready none ns s.slots ps x y false) → AWi P (some n) ns x n1 ⟨putAll s.slots ps.toList z, m1⟩ fun e n2 s2 => e = .normal ∧ n1 ≤ n2 ∧ (∀ j, j < n1 → s2.mem j = m1 j) ∧
      AWi P (some n) ns y n2 { s2 with mem := setMem s2.mem n (some (.loop .busy none ns s.slots ps x y false)) } (RoundP2 n n2 O (setMem s2.mem n (some (.loop .busy none ns s.slots ps x y false))) (I (i + 1)) J))
    (hend : ∀ n' O m', n ≤ n' → (∀ j, O j → n ≤ j ∧ j < n') → I xs.length n' O m' → Q .normal n' { s with mem := m' }) (hjmp : ∀ c n' O m', n ≤ n' → (∀ j, O j → n ≤ j ∧ j < n') → J c n' O m' → afterP Q n' { s with mem := m' } (some c)) :
    AWi P r ns (.rangeFunc g ps x y) n s Q := by
  refine AWi.rangeFunc hg hr ?_
  rw [← ha]
  have hset : ∀ (m : Mem) (b : Option Blk) j, j ≠ n → setMem m n b j = m j := fun m b j hj => if_neg hj
  have hown : ∀ {O O2 : Nat → Prop} {n2 : Nat}, (∀ j, O2 j → O j ∨ n2 ≤ j) → ∀ j, ownP O2 n j → ownP O n j ∨ n2 ≤ j := fun h j hj => hj.elim (fun h2 => (h j h2).imp_left .inl) fun h2 => .inl (.inr h2)
  refine (hit (.yield n) (fun i n2 O m => I i n2 (ownP O n) m ∧ (n < n2 ∧ ¬ O n) ∧ m n = some (.loop .ready none ns s.slots ps x y false)) (fun n2 O m => ∃ c, J c n2 (ownP O n) m ∧ (n < n2 ∧ ¬ O n) ∧ m n = some (.loop .done (some c) ns s.slots ps x y false)) ⟨rfl, rfl⟩ ?_ ?_ (fun i n O m h => hK i n _ m h.1) ?_ (n + 1) _ ⟨hI 0 n _ s.mem _ _ _ (by omega) (fun j hj => .inr (by rcases hj with h | h; exact h.elim; omega)) (fun j hj _ => hset _ _ j (by omega)) h0, ⟨by omega, fun h => h⟩, if_pos rfl⟩).mono ?_
  · rintro i n2 O m n3 O3 m' q1 q2 q3 ⟨h1, ⟨h2, h3⟩, h4⟩
    have h5 : ¬ O3 n := fun h => (q2 n h).elim h3 fun h => by omega
    exact ⟨hI i _ _ m _ _ _ q1 (hown q2) (fun j hj ho => q3 j hj fun h => ho (.inl h)) h1, ⟨by omega, h5⟩, (q3 n h2 h5).trans h4⟩
  · rintro n2 O m n3 O3 m' q1 q2 q3 ⟨c, h1, ⟨h2, h3⟩, h4⟩
    have h5 : ¬ O3 n := fun h => (q2 n h).elim h3 fun h => by omega
    exact ⟨c, hJ c _ _ m _ _ _ q1 (hown q2) (fun j hj ho => q3 j hj fun h => ho (.inl h)) h1, ⟨by omega, h5⟩, (q3 n h2 h5).trans h4⟩
  · rintro i n1 O m z hz hOn ⟨h1, ⟨h2, h3⟩, h4⟩
    refine YCall.yield h4 (hsz z (List.mem_of_getElem? hz)) hp ((round i n1 O m z hz (by omega) (fun j hj => by rcases hj with h | h; exact hOn j h; omega) h1 h4).mono ?_)
    rintro e n2 s2 ⟨he, h5, h6, h7⟩
    refine ⟨he, none, (h6 n (by omega)).trans h4, h7.mono ?_⟩
    rintro e n3 s3 ⟨h8, h9, h10⟩
    have h11 : s3.mem n = some (.loop .busy none ns s.slots ps x y false) := (h9 n (.inr rfl)).trans (if_pos rfl)
    have hk : ∀ b j, O j → setMem s3.mem n b j = m j := fun b j hj => by
      have hne : j ≠ n := fun e => h3 (e ▸ hj)
      rw [hset _ _ j hne, h9 j (.inl hj), hset _ _ j hne]
      exact h6 j (hOn j hj)
    have hst : ∀ {I : Nat → (Nat → Prop) → Mem → Prop}, StableN I → ∀ b, I n3 (ownP O n) s3.mem → I n3 (ownP O n) (setMem s3.mem n b) := fun hI b h => hI _ _ s3.mem _ _ _ (Nat.le_refl _) (fun _ h => .inl h) (fun j _ ho => hset _ _ j fun e => ho (.inr e)) h
    split at h10
    · rename_i hj
      exact ⟨none, none, hj, h11, by omega, hk _, .inl ⟨rfl, hst (hI _) _ h10, ⟨by omega, h3⟩, if_pos rfl⟩⟩
    · rename_i c hj
      exact ⟨some c, none, hj, h11, by omega, hk _, .inr ⟨rfl, c, hst (hJ _) _ h10, ⟨by omega, h3⟩, if_pos rfl⟩⟩
    · exact h10.elim
  · rintro _ n' m' ⟨h1, O, hO, ⟨h2, ⟨h3, h4⟩, h5⟩ | ⟨c, h2, ⟨h3, h4⟩, h5⟩⟩
    · refine ⟨_, _, h5, by simp, hend n' (ownP O n) _ (by omega) (fun j hj => by rcases hj with h | h; have := hO j h; omega; omega) (hI _ _ _ m' _ _ _ (Nat.le_refl _) (fun _ h => .inl h) (fun j _ ho => hset _ _ j fun e => ho (.inr e)) h2)⟩
    · refine ⟨_, _, h5, by simp, hjmp c n' (ownP O n) _ (by omega) (fun j hj => by rcases hj with h | h; have := hO j h; omega; omega) (hJ _ _ _ m' _ _ _ (Nat.le_refl _) (fun _ h => .inl h) (fun j _ ho => hset _ _ j fun e => ho (.inr e)) h2)⟩
structure RE2 (n n2 : Nat) (O : Nat → Prop) (m2 : Mem) (I : Nat → (Nat → Prop) → Mem → Prop) (J : Code → Nat → (Nat → Prop) → Mem → Prop) where
  R : Post
  h : ∀ e n3 s3, RoundP2 n n2 O m2 I J e n3 s3 → R e n3 s3
section
variable {n n2 : Nat} {O : Nat → Prop} {m2 : Mem} {I : Nat → (Nat → Prop) → Mem → Prop} {J : Code → Nat → (Nat → Prop) → Mem → Prop} {q : RE2 n n2 O m2 I J} {n3 : Nat} {s3 : St}
theorem RE2.normal (h1 : n2 ≤ n3) (h2 : ∀ j, ownP O n j → s3.mem j = m2 j) (h : I n3 (ownP O n) s3.mem) : q.R .normal n3 s3 := q.h _ _ _ ⟨h1, h2, h⟩
theorem RE2.ret (h1 : n2 ≤ n3) (h2 : ∀ j, ownP O n j → s3.mem j = m2 j) (h : J .ret n3 (ownP O n) s3.mem) : q.R .ret n3 s3 := q.h _ _ _ ⟨h1, h2, h⟩
theorem RE2.exit {id : Nat} (h1 : n2 ≤ n3) (h2 : ∀ j, ownP O n j → s3.mem j = m2 j) (h : J (.exit id) n3 (ownP O n) s3.mem) : q.R (.exit id) n3 s3 := q.h _ _ _ ⟨h1, h2, h⟩
end
structure RB2 (P : Program) (n n1 : Nat) (O : Nat → Prop) (m1 : Mem) (ns : Nat) (sl : Nat → SV) (ps : Array Tmp) (x y : Code) (I : Nat → (Nat → Prop) → Mem → Prop) (J : Code → Nat → (Nat → Prop) → Mem → Prop) where
  K : Nat → St → Prop
  h : ∀ n2 s2, n1 ≤ n2 → (∀ j, j < n1 → s2.mem j = m1 j) → (∀ q : RE2 n n2 O (setMem s2.mem n (some (.loop .busy none ns sl ps x y false))) I J, AWi P (some n) ns y n2 { s2 with mem := setMem s2.mem n (some (.loop .busy none ns sl ps x y false)) } q.R) → K n2 s2
theorem RB2.go {n n1 : Nat} {O : Nat → Prop} {m1 : Mem} {sl : Nat → SV} {ps : Array Tmp} {x y : Code} {I : Nat → (Nat → Prop) → Mem → Prop} {J : Code → Nat → (Nat → Prop) → Mem → Prop} {k : RB2 P n n1 O m1 ns sl ps x y I J} {n2 : Nat} {s2 : St} (h1 : n1 ≤ n2) (h2 : ∀ j, j < n1 → s2.mem j = m1 j)
    (h : ∀ rc : Option Blk, rc = some (.loop .busy none ns sl ps x y false) → ∀ q : RE2 n n2 O (setMem s2.mem n rc) I J, AWi P (some n) ns y n2 { s2 with mem := setMem s2.mem n rc } q.R) : k.K n2 s2 := k.h _ _ h1 h2 (h _ rfl)
theorem AWi.iterK2 {n : Nat} {s : St} {Q : Post} {g : Operand} {ps : Array Tmp} {x y : Code} {f : FuncId} {us vs : List SV} {args : SV → List SV} {xs : List (List SV)} {K : Mem → Prop} (hit : Iterates2 P f args xs K) (hg : opd ns s g = some (.fn f us vs)) (ha : ∀ Y, args Y = us ++ [Y] ++ vs)
    (hr : ∀ id, r = some id → ∃ st pe k sl ps x y z, s.mem id = some (.loop st pe k sl ps x y z)) (hp : ps.toList.all (· < ns) = true) (hsz : ∀ z ∈ xs, z.length = ps.size)
    (I : Nat → Nat → (Nat → Prop) → Mem → Prop) (J : Code → Nat → (Nat → Prop) → Mem → Prop) (hI : ∀ i, StableN (I i)) (hJ : ∀ c, StableN (J c)) (hK : ∀ i n O m, I i n O m → K m) (h0 : I 0 n (fun _ => False) s.mem)
    (round : ∀ i n1 O m1 z, xs[i]? = some z → n < n1 → (∀ j, ownP O n j → j < n1) → I i n1 (ownP O n) m1 → ∀ k : RB2 P n n1 O m1 ns s.slots ps x y (I (i + 1)) J, AWi P (some n) ns x n1 ⟨putAll s.slots ps.toList z, m1⟩ (thenP k.K fun _ _ _ => False))
    (hend : ∀ n' O m', n ≤ n' → (∀ j, O j → n ≤ j ∧ j < n') → I xs.length n' O m' → Q .normal n' { s with mem := m' }) (hjmp : ∀ c n' O m', n ≤ n' → (∀ j, O j → n ≤ j ∧ j < n') → J c n' O m' → afterP Q n' { s with mem := m' } (some c)) :
    AWi P r ns (.rangeFunc g ps x y) n s Q :=
  AWi.iter2 hit hg ha hr hp hsz I J hI hJ hK h0 (fun i n1 O m1 z hz hn hO hi _ => (round i n1 O m1 z hz hn hO hi ⟨fun n2 s2 => n1 ≤ n2 ∧ (∀ j, j < n1 → s2.mem j = m1 j) ∧
      AWi P (some n) ns y n2 { s2 with mem := setMem s2.mem n (some (.loop .busy none ns s.slots ps x y false)) } (RoundP2 n n2 O (setMem s2.mem n (some (.loop .busy none ns s.slots ps x y false))) (I (i + 1)) J), fun n2 s2 h1 h2 h3 => ⟨h1, h2, h3 ⟨_, fun _ _ _ h => h⟩⟩⟩).mono fun e n2 s2 h => by
    cases e with
    | normal => exact ⟨rfl, h⟩
    | _ => exact h.elim) hend hjmp
end Go.Proofs.Ytcmkkgdjhjpldaa.Eng

namespace Go.Proofs.Ytcmkkgdjhjpldaa.Eng
open Go.RowKit
inductive EdgV (e : HE) : SV → Prop where
  | agg : EdgV e (.agg [.d (iD e.depth), .d (iD e.burr)])
  | d : EdgV e (.d (edgD e))
inductive RowV (q : Nat → Int) : SV → Prop where
  | agg : RowV q (.agg (rowS q))
  | d : RowV q (.d (rowD q))
theorem EdgV.toD {e : HE} {x : SV} (h : EdgV e x) : toD3 x = some (edgD e) := by cases h <;> rfl
theorem RowV.toD {q : Nat → Int} {x : SV} (h : RowV q x) : toD3 x = some (rowD q) := by
  cases h
  · rfl
  · rfl
theorem RCall.toR {f : FuncId} {ds : List Dat} {d : Dat} (h : ACall Try.prog f ds d) {svs : List SV} (hs : mapO toD3 svs = some ds) (n : Nat) (m : Mem) : CWp Try.prog f svs n m fun y n' m' => y = .d d ∧ n' = n ∧ m' = m :=
  (RCall.ofA h hs m).cwp (fun _ _ h => h) rfl n
def strX (s : HS) (e : HE) (q : Nat → Int) : Bool := canS s e && decide ((strE s e).depth < q (strE s e).burr.toNat)
def strkTo (l : List HS) (e : HE) (q : Nat → Int) : Nat → List (Nat × HE)
  | 0 => []
  | k + 1 => strkTo l e q k ++ match l[k]? with
    | some s => if strX s e q then [(k, strE s e)] else []
    | none => []
def strkV (x : Nat × HE) : List SV := [.d (iD (x.1 : Int)), .agg [.d (iD x.2.depth), .d (iD x.2.burr)]]
def strks (l : List HS) (e : HE) (q : Nat → Int) : List (Nat × HE) := strkTo l e q l.length
theorem strkTo_pre (l : List HS) (e : HE) (q : Nat → Int) (k : Nat) : ∀ n, k ≤ n → strkTo l e q k <+: strkTo l e q n
  | 0, h => by obtain rfl : k = 0 := by omega
               exact List.prefix_refl _
  | n + 1, h => by
    by_cases hk : k ≤ n
    · exact (strkTo_pre l e q k n hk).trans (List.prefix_append _ _)
    · obtain rfl : k = n + 1 := by omega
      exact List.prefix_refl _
theorem strks_get {l : List HS} {e : HE} {q : Nat → Int} {k : Nat} {s : HS} (hs : l[k]? = some s) (h : strX s e q = true) : (strks l e q)[(strkTo l e q k).length]? = some (k, strE s e) := by
  have hk : k < l.length := (List.getElem?_eq_some_iff.1 hs).1
  obtain ⟨t, ht⟩ := strkTo_pre l e q (k + 1) l.length (by omega)
  rw [strks, ← ht]
  simp only [strkTo, hs, h, if_true]
  rw [List.append_assoc, List.getElem?_append_right (Nat.le_refl _), Nat.sub_self]
  rfl
theorem strkTo_no {l : List HS} {e : HE} {q : Nat → Int} {k : Nat} {s : HS} (hs : l[k]? = some s) (h : strX s e q = false) : strkTo l e q (k + 1) = strkTo l e q k := by
  simp [strkTo, hs, h]
theorem strkTo_yes {l : List HS} {e : HE} {q : Nat → Int} {k : Nat} {s : HS} (hs : l[k]? = some s) (h : strX s e q = true) : (strkTo l e q (k + 1)).length = (strkTo l e q k).length + 1 := by
  simp [strkTo, hs, h]
set_option maxRecDepth 100000 in
set_option maxHeartbeats 4000000 in
theorem strokes1_2 (l : List HS) (hl : l.all okS = true) (hn6 : l.length ≤ 6) (e : HE) (ge : GoodE e) (q : Nat → Int) (R : SV) (hR : RowV q R) (kb ke km : Nat) :
    Iterates2 Try.prog 90 (fun Y => [Y, .ptr kb 0 0, .ptr ke 0 0, .ptr km 0 0]) ((strks l e q).map strkV) fun m =>
      (∃ z, m kb = some (.box 65 [.d (boxD l)] z)) ∧ (∃ z, m ke = some (.box 24 [.d (iD e.depth), .d (iD e.burr)] z)) ∧ ∃ z, m km = some (.box 59 [.fn 79 [R] []] z) := by
  intro Y I J hY hI hJ hK hy n m h0
  refine cwpK tabOk Try.func90 rfl rfl (show 4 ≤ _ by decide) rfl fun _ => ?_; simp only [Try.ntmps90]
  obtain ⟨⟨u1, hb⟩, ⟨u2, he⟩, ⟨u3, hm⟩⟩ := hK _ _ _ _ h0
  repeat (first | (with_reducible first | refine AWi.seqK fun _ => ?_ | refine AWi.blockK fun _ => ?_ | refine KI.go ?_) | ((first | refine AWi.region tabOk ?_ | refine AWi.condK fun _ _ => ?_ | refine AWi.draws tabOk rfl (by kernel_rfl) (by kernel_rfl) ?_); simp [-getElem?_pos, z0, z1, z2, hb]) | ((first | refine AWi.ret ?_ | refine AWi.skip ?_ | refine AWi.exit ?_); try simp only [thenP]) | (with_reducible refine BB.go ?_; simp only [blockP, thenP, reduceIte]) | (with_reducible refine And.intro (okLog_c (by simp [footOf, guardSlot, slotsOf, idsRead, looks, idsOf, idsOf1, idsWritten, colF]; kernel_rfl)) ?_))
  refine AWi.loopK (fun k n1 s => n ≤ n1 ∧ (∃ O : Nat → Prop, (∀ j, O j → n ≤ j ∧ j < n1) ∧ I (strkTo l e q k).length n1 O s.mem) ∧ s.slots 0 = Y ∧ s.slots 1 = .ptr kb 0 0 ∧ s.slots 2 = .ptr ke 0 0 ∧ s.slots 3 = .ptr km 0 0 ∧ s.slots 10 = .d (iD l.length) ∧ s.slots 11 = .d (iD (k : Nat)) ∧ k ≤ l.length) (fun k => l.length - k) 0 ?_ ?_
  · exact ⟨by omega, ⟨fun _ => False, fun _ h => h.elim, hI _ n _ m _ _ _ (by omega) (fun _ h => h.elim) (fun _ _ _ => rfl) h0⟩, by simp, by simp, by simp, by simp, by simp, by simp, by omega⟩
  · rintro k n1 s ⟨hkp, ⟨O, hO, hi⟩, s0, s1, s2, s3, s10, s11, hk⟩ kk
    obtain ⟨⟨u1, hb⟩, ⟨u2, he⟩, ⟨u3, hm⟩⟩ := hK _ _ _ _ hi
    by_cases hlt : k < l.length
    · obtain ⟨x, hx⟩ : ∃ x, l[k]? = some x := ⟨_, List.getElem?_eq_getElem hlt⟩
      have w1 : IntKind.i64.wrap ((k : Int) + 1) = (k : Int) + 1 := wrap64_in (by omega)
      have gx := goodS hl hx
      have cs := stroke_c l e hx gx ge
      repeat (first | (with_reducible first | refine AWi.seqK fun _ => ?_ | refine AWi.blockK fun _ => ?_ | refine KI.go ?_) | ((first | refine AWi.region tabOk ?_ | refine AWi.condK fun _ _ => ?_ | refine AWi.draws tabOk rfl (by kernel_rfl) (by kernel_rfl) ?_); simp [-getElem?_pos, z0, z1, z2, hlt, s10, s11, s1, s2, hb, he]) | ((first | refine AWi.ret ?_ | refine AWi.skip ?_ | refine AWi.exit ?_); try simp only [thenP]) | (with_reducible refine BB.go ?_; simp only [blockP, thenP, reduceIte]) | (with_reducible refine And.intro (okLog_c (by simp [footOf, guardSlot, slotsOf, idsRead, looks, idsOf, idsOf1, idsWritten, colF]; kernel_rfl)) ?_))
      rcases hc : canS x e <;> rw [hc] at cs
      · have hX : strX x e q = false := by simp [strX, hc]
        generalize strR x e = e2 at *
        refine ExecI.call [] cs ?_ rfl ?_ ?_; (focus simp [-getElem?_pos, hb, he]); (focus simp [-getElem?_pos, z0, z1, z2, hb, he]); simp [-getElem?_pos, z0, z1, z2, hb, he]
        repeat (first | (with_reducible first | refine AWi.seqK fun _ => ?_ | refine AWi.blockK fun _ => ?_ | refine KI.go ?_) | ((first | refine AWi.region tabOk ?_ | refine AWi.condK fun _ _ => ?_ | refine AWi.draws tabOk rfl (by kernel_rfl) (by kernel_rfl) ?_); simp [-getElem?_pos, z0, z1, z2, s0, s1, s2, s3, s10, s11, w1]) | ((first | refine AWi.ret ?_ | refine AWi.skip ?_ | refine AWi.exit ?_); try simp only [thenP]) | (with_reducible refine BB.go ?_; simp only [blockP, thenP, reduceIte]) | (with_reducible refine And.intro (okLog_c (by simp [footOf, guardSlot, slotsOf, idsRead, looks, idsOf, idsOf1, idsWritten, colF]; kernel_rfl)) ?_))
        exact LI.go (k + 1) ⟨by omega, ⟨fun j => O j ∨ j = n1 + 1 + 1 + 1 + 1 + 1 + 1 + 1 + 1 + 1 + 1, fun j hj => by rcases hj with h | h; have := hO j h; omega; omega, hI _ n1 O s.mem _ _ _ (by omega) (fun j hj => hj.imp_right fun h => by omega) (fun j hj ho => by simp [show ¬ j = n1 + 1 + 1 + 1 + 1 + 1 + 1 + 1 + 1 + 1 + 1 from fun h => ho (.inr h)]) (by rw [strkTo_no hx hX]; exact hi)⟩, by simp [s0], by simp [s1], by simp [s2], by simp [s3], by simp [s10], by simp [iD], hlt⟩ (by omega)
      have hsr : strR x e = strE x e := by rw [strR, hc]; rfl
      have ge2 : GoodE (strE x e) := GoodE.str gx ge hc
      rw [hsr] at cs
      have hX : strX x e q = decide ((strE x e).depth < q (strE x e).burr.toNat) := by simp [strX, hc]
      have ch := fun n m => RCall.toR (has_c q (strE x e) ge2) (svs := [R, .agg [.d (iD (strE x e).depth), .d (iD (strE x e).burr)]]) (by simp [mapO, hR.toD, EdgV.agg.toD]) n m
      rw [← hX] at ch
      generalize hee : strE x e = e2 at *
      refine ExecI.call [] cs ?_ rfl ?_ ?_; (focus simp [-getElem?_pos, hb, he]); (focus simp [-getElem?_pos, z0, z1, z2, hb, he]); simp [-getElem?_pos, z0, z1, z2, hb, he]
      have e0 : ∀ j, j < n1 → ¬ j = n1 + 1 + 1 + 1 + 1 + 1 + 1 + 1 + 1 + 1 + 1 := fun j hj => by omega
      have hkm := (StableN.lt (hI _) hi (k := km) fun n O m h => by obtain ⟨-, -, ⟨u, hu⟩⟩ := hK _ _ _ _ h; rw [hu]; simp).1
      have e1 := e0 km hkm
      repeat (first | (with_reducible first | refine AWi.seqK fun _ => ?_ | refine AWi.blockK fun _ => ?_ | refine KI.go ?_) | ((first | refine AWi.region tabOk ?_ | refine AWi.condK fun _ _ => ?_ | refine AWi.draws tabOk rfl (by kernel_rfl) (by kernel_rfl) ?_); simp [-getElem?_pos, z0, z1, z2, s0, s1, s2, s3, s10, s11, hm, e1]) | ((first | refine AWi.ret ?_ | refine AWi.skip ?_ | refine AWi.exit ?_); try simp only [thenP]) | (with_reducible refine BB.go ?_; simp only [blockP, thenP, reduceIte]) | (with_reducible refine And.intro (okLog_c (by simp [footOf, guardSlot, slotsOf, idsRead, looks, idsOf, idsOf1, idsWritten, colF]; kernel_rfl)) ?_))
      refine ExecI.callC (ch _ _) (by simp [-getElem?_pos, z0, z1, z2]) (by simp [calleeS, evList, hm, e1]) ?_
      rintro y n' m' ⟨rfl, rfl, rfl⟩
      have e9 : ∀ j, j < n1 → (setMem (setMem s.mem (n1 + 1 + 1 + 1 + 1 + 1 + 1 + 1 + 1 + 1 + 1) (some (Blk.box 24 [.d (.val (.int .i64 0)), .d (.val (.int .i64 0))] false))) (n1 + 1 + 1 + 1 + 1 + 1 + 1 + 1 + 1 + 1 + 1) (some (Blk.box 24 [.d (iD e2.depth), .d (iD e2.burr)] false))) j = s.mem j := fun j hj => by simp [e0 j hj]
      rcases hX2 : strX x e q
      · simp [-getElem?_pos, z0, z1, z2]
        repeat (first | (with_reducible first | refine AWi.seqK fun _ => ?_ | refine AWi.blockK fun _ => ?_ | refine KI.go ?_) | ((first | refine AWi.region tabOk ?_ | refine AWi.condK fun _ _ => ?_ | refine AWi.draws tabOk rfl (by kernel_rfl) (by kernel_rfl) ?_); simp [-getElem?_pos, z0, z1, z2, s0, s1, s2, s3, s10, s11, w1]) | ((first | refine AWi.ret ?_ | refine AWi.skip ?_ | refine AWi.exit ?_); try simp only [thenP]) | (with_reducible refine BB.go ?_; simp only [blockP, thenP, reduceIte]) | (with_reducible refine And.intro (okLog_c (by simp [footOf, guardSlot, slotsOf, idsRead, looks, idsOf, idsOf1, idsWritten, colF]; kernel_rfl)) ?_))
        exact LI.go (k + 1) ⟨by omega, ⟨fun j => O j ∨ j = n1 + 1 + 1 + 1 + 1 + 1 + 1 + 1 + 1 + 1 + 1, fun j hj => by rcases hj with h | h; have := hO j h; omega; omega, hI _ n1 O s.mem _ _ _ (by omega) (fun j hj => hj.imp_right fun h => by omega) (fun j hj ho => e9 j hj) (by rw [strkTo_no hx hX2]; exact hi)⟩, by simp [s0], by simp [s1], by simp [s2], by simp [s3], by simp [s10], by simp [iD], hlt⟩ (by omega)
      · simp [-getElem?_pos, z0, z1, z2, s0]
        have hget : ((strks l e q).map strkV)[(strkTo l e q k).length]? = some (strkV (k, e2)) := by rw [List.getElem?_map, strks_get hx hX2, hee]; rfl
        refine ExecI.callY (Y := Y) (xs := strkV (k, e2)) (hy _ _ (fun j => O j ∨ j = n1 + 1 + 1 + 1 + 1 + 1 + 1 + 1 + 1 + 1 + 1) _ _ hget (fun j hj => by rcases hj with h | h; have := hO j h; omega; omega) (hI _ n1 O s.mem _ _ _ (by omega) (fun j hj => hj.imp_right fun h => by omega) (fun j hj ho => e9 j hj) hi)) (by simp [-getElem?_pos, z0, z1, z2]) (by simp [calleeV, evList, strkV, s0]) ?_
        rintro y n' m' ⟨hkp2, -, ⟨rfl, h⟩ | ⟨rfl, h⟩⟩
        · simp [-getElem?_pos, z0, z1, z2]
          repeat (first | (with_reducible first | refine AWi.seqK fun _ => ?_ | refine AWi.blockK fun _ => ?_ | refine KI.go ?_) | ((first | refine AWi.region tabOk ?_ | refine AWi.condK fun _ _ => ?_ | refine AWi.draws tabOk rfl (by kernel_rfl) (by kernel_rfl) ?_); simp [-getElem?_pos, z0, z1, z2, s0, s1, s2, s3, s10, s11, w1]) | ((first | refine AWi.ret ?_ | refine AWi.skip ?_ | refine AWi.exit ?_); try simp only [thenP]) | (with_reducible refine BB.go ?_; simp only [blockP, thenP, reduceIte]) | (with_reducible refine And.intro (okLog_c (by simp [footOf, guardSlot, slotsOf, idsRead, looks, idsOf, idsOf1, idsWritten, colF]; kernel_rfl)) ?_))
          refine LI.go (k + 1) ⟨by omega, ⟨fun j => O j ∨ j = n1 + 1 + 1 + 1 + 1 + 1 + 1 + 1 + 1 + 1 + 1, fun j hj => by rcases hj with h | h; have := hO j h; omega; omega, by rw [strkTo_yes hx hX2]; exact hI _ _ _ _ _ _ _ (by omega) (fun _ h => .inl h) (fun _ _ _ => rfl) h⟩, by simp [s0], by simp [s1], by simp [s2], by simp [s3], by simp [s10], by simp [iD], hlt⟩ (by omega)
        · simp [-getElem?_pos, z0, z1, z2]
          repeat (first | (with_reducible first | refine AWi.seqK fun _ => ?_ | refine AWi.blockK fun _ => ?_ | refine KI.go ?_) | ((first | refine AWi.region tabOk ?_ | refine AWi.condK fun _ _ => ?_ | refine AWi.draws tabOk rfl (by kernel_rfl) (by kernel_rfl) ?_); simp [-getElem?_pos, z0, z1, z2, s0, s1, s2, s3, s10, s11]) | ((first | refine AWi.ret ?_ | refine AWi.skip ?_ | refine AWi.exit ?_); try simp only [thenP]) | (with_reducible refine BB.go ?_; simp only [blockP, thenP, reduceIte]) | (with_reducible refine And.intro (okLog_c (by simp [footOf, guardSlot, slotsOf, idsRead, looks, idsOf, idsOf1, idsWritten, colF]; kernel_rfl)) ?_))
          exact RI.ret rfl ⟨by omega, fun j => O j ∨ j = n1 + 1 + 1 + 1 + 1 + 1 + 1 + 1 + 1 + 1 + 1, fun j hj => by rcases hj with h | h; have := hO j h; omega; omega, .inr (hJ _ _ _ _ _ _ (by omega) (fun _ h => .inl h) (fun _ _ _ => rfl) h)⟩
    · obtain rfl : k = l.length := by omega
      repeat (first | (with_reducible first | refine AWi.seqK fun _ => ?_ | refine AWi.blockK fun _ => ?_ | refine KI.go ?_) | ((first | refine AWi.region tabOk ?_ | refine AWi.condK fun _ _ => ?_ | refine AWi.draws tabOk rfl (by kernel_rfl) (by kernel_rfl) ?_); simp [-getElem?_pos, z0, z1, z2, hlt, s10, s11]) | ((first | refine AWi.ret ?_ | refine AWi.skip ?_ | refine AWi.exit ?_); try simp only [thenP]) | (with_reducible refine BB.go ?_; simp only [blockP, thenP, reduceIte]) | (with_reducible refine And.intro (okLog_c (by simp [footOf, guardSlot, slotsOf, idsRead, looks, idsOf, idsOf1, idsWritten, colF]; kernel_rfl)) ?_))
      exact RI.normal rfl ⟨by omega, O, fun j hj => by have := hO j hj; omega, .inl (by rw [List.length_map]; exact hI _ _ _ _ _ _ _ (by omega) (fun _ h => .inl h) (fun _ _ _ => rfl) hi)⟩
theorem strokes1_w (l : List HS) (hl : l.all okS = true) (hn6 : l.length ≤ 6) (e : HE) (ge : GoodE e) (q : Nat → Int) (R : SV) (hR : RowV q R) (kb ke km : Nat) :
    Iterates Try.prog 90 (fun Y => [Y, .ptr kb 0 0, .ptr ke 0 0, .ptr km 0 0]) ((strks l e q).map strkV) fun m =>
      (∃ z, m kb = some (.box 65 [.d (boxD l)] z)) ∧ (∃ z, m ke = some (.box 24 [.d (iD e.depth), .d (iD e.burr)] z)) ∧ ∃ z, m km = some (.box 59 [.fn 79 [R] []] z) :=
  (strokes1_2 l hl hn6 e ge q R hR kb ke km).old
end Go.Proofs.Ytcmkkgdjhjpldaa.Eng

noncomputable section
namespace Go.Proofs.Ytcmkkgdjhjpldaa.Eng
open Go.RowKit
variable {P : Program} {T : Tab} {r : Option Nat} {ns : Nat}
section
variable {F : Fence} {n : Nat} {ops : Array Oper} {Q Qh : Exit → Act → World → Prop}
theorem wpIn_from {o : Oper} {a : Act} {w : World} {K : Act → World → Prop} (h0 : ∀ e a w, Qh e a w → e = .normal) (hh : o.wpIn F n P a w K Qh) : o.wpIn F n P a w K Q := by
  unfold Oper.wpIn at *
  refine ⟨hh.1, ?_⟩
  have hh := hh.2
  have no : ∀ c a w, ¬ Qh (.panic c) a w := fun c a w h => by cases h0 _ _ _ h
  generalize (o.semAt F.round a.eval).run P w = r at *
  cases r with
  | ok x w' =>
    cases x <;> simp only [Oper.uponIn] at hh ⊢ <;>
      first
        | exact hh
        | exact ⟨hh.1, CallsIn.mono hh.2 (fun e w'' he => by cases e <;> first | exact he | exact absurd he (no _ _ _) | (obtain ⟨_, _, hx⟩ := he; cases h0 _ _ _ hx))⟩
        | exact ⟨hh.1, RoundIn.mono hh.2 (fun e w'' he => by cases e <;> first | exact he | exact absurd he (no _ _ _) | (obtain ⟨_, _, hx⟩ := he; cases h0 _ _ _ hx))⟩
  | halt x w' => cases x <;> simp only [Oper.uponIn] at hh ⊢ <;> first | exact hh | exact absurd hh (no _ _ _)
theorem wpAnyIn_more : ∀ (f k : Nat) (L : Array Bool) (a : Act) (w : World), wpAnyIn F n P .any ops Q f L a w → wpAnyIn F n P .any ops Q (f + k) L a w
  | 0, 0, _, _, _, h => h
  | 0, k + 1, L, a, w, h => by
    rw [show 0 + (k + 1) = k + 1 by omega]
    exact ⟨fun _ => h.2, fun i hi => by rw [h.1] at hi; cases hi⟩
  | f + 1, k, L, a, w, h => by
    rw [show f + 1 + k = (f + k) + 1 by omega]
    exact ⟨h.1, fun i hi => wpOpIn_mono (fun a w h => wpAnyIn_more f k _ a w h) (h.2 i hi)⟩
theorem wpAnyIn_seq : ∀ (l : List Oper) (k : Nat) (L : Array Bool) (a : Act) (w : World), (∀ j, l[j]? = ops[k + j]?) →
    Region.seqB .any ops l.length k L = true → wpListIn F n P ops Q l a w → wpAnyIn F n P .any ops Q l.length L a w
  | [], _, _, _, _, _, hB, h => ⟨by simpa [Region.seqB] using hB, h⟩
  | o :: l, k, L, a, w, hl, hB, h => by
    have h0 : ops[k]? = some o := by simpa using (hl 0).symm
    simp only [List.length_cons, Region.seqB, Bool.and_eq_true, decide_eq_true_eq] at hB
    refine ⟨fun h1 => (by rw [hB.1] at h1; cases h1), fun i hi => ?_⟩
    rw [hB.1] at hi
    have hik : i = k := by simpa using hi
    subst hik
    have hw : wpOpIn F n P ops Q i (wpListIn F n P ops Q l) a w := by unfold wpOpIn; simp only [h0]; exact h
    exact wpOpIn_mono (fun a' w' h' => wpAnyIn_seq l (i + 1) _ a' w' (fun j => by have := hl (j + 1); simpa [Nat.add_assoc, Nat.add_comm 1 j] using this) hB.2 h') hw
end
def headB (l : List Oper) (n : Nat) : Bool := backB (l.take n).toArray && ((l.take n).all fun o => match o.guard with
  | some (g, _) => decide (g < n)
  | none => true) && decide (n < l.length)
def listedTo (len n : Nat) : Array Bool := ((List.range len).map fun i => decide (i < n)).toArray
def tailB (l : List Oper) (n : Nat) : Bool := headB l n && (Region.sinkB .any l.toArray n && (Region.chainB .any l.toArray n && Region.seqB .any l.toArray (l.length - n) n (listedTo l.length n)))
section
variable {F : Fence} {j n : Nat} {l : List Oper} {Q Qh : Exit → Act → World → Prop}
theorem take_at (l : List Oper) {n i : Nat} (h : i < n) : (l.take n).toArray[i]? = l.toArray[i]? := by simp [h]
theorem yielded_take (l : List Oper) {n g : Nat} (h : g < n) (tmps : Array Value) : yielded (l.take n).toArray tmps g = yielded l.toArray tmps g := by
  unfold yielded
  rw [take_at l h]
theorem ready_head (hB : headB l n = true) {L L' : Array Bool} (hL : ∀ i, i < n → L'.getD i true = L.getD i true) (hL2 : ∀ i, i < n → L'.getD i false = L.getD i false) {i : Nat} (hi : i < n) : i ∈ Region.ready .any l.toArray L' ↔ i ∈ Region.ready .any (l.take n).toArray L := by
  simp only [headB, Bool.and_eq_true, decide_eq_true_eq] at hB
  rw [mem_ready, mem_ready, hL i hi, take_at l hi]
  refine and_congr_right fun _ => exists_congr fun o => and_congr_right fun ho => forall_congr' fun e => forall_congr' fun he => forall_congr' fun hb => ?_
  have hlt : e.on < i := by
    have := hB.1.1
    unfold backB at this
    rw [List.all_eq_true] at this
    have h2 := this i (by rw [List.mem_range]; simp; omega)
    rw [take_at l hi, ho] at h2
    simp only [Option.map_some, Option.getD_some, Array.all_eq_true'] at h2
    have h3 := h2 e he
    rw [hb] at h3
    simpa using h3
  rw [hL2 e.on (by omega)]
theorem wpAnyIn_tail (hB : tailB l n = true) (h0 : ∀ e a w, Qh e a w → e = .normal) (hT : ∀ a w, Qh .normal a w → wpListIn F j P l.toArray Q (l.drop n) a w) :
    ∀ (f : Nat) (L L' : Array Bool) (a : Act) (w : World), L.size = n → HeadInv .any l.toArray n L' → (∀ i, i < n → L'.getD i true = L.getD i true) → (∀ i, i < n → L'.getD i false = L.getD i false) →
      wpAnyIn F j P .any (l.take n).toArray Qh f L a w → wpAnyIn F j P .any l.toArray Q (f + (l.length - n)) L' a w := by
  have hB' := hB
  simp only [tailB, Bool.and_eq_true] at hB'
  obtain ⟨hh, hs, hc, hq⟩ := hB'
  have hh' := hh
  simp only [headB, Bool.and_eq_true, decide_eq_true_eq] at hh'
  obtain ⟨⟨hback, hgd⟩, hn⟩ := hh'
  have hsz : (l.take n).toArray.size = n := by simp; omega
  have done : ∀ (L L' : Array Bool) (a : Act) (w : World), L.size = n → HeadInv .any l.toArray n L' → (∀ i, i < n → L'.getD i true = L.getD i true) → Region.ready .any (l.take n).toArray L = [] → Qh .normal a w → wpAnyIn F j P .any l.toArray Q (l.length - n) L' a w := by
    intro L L' a w hLs inv hL hr hQ
    have hall := all_listed (ops := (l.take n).toArray) (listed := L) (by rw [hLs, hsz]) hback hr
    have hL' : L' = listedTo l.length n := by
      apply Array.ext
      · rw [inv.size]; simp [listedTo]
      · intro i h1 h2
        have hsz' : i < l.length := by have := inv.size; simp at this; omega
        have e1 : L'.getD i true = L'[i] := by simp [Array.getD, h1]
        rw [← e1]
        by_cases hi : i < n
        · rw [hL i hi, hall i (by rw [hsz]; exact hi)]
          simp [listedTo, hi]
        · rw [inv.tail i (by omega) (by simpa using hsz')]
          simp [listedTo, hi]
    have hd : (l.drop n).length = l.length - n := by simp
    have := wpAnyIn_seq (F := F) (n := j) (P := P) (ops := l.toArray) (Q := Q) (l.drop n) n L' a w (fun i => by simp [List.getElem?_drop]) (by rw [hd, hL']; exact hq) (hT a w hQ)
    rwa [hd] at this
  intro f
  induction f with
  | zero =>
    intro L L' a w hLs inv hL hL2 h
    rw [Nat.zero_add]
    exact done L L' a w hLs inv hL h.1 h.2
  | succ f ih =>
    intro L L' a w hLs inv hL hL2 h
    by_cases hr : Region.ready .any (l.take n).toArray L = []
    · have := wpAnyIn_more _ (f + 1) _ _ _ (done L L' a w hLs inv hL hr (h.1 hr))
      rwa [Nat.add_comm] at this
    rw [show f + 1 + (l.length - n) = (f + (l.length - n)) + 1 by omega]
    obtain ⟨i0, hi0⟩ := List.exists_mem_of_ne_nil _ hr
    have hi0n : i0 < n := by
      obtain ⟨_, o, ho, _⟩ := mem_ready.1 hi0
      have := (Array.getElem?_eq_some_iff.1 ho).1
      rw [hsz] at this
      exact this
    have hun : L'.getD i0 true = false := by rw [hL i0 hi0n]; exact (mem_ready.1 hi0).1
    refine ⟨fun h1 => ?_, fun i hi => ?_⟩
    · have := (ready_head hh hL hL2 hi0n).2 hi0
      rw [h1] at this
      cases this
    · have hin : i < n := by
        rcases Nat.lt_or_ge i n with h2 | h2
        · exact h2
        · exact absurd hi (tail_waits hs hc (by simpa using hn) inv _ i0 rfl hi0n hun i h2)
      have hi2 := (ready_head hh hL hL2 hin).1 hi
      have hw := h.2 i hi2
      unfold wpOpIn at hw ⊢
      rw [take_at l hin] at hw
      have hset : ∀ k b, k < n → (L'.setIfInBounds i true).getD k b = (L.setIfInBounds i true).getD k b := fun k b hk => by
        by_cases hki : k = i
        · subst hki
          have h3 : k < L'.size := by rw [inv.size]; simp; omega
          simp [h3, hLs, hk]
        · rw [getD_set_ne b (Ne.symm hki), getD_set_ne b (Ne.symm hki)]
          cases b
          · exact hL2 k hk
          · exact hL k hk
      have hK : ∀ a w, wpAnyIn F j P .any (l.take n).toArray Qh f (L.setIfInBounds i true) a w → wpAnyIn F j P .any l.toArray Q (f + (l.length - n)) (L'.setIfInBounds i true) a w :=
        fun a w h => ih _ _ a w (by simp [hLs]) (inv.set hi hin) (fun k hk => hset k true hk) (fun k hk => hset k false hk) h
      split
      · rename_i ho
        rw [ho] at hw
        exact hK _ _ hw
      · rename_i o ho
        simp only [ho] at hw
        have hwant : Region.wanted o (yielded (l.take n).toArray a.tmps) = Region.wanted o (yielded l.toArray a.tmps) := by
          unfold Region.wanted
          have hmem : o ∈ l.take n := by
            have := take_at l hin
            rw [ho] at this
            exact List.mem_of_getElem? (by simpa using this)
          have hgo := List.all_eq_true.1 hgd o hmem
          cases hg : o.guard with
          | none => rfl
          | some q =>
            obtain ⟨g, b⟩ := q
            rw [hg] at hgo
            simp only [decide_eq_true_eq] at hgo
            simp only [yielded_take l hgo]
        rw [hwant] at hw
        split
        · rename_i hc
          rw [if_pos hc] at hw
          exact wpIn_from h0 (Oper.wpIn_mono hK hw)
        · rename_i hc
          rw [if_neg hc] at hw
          exact ⟨hw.1, hK _ _ hw.2⟩
end
theorem drawsT_core (hm : P.follows .mixedOrders = true) {id : Nat} {l : List Oper} {n : Nat} (hBk : backB (l.take n).toArray = true) (hB : tailB l n = true) {st : Nat → St} {N : Nat → Nat} {kd : Nat → Kd3} (hD : Draw3 P r ns (l.take n) st N kd) {Q : Post}
    {W0 : Fix} {R0 : Nat → Prop} {B : Nat} {E : Env} {a : Act} {w : World} (hi : InAct r W0 R0 B) (hs : Sim W0 R0 ns (· < N 0) (st 0) E a w)
    (hT : ∀ E' a' w', Sim W0 R0 ns (· < N (l.take n).length) (st (l.take n).length) E' a' w' → wpListIn (fen (rOf W0 r)) 0 P l.toArray (fun e a' w' => ∃ n' s' E' W1, Ext W0 W1 ∧ InAct r W1 R0 B ∧ Sim W1 R0 ns (· < n') s' E' a' w' ∧ Q e n' s') (l.drop n) a' w') :
    (Code.region id l.toArray true).wpIn (fen (rOf W0 r)) 0 P (fun e a' w' => ∃ n' s' E' W1, Ext W0 W1 ∧ InAct r W1 R0 B ∧ Sim W1 R0 ns (· < n') s' E' a' w' ∧ Q e n' s') a w := by
  have h1 := draw_any3 hBk hD hi (E := E) (a := a) hs.drew (Q := fun e a' w' => e = .normal ∧ ∃ E', Sim W0 R0 ns (· < N (l.take n).length) (st (l.take n).length) E' a' w') (fun E' a' w' h => ⟨rfl, E', h⟩)
  refine wpIn_region_any hm ?_
  have hn : n < l.length := by
    simp only [tailB, headB, Bool.and_eq_true, decide_eq_true_eq] at hB
    exact hB.1.2
  have hsz : (l.take n).toArray.size = n := by simp; omega
  rw [hsz] at h1
  have h2 := wpAnyIn_tail (j := 0) (Q := fun e a' w' => ∃ n' s' E' W', Ext W0 W' ∧ InAct r W' R0 B ∧ Sim W' R0 ns (· < n') s' E' a' w' ∧ Q e n' s') hB (fun e a w h => h.1) (fun a' w' ⟨_, E', h⟩ => hT E' a' w' h) n (Array.replicate n false) (Array.replicate l.length false) a _ (by simp)
    ⟨by simp, fun j oj _ hl => (by rw [getD_replicate_false] at hl; cases hl), fun t _ ht => getD_in (by simpa using ht) (getD_replicate_false _ _)⟩ (fun i hi => by simp [hi, show i < l.length by omega]) (fun i hi => by simp [hi, show i < l.length by omega]) h1
  rw [show n + (l.length - n) = l.length by omega] at h2
  simpa using h2
theorem AWi.drawsT (hT : TabOk P T) (hm : P.follows .mixedOrders = true) {id : Nat} {l : List Oper} (n : Nat) (hst : stOk (l.take n).toArray = true) (hB : tailB l n = true) {n0 : Nat} {s : St} {Q : Post}
    (h : ExecV P r ns (l.take n) n0 (l.take n) n0 s [] (fun n' s' => ExecI P r T l.toArray ns n' (l.drop n) s' (fun n'' s'' => Q .normal n'' s''))) : AWi P r ns (.region id l.toArray true) n0 s Q := fun W0 R0 B E a w hi hs => by
  obtain ⟨es, nF, sF, k1, k2, k3⟩ := execV_chain (l.take n) n0 s [] (fun _ h => by cases h) (Nat.le_refl _) h
  have hD := draw3_V k1 hst fun i k ei ek hik hi hk => k3 i k ei ek hik (Nat.zero_le _) hi hk
  have hBk : backB (l.take n).toArray = true := by unfold stOk at hst; rw [Bool.and_eq_true] at hst; exact hst.1
  have e0 := chainV_zero k1
  have eF := chainV_end k1
  exact drawsT_core hm hBk hB hD hi (by rw [e0.1, e0.2]; exact hs) fun E' a' w' h => execI_list hT hi (l.drop n) _ k2 (by rw [eF.1, eF.2] at h; exact h) fun n' s' E' _ _ h1 h2 => ⟨n', s', E', W0, Ext.refl _, hi, h1, h2⟩
end Go.Proofs.Ytcmkkgdjhjpldaa.Eng

namespace Go.Proofs.Ytcmkkgdjhjpldaa.Eng
open Go.RowKit
set_option maxRecDepth 100000 in
set_option maxHeartbeats 4000000 in
theorem strokes_w (l : List HS) (a b : Int) (R : SV) (n : Nat) (m : Mem) : CWp Try.prog 85 [.agg [.d (boxD l)], .agg [.d (iD a), .d (iD b)], .fn 79 [R] []] n m fun y n' m' => n + 1 + 1 + 1 ≤ n' ∧ y = .fn 90 [] [.ptr n 0 0, .ptr (n + 1) 0 0, .ptr (n + 1 + 1) 0 0] ∧
    m' = setMem (setMem (setMem m n (some (.box 65 [.d (boxD l)] false))) (n + 1) (some (.box 24 [.d (iD a), .d (iD b)] false))) (n + 1 + 1) (some (.box 59 [.fn 79 [R] []] false)) := by
  refine cwpK tabOk Try.func85 rfl rfl (show 3 ≤ _ by decide) rfl fun _ => ?_; simp only [Try.ntmps85]
  repeat (first | (with_reducible first | refine AWi.seqK fun _ => ?_ | refine AWi.blockK fun _ => ?_ | refine KI.go ?_) | ((first | refine AWi.region tabOk ?_ | refine AWi.condK fun _ _ => ?_ | refine AWi.draws tabOk rfl (by kernel_rfl) (by kernel_rfl) ?_); simp [-getElem?_pos, z0, z1, z2, z0]) | ((first | refine AWi.ret ?_ | refine AWi.skip ?_ | refine AWi.exit ?_); try simp only [thenP]) | (with_reducible refine BB.go ?_; simp only [blockP, thenP, reduceIte]) | (with_reducible refine And.intro (okLog_c (by simp [footOf, guardSlot, slotsOf, idsRead, looks, idsOf, idsOf1, idsWritten, colF]; kernel_rfl)) ?_))
  exact RI.ret rfl ⟨by omega, rfl, rfl⟩
def depN (l : List HS) (q : Nat → Int) (x : Nat × HE) : Int := min (q x.2.burr.toNat + (l.getD x.1 ⟨0, 0, 0⟩).cut) 101
def depX (l : List HS) (b : Nat) (q : Nat → Int) : List Int := (strks l ⟨0, b⟩ q).map (depN l q)
def rowOk (q : Nat → Int) : Prop := ∀ i, i < 7 → 0 ≤ q i ∧ q i ≤ 101
theorem strks_of {l : List HS} {e : HE} {q : Nat → Int} {i k : Nat} {x : HE} (h : (strks l e q)[i]? = some (k, x)) : ∃ s, l[k]? = some s ∧ strX s e q = true ∧ x = strE s e := by
  have key : ∀ n, (k, x) ∈ strkTo l e q n → ∃ s, l[k]? = some s ∧ strX s e q = true ∧ x = strE s e := by
    intro n
    induction n with
    | zero => intro h; cases h
    | succ n ih =>
      intro h
      simp only [strkTo, List.mem_append] at h
      rcases h with h | h
      · exact ih h
      · split at h
        · rename_i s hs
          split at h
          · rename_i hc
            simp only [List.mem_singleton, Prod.mk.injEq] at h
            obtain ⟨rfl, rfl⟩ := h
            exact ⟨s, hs, hc, rfl⟩
          · cases h
        · cases h
  exact key _ (List.mem_of_getElem? h)
set_option maxRecDepth 100000 in
set_option maxHeartbeats 8000000 in
theorem depths1_w (l : List HS) (hl : l.all okS = true) (hn6 : l.length ≤ 6) (b : Nat) (hb7 : b < 7) (q : Nat → Int) (hq : rowOk q) (kb kr ki : Nat) :
    Iterates Try.prog 91 (fun Y => [Y, .ptr kb 0 0, .ptr kr 0 0, .ptr ki 0 0]) ((depX l b q).map fun x => [.d (iD x)]) fun m =>
      (∃ z, m kb = some (.box 65 [.d (boxD l)] z)) ∧ (∃ z, m kr = some (.box 3 [.d (iD (b : Nat))] z)) ∧ ∃ z, m ki = some (.box 83 (rowS q) z) := by
  intro Y n0 I J ⟨hY1, hY2⟩ hI hJ hk hy n m hn h0
  obtain ⟨⟨ub, hb⟩, ⟨ur, hr⟩, ⟨ui, hi⟩⟩ := hk _ _ h0
  have l1 : kb < n0 := (hI 0).lt h0 fun m h e => by obtain ⟨⟨z, h1⟩, _⟩ := hk _ _ h; rw [e] at h1; cases h1
  have l2 : kr < n0 := (hI 0).lt h0 fun m h e => by obtain ⟨_, ⟨z, h1⟩, _⟩ := hk _ _ h; rw [e] at h1; cases h1
  have l3 : ki < n0 := (hI 0).lt h0 fun m h e => by obtain ⟨_, _, ⟨z, h1⟩⟩ := hk _ _ h; rw [e] at h1; cases h1
  have e1 : ¬ kb = n := by omega
  have e2 : ¬ kr = n := by omega
  have e3 : ¬ ki = n := by omega
  have ge : GoodE ⟨0, b⟩ := ⟨by simp, by simp, by simp, by simp; omega⟩
  refine cwpK tabOk Try.func91 rfl rfl (show 4 ≤ _ by decide) rfl fun _ => ?_; simp only [Try.ntmps91]
  refine AWi.seqK fun _ => ?_
  refine AWi.region tabOk ?_
  simp [-getElem?_pos, z0, z1, z2, -SV.fit, -SV.cells, hY1, hY2]
  repeat (first | (with_reducible first | refine AWi.seqK fun _ => ?_ | refine AWi.blockK fun _ => ?_ | refine KI.go ?_) | ((first | refine AWi.region tabOk ?_ | refine AWi.condK fun _ _ => ?_ | refine AWi.draws tabOk rfl (by kernel_rfl) (by kernel_rfl) ?_); simp [-getElem?_pos, z0, z1, z2, hb, hr, hi, e1, e2, e3]) | ((first | refine AWi.ret ?_ | refine AWi.skip ?_ | refine AWi.exit ?_); try simp only [thenP]) | (with_reducible refine BB.go ?_; simp only [blockP, thenP, reduceIte]) | (with_reducible refine And.intro (okLog_c (by simp [footOf, guardSlot, slotsOf, idsRead, looks, idsOf, idsOf1, idsWritten, colF]; kernel_rfl)) ?_))
  refine ExecI.callC (strokes_w l 0 b (.agg (rowS q)) _ _) rfl (by simp [calleeS, evList, iD]) ?_
  rintro y n1 m1 ⟨hn1, rfl, rfl⟩
  simp
  repeat (first | (with_reducible first | refine AWi.seqK fun _ => ?_ | refine AWi.blockK fun _ => ?_ | refine KI.go ?_) | ((first | refine AWi.region tabOk ?_ | refine AWi.condK fun _ _ => ?_ | refine AWi.draws tabOk rfl (by kernel_rfl) (by kernel_rfl) ?_); simp [-getElem?_pos, z0, z1, z2, z0]) | ((first | refine AWi.ret ?_ | refine AWi.skip ?_ | refine AWi.exit ?_); try simp only [thenP]) | (with_reducible refine BB.go ?_; simp only [blockP, thenP, reduceIte]) | (with_reducible refine And.intro (okLog_c (by simp [footOf, guardSlot, slotsOf, idsRead, looks, idsOf, idsOf1, idsWritten, colF]; kernel_rfl)) ?_))
  refine AWi.iterK (strokes1_w l hl hn6 ⟨0, b⟩ ge q (.agg (rowS q)) .agg (n + 1 + 1 + 1 + 1 + 1 + 1) (n + 1 + 1 + 1 + 1 + 1 + 1 + 1) (n + 1 + 1 + 1 + 1 + 1 + 1 + 1 + 1)) rfl (fun _ => rfl) (fun _ h => by cases h) rfl (by intro z hz; obtain ⟨x, _, rfl⟩ := List.mem_map.1 hz; rfl)
    (fun i mm => I i mm ∧ (∀ j, n0 ≤ j → j < n → mm j = m j) ∧ mm n = some (.box 122 [Y] false) ∧ mm (n + 1 + 1 + 1 + 1 + 1 + 1) = some (.box 65 [.d (boxD l)] false) ∧ mm (n + 1 + 1 + 1 + 1 + 1 + 1 + 1) = some (.box 24 [.d (iD 0), .d (iD b)] false) ∧ mm (n + 1 + 1 + 1 + 1 + 1 + 1 + 1 + 1) = some (.box 59 [.fn 79 [.agg (rowS q)] []] false))
    (fun c mm => c = .ret ∧ J mm ∧ ∀ j, n0 ≤ j → j < n → mm j = m j) ?_ ?_ (fun i mm h => ⟨⟨_, h.2.2.2.1⟩, ⟨_, h.2.2.2.2.1⟩, ⟨_, h.2.2.2.2.2⟩⟩) ?_ ?_ ?_ ?_
  · rintro i mm mm' h ⟨h1, h2, h3, h4, h5, h6⟩
    exact ⟨hI _ _ _ (fun j hj => h j (by omega)) h1, fun j j1 j2 => (h j (by omega)).trans (h2 j j1 j2), (h n (by omega)).trans h3, (h _ (by omega)).trans h4, (h _ (by omega)).trans h5, (h _ (by omega)).trans h6⟩
  · rintro c mm mm' h ⟨h1, h2, h3⟩
    exact ⟨h1, hJ _ _ (fun j hj => h j (by omega)) h2, fun j j1 j2 => (h j (by omega)).trans (h3 j j1 j2)⟩
  · have o : ∀ j, j < n + 1 → ¬ j = n + 1 + 1 + 1 + 1 + 1 + 1 ∧ ¬ j = n + 1 + 1 + 1 + 1 + 1 + 1 + 1 ∧ ¬ j = n + 1 + 1 + 1 + 1 + 1 + 1 + 1 + 1 := fun j hj => by omega
    refine ⟨hI _ m _ (fun j hj => ?_) h0, fun j j1 j2 => ?_, ?_, ?_, ?_, ?_⟩
    · simp [o j (by omega), show ¬ j = n by omega]
    · simp [o j (by omega), show ¬ j = n by omega]
    · simp [o n (by omega)]
    · simp [show ¬ n + 1 + 1 + 1 + 1 + 1 + 1 = n + 1 + 1 + 1 + 1 + 1 + 1 + 1 by omega, show ¬ n + 1 + 1 + 1 + 1 + 1 + 1 = n + 1 + 1 + 1 + 1 + 1 + 1 + 1 + 1 by omega]
    · simp [show ¬ n + 1 + 1 + 1 + 1 + 1 + 1 + 1 = n + 1 + 1 + 1 + 1 + 1 + 1 + 1 + 1 by omega]
    · simp
  · rintro i n2 m2 z hz hn2 ⟨h1, h2, h3, h4, h5, h6⟩ kk
    rw [List.getElem?_map, Option.map_eq_some_iff] at hz
    obtain ⟨⟨st, x⟩, hx, rfl⟩ := hz
    obtain ⟨s, hs, hX, hxe⟩ := strks_of hx
    have gs := goodS hl hs
    have gx : GoodE x := by rw [hxe]; simp only [strX, Bool.and_eq_true] at hX; exact GoodE.str gs ge hX.1
    obtain ⟨⟨ub2, hb2⟩, ⟨ur2, hr2⟩, ⟨ui2, hi2⟩⟩ := hk _ _ h1
    have hst : st < l.length := (List.getElem?_eq_some_iff.1 hs).1
    repeat (first | (with_reducible first | refine AWi.seqK fun _ => ?_ | refine AWi.blockK fun _ => ?_ | refine KI.go ?_) | ((first | refine AWi.region tabOk ?_ | refine AWi.condK fun _ _ => ?_ | refine AWi.draws tabOk rfl (by kernel_rfl) (by kernel_rfl) ?_); simp [-getElem?_pos, z0, z1, z2, putAll, strkV]) | ((first | refine AWi.ret ?_ | refine AWi.skip ?_ | refine AWi.exit ?_); try simp only [thenP]) | (with_reducible refine BB.go ?_; simp only [blockP, thenP, reduceIte]) | (with_reducible refine And.intro (okLog_c (by simp [footOf, guardSlot, slotsOf, idsRead, looks, idsOf, idsOf1, idsWritten, colF]; kernel_rfl)) ?_))
    refine RB.go (by omega) (fun j hj => by simp [show ¬ j = n2 + 1 by omega]) fun rc hrc qq => ?_
    obtain ⟨xd, xb⟩ := x
    obtain ⟨kx, rfl⟩ := Int.eq_ofNat_of_zero_le gx.b0
    have hkx : kx < 7 := by have := gx.b1; simp only at this; omega
    have hkx1 : kx + 1 ≤ 7 := hkx
    have hkx7 : (kx : Int) < 7 := by omega
    have c1 := fun g : Int → SV => tab1 (g := g) (f := q) hkx
    have hqb := hq kx hkx
    have wq : IntKind.i64.wrap (q kx + s.cut) = q kx + s.cut := wrap64_in (by have := gs.c0; have := gs.c1; omega)
    have hdep : depN l q (st, ⟨xd, (kx : Int)⟩) = min (q kx + s.cut) 101 := by
      simp only [depN, List.getD_eq_getElem?_getD, hs, Option.getD_some, Int.toNat_natCast]
    have m1 : (if 101 < q kx + s.cut then 101 else q kx + s.cut) = min (q kx + s.cut) 101 := by split <;> omega
    have m2' : (if q kx + s.cut < 101 then q kx + s.cut else 101) = min (q kx + s.cut) 101 := by split <;> omega
    have f0 : ¬ n = n1 := by omega
    have f1 : ¬ n = n2 + 1 := by omega
    have f2 : ¬ kb = n1 := by omega
    have f3 : ¬ kb = n2 + 1 := by omega
    have f4 : ¬ ki = n1 := by omega
    have f5 : ¬ ki = n2 + 1 := by omega
    have f6 : ¬ n2 + 1 = n1 := by omega
    refine AWi.blockK fun _ => ?_
    refine AWi.seqK fun _ => ?_
    refine AWi.drawsT tabOk (by kernel_rfl) 13 (by kernel_rfl) (by kernel_rfl) ?_
    simp only [List.take_succ_cons, List.take_zero, List.drop_succ_cons, List.drop_zero]
    repeat (with_reducible refine ExecV.auto tabOk ?_; simp [-getElem?_pos, z0, z1, z2, kindV, isPure, h3, hb2, hi2, hs, hst, hkx1, hkx7, c1, wq, m1, m2', f0, f1, f2, f3, f4, f5, f6]; try (refine And.intro (OkV_old (by simp; try omega) (by omega) (by simp [AllAcc])) ?_))
    show ExecW _ _ _ _ _ _ _ _ _
    have hxs : ((depX l b q).map fun x => [SV.d (iD x)])[i]? = some [.d (iD (min (q kx + s.cut) 101))] := by
      rw [List.getElem?_map, depX, List.getElem?_map, hx, Option.map_some, Option.map_some, hdep]
    have hk0 : ∀ j, j < n1 → (setMem (setMem (setMem m2 (n2 + 1) (some (Blk.box 24 [.d (.val (.int .i64 0)), .d (.val (.int .i64 0))] false))) (n2 + 1) (some (Blk.box 24 [.d (iD xd), .d (iD (kx : Int))] false))) n1 rc) j = m2 j := fun j hj => by
      simp [show ¬ j = n1 by omega, show ¬ j = n2 + 1 by omega]
    refine ExecI.callY (Y := Y) (xs := [.d (iD (min (q kx + s.cut) 101))]) (hy i _ _ _ hxs (by omega) (hI _ m2 _ (fun j hj => hk0 j (by omega)) h1)) (by simp [-getElem?_pos, z0, z1, z2]) (by simp [calleeV, evList]) ?_
    rintro y n4 m4 ⟨hkp, hy4⟩
    have k1 := hkp.1
    have hk4 : ∀ j, n0 ≤ j → j < n1 → m4 j = m2 j := fun j j1 j2 => (hkp.2 j j1 (by omega)).trans (hk0 j j2)
    rcases hy4 with ⟨rfl, h⟩ | ⟨rfl, h⟩
    · simp [-getElem?_pos, z0, z1, z2]
      repeat (first | (with_reducible first | refine AWi.seqK fun _ => ?_ | refine AWi.blockK fun _ => ?_ | refine KI.go ?_) | ((first | refine AWi.region tabOk ?_ | refine AWi.condK fun _ _ => ?_ | refine AWi.draws tabOk rfl (by kernel_rfl) (by kernel_rfl) ?_); simp [-getElem?_pos, z0, z1, z2, z0]) | ((first | refine AWi.ret ?_ | refine AWi.skip ?_ | refine AWi.exit ?_); try simp only [thenP]) | (with_reducible refine BB.go ?_; simp only [blockP, thenP, reduceIte]) | (with_reducible refine And.intro (okLog_c (by simp [footOf, guardSlot, slotsOf, idsRead, looks, idsOf, idsOf1, idsWritten, colF]; kernel_rfl)) ?_))
      refine RE.normal (by omega) ?_ ⟨h, fun j j1 j2 => (hk4 j j1 (by omega)).trans (h2 j j1 j2), (hk4 n hn (by omega)).trans h3, (hk4 _ (by omega) (by omega)).trans h4, (hk4 _ (by omega) (by omega)).trans h5, (hk4 _ (by omega) (by omega)).trans h6⟩
      intro j j1 j2
      have := hkp.2 j (by omega) (by omega)
      simpa using this
    · simp [-getElem?_pos, z0, z1, z2]
      repeat (first | (with_reducible first | refine AWi.seqK fun _ => ?_ | refine AWi.blockK fun _ => ?_ | refine KI.go ?_) | ((first | refine AWi.region tabOk ?_ | refine AWi.condK fun _ _ => ?_ | refine AWi.draws tabOk rfl (by kernel_rfl) (by kernel_rfl) ?_); simp [-getElem?_pos, z0, z1, z2, z0]) | ((first | refine AWi.ret ?_ | refine AWi.skip ?_ | refine AWi.exit ?_); try simp only [thenP]) | (with_reducible refine BB.go ?_; simp only [blockP, thenP, reduceIte]) | (with_reducible refine And.intro (okLog_c (by simp [footOf, guardSlot, slotsOf, idsRead, looks, idsOf, idsOf1, idsWritten, colF]; kernel_rfl)) ?_))
      refine RE.ret (by omega) ?_ ⟨rfl, h, fun j j1 j2 => (hk4 j j1 (by omega)).trans (h2 j j1 j2)⟩
      intro j j1 j2
      have := hkp.2 j (by omega) (by omega)
      simpa using this
  · intro n' m' hn' ⟨h1, h2, _⟩
    simp only [thenP]
    repeat (first | (with_reducible first | refine AWi.seqK fun _ => ?_ | refine AWi.blockK fun _ => ?_ | refine KI.go ?_) | ((first | refine AWi.region tabOk ?_ | refine AWi.condK fun _ _ => ?_ | refine AWi.draws tabOk rfl (by kernel_rfl) (by kernel_rfl) ?_); simp [-getElem?_pos, z0, z1, z2, z0]) | ((first | refine AWi.ret ?_ | refine AWi.skip ?_ | refine AWi.exit ?_); try simp only [thenP]) | (with_reducible refine BB.go ?_; simp only [blockP, thenP, reduceIte]) | (with_reducible refine And.intro (okLog_c (by simp [footOf, guardSlot, slotsOf, idsRead, looks, idsOf, idsOf1, idsWritten, colF]; kernel_rfl)) ?_))
    exact RI.normal rfl ⟨⟨by omega, h2⟩, .inl (by rw [List.length_map] at h1; rw [List.length_map, depX, List.length_map]; exact h1)⟩
  · rintro c n' m' hn' ⟨rfl, h1, h2⟩
    simp only [afterP, thenP]
    repeat (first | (with_reducible first | refine AWi.seqK fun _ => ?_ | refine AWi.blockK fun _ => ?_ | refine KI.go ?_) | ((first | refine AWi.region tabOk ?_ | refine AWi.condK fun _ _ => ?_ | refine AWi.draws tabOk rfl (by kernel_rfl) (by kernel_rfl) ?_); simp [-getElem?_pos, z0, z1, z2, z0]) | ((first | refine AWi.ret ?_ | refine AWi.skip ?_ | refine AWi.exit ?_); try simp only [thenP]) | (with_reducible refine BB.go ?_; simp only [blockP, thenP, reduceIte]) | (with_reducible refine And.intro (okLog_c (by simp [footOf, guardSlot, slotsOf, idsRead, looks, idsOf, idsOf1, idsWritten, colF]; kernel_rfl)) ?_))
    exact RI.ret rfl ⟨⟨by omega, h2⟩, .inr h1⟩
end Go.Proofs.Ytcmkkgdjhjpldaa.Eng

noncomputable section
namespace Go.Proofs.Ytcmkkgdjhjpldaa.Eng
open Go.RowKit
variable {P : Program} {T : Tab} {r : Option Nat} {ns : Nat}
def ExecS (P : Program) (r : Option Nat) (ns : Nat) (ops : Array Oper) : Nat → List Oper → St → (Nat → St → Prop) → Prop
  | n, [], s, Q => Q n s
  | n, o :: l, s, Q => guardS ops ns s o = some true ∧ ∃ G, StepI P r ns n s o G ∧ ∀ n' s', G n' s' → ExecS P r ns ops n' l s' Q
theorem execS_list {W0 : Fix} {R0 : Nat → Prop} {B : Nat} (hi : InAct r W0 R0 B) {ops : Array Oper} {Q : Exit → Act → World → Prop} : ∀ (l : List Oper) (n : Nat) {s : St} {E : Env} {a : Act} {w : World} {Q' : Nat → St → Prop}, ExecS P r ns ops n l s Q' →
    Sim W0 R0 ns (· < n) s E a w → (∀ n' s' E' a' w', Sim W0 R0 ns (· < n') s' E' a' w' → Q' n' s' → Q .normal a' w') → wpListIn (fen (rOf W0 r)) 0 P ops Q l a w
  | [], n, s, E, a, w, Q', h, hs, hQ => hQ n s E a w hs h
  | o :: l, n, s, E, a, w, Q', ⟨hg, G, h1, h2⟩, hs, hQ => by
    refine wpListIn_step fun K hK => ?_
    rw [guard_ok hs hg, if_pos rfl]
    exact h1 W0 R0 B E a w hi hs (guardS_dst hg) K Q fun n' s' E' a' w' hG hs' => hK _ _ (execS_list hi l n' (h2 n' s' hG) hs' hQ)
theorem AWi.regionS {id n : Nat} {s : St} {Q : Post} {l : List Oper} (h : ExecS P r ns l.toArray n l s (fun n' s' => Q .normal n' s')) : AWi P r ns (.region id l.toArray false) n s Q :=
  fun W0 _ _ _ _ _ hi hs => wpIn_region_lit (execS_list hi l n h hs fun n' s' E' _ _ h1 h2 => ⟨n', s', E', W0, Ext.refl _, hi, h1, h2⟩)
section
variable {ops : Array Oper} {o : Oper} {l : List Oper} {n : Nat} {s : St} {Q : Nat → St → Prop}
theorem ExecS.plain (hT : TabOk P T) {out : Out} (hg : guardS ops ns s o = some true) (hw : waits o.op = false) (hx : aop T s.mem n (opd ns s) o.op = some out) (h : ExecS P r ns ops (n + 1) l (putS s n o.dst out) Q) : ExecS P r ns ops n (o :: l) s Q :=
  ⟨hg, fun n' s' => n' = n + 1 ∧ s' = putS s n o.dst out, fun W0 R0 B E a w hi hs hd K Q' hK =>
    oper_in (noDefer_spec (aop_noDefer hx) List.mem_cons_self) (step_wp hT hs (nid := n) (by omega) (N := n) (fun _ h => h) hd ((step_plain hw).2 hx) fun E' a' w' hs' => hK _ _ E' a' w' ⟨rfl, rfl⟩ (hs'.weak fun i hi => by omega)), fun n' s' ⟨e1, e2⟩ => by rw [e1, e2]; exact h⟩
theorem ExecS.slice (hT : TabOk P T) {t e : TypeId} {x : Operand} {i ie : TI} {N id j : Nat} (ho : o.op = .slice t x none none none) (hg : guardS ops ns s o = some true) (hi : T t = some i) (hk : i.kind = .array N e) (hie : T e = some ie) (hN : 0 < N) (hx : opd ns s x = some (.ptr id 0 j))
    (h : ExecS P r ns ops n l ⟨setSlot s.slots o.dst (.sl id j N (some N)), s.mem⟩ Q) : ExecS P r ns ops n (o :: l) s Q :=
  ⟨hg, fun n' s' => n' = n ∧ s' = ⟨setSlot s.slots o.dst (.sl id j N (some N)), s.mem⟩, fun W0 R0 B E a w hin hs hd K Q' hK => by
    have hr := hs.opd hx
    have hc : sliceC T i (.ptr id 0 j) none none none = some (.sl id j N (some N)) := by
      have hN' : ¬ (N : Int) = 0 := by omega
      simp [sliceC, hk, hie, hN']
    obtain ⟨z, h1, h2⟩ := sliceC_run (w := w) hT hi Bd.none Bd.none Bd.none hc hr
    refine oper_in (fun c e => by rw [ho] at e; cases e) ?_
    unfold Oper.wp
    have he : (execOp a.eval o).run P w = .ok (.value z) w := by
      simp only [execOp, ho, Sem.run_bind]
      simp [h1]
    rw [he]
    exact hK n _ E _ w ⟨rfl, rfl⟩ (hs.put hd h2), fun n' s' ⟨e1, e2⟩ => by rw [e1, e2]; exact h⟩
theorem ExecS.clear (hT : TabOk P T) {t e ty : TypeId} {x : Operand} {c : Call} {i ie : TI} {N id j cp : Nat} {cells : List SV} (ho : o.op = .call c) (hc1 : c.callee = .builtin .clear) (hc2 : c.args.toList = [x]) (hc3 : c.argTypes.toList = [t]) (hg : guardS ops ns s o = some true) (hi : T t = some i) (hk : i.kind = .slice e) (hie : T e = some ie) (hN : 0 < N) (hx : opd ns s x = some (.sl id j N (some cp))) (hm : s.mem id = some (.box ty cells false)) (hle : j + N * ie.size ≤ cells.length)
    (h : ExecS P r ns ops n l ⟨setSlot s.slots o.dst (.tup []), setMem s.mem id (some (.box ty (splice cells j (zerosC ie (N * ie.size))) false))⟩ Q) : ExecS P r ns ops n (o :: l) s Q :=
  ⟨hg, fun n' s' => n' = n ∧ s' = ⟨setSlot s.slots o.dst (.tup []), setMem s.mem id (some (.box ty (splice cells j (zerosC ie (N * ie.size))) false))⟩, fun W0 R0 B E a w hin hs hd K Q' hK => by
    rw [call_eq hc1 hc2 hc3] at ho
    have hr := hs.opd hx
    have hu := slice_und (hT t i hi) hk
    obtain ⟨inf, z0, i1, i4, i2, i3, hzs, hz⟩ := zeros_reps (E := E) (w := w) hT hie
    obtain ⟨u, hu'⟩ : ∃ u, a.eval x = u := ⟨_, rfl⟩
    rw [hu'] at hr
    cases hr with
    | sl _ _ _ _ q0 cd hdm hcd hq hnd =>
    obtain rfl := (hq (.inl hN)).symm
    have hro : ¬ E.ro (E.home id).blk := fun k => by have := (hs.frz id _ hm).2 k; cases this
    cases hs.mem id _ hm with
    | box _ _ _ cur h1 h2 h3 h4 =>
    have hR := hz (N * ie.size)
    have hlen : (madeCells z0.cells (N * ie.size)).toList.length = N * ie.size := by simp [size_madeCells]
    have hst := run_storeCells_at P (E.home id).blk j ty (madeCells z0.cells (N * ie.size)).toList 0 cur w h1 (by rw [hlen]; omega) hR.ones
    simp only [Nat.add_zero] at hst
    have hzv : (zeroValue e).run P w = .ok z0 w := by simp [zeroValue, typeInfo, i1, i4]
    have hzc : Builtin.zeroCells z0.cells N = madeCells z0.cells (N * ie.size) := by unfold Builtin.zeroCells madeCells; rw [hzs]
    obtain ⟨q, rfl⟩ : ∃ q, N = q + 1 := ⟨N - 1, by omega⟩
    have hrun : (Builtin.clear_ #[t] o.type #[.slice (some ⟨(E.home id).blk, j, none⟩) (q + 1) cd]).run P w = .ok (.tuple #[]) (w.setRow (E.home id).blk (cur.toList.take j ++ (madeCells z0.cells ((q + 1) * ie.size)).toList ++ cur.toList.drop (j + (madeCells z0.cells ((q + 1) * ie.size)).toList.length)).toArray) := by
      simp [Builtin.clear_, run_underlying hu, hzv, hzc]
      simp at hst
      rw [hst]
      simp
    have he : (execOp a.eval o).run P w = .ok (.value (.tuple #[])) (w.setRow (E.home id).blk (cur.toList.take j ++ (madeCells z0.cells ((q + 1) * ie.size)).toList ++ cur.toList.drop (j + (madeCells z0.cells ((q + 1) * ie.size)).toList.length)).toArray) := by
      simp only [execOp, ho, resolve, invoke, builtin, Sem.run_bind, Sem.run_pure, Result.andThen_ok, List.map_toArray, List.map_cons, List.map_nil, hu', hrun]
    have hw : ∀ b, E.ro b → (w.setRow (E.home id).blk (cur.toList.take j ++ (madeCells z0.cells ((q + 1) * ie.size)).toList ++ cur.toList.drop (j + (madeCells z0.cells ((q + 1) * ie.size)).toList.length)).toArray).heap[b]? = w.heap[b]? := fun b hb => setRow_other _ _ _ _ (fun e => hro (e ▸ hb))
    have hC : Reps E w cells cur.toList := ⟨by simpa using h2, h3, fun i c v hc hv => h4 i c v hc (by simpa using hv)⟩
    have hS := (hC.keep (Env.le.refl E) hw).splice (hR.keep (Env.le.refl E) hw) j (by rw [zerosC_len]; exact hle) (cur.toList.take j ++ (madeCells z0.cells ((q + 1) * ie.size)).toList ++ cur.toList.drop (j + (madeCells z0.cells ((q + 1) * ie.size)).toList.length)).toArray (by simp [size_madeCells]; omega) fun k => by
      rw [splice_at cur _ j (by rw [hlen]; omega)]
      by_cases q1 : j ≤ k ∧ k < j + (madeCells z0.cells ((q + 1) * ie.size)).toList.length
      · rw [if_pos q1, if_pos ⟨q1.1, q1.2, by rw [hlen] at q1; simp; omega⟩]
      · rw [if_neg q1, if_neg (fun q' => q1 ⟨q'.1, q'.2.1⟩)]; simp
    have h6 : Sim W0 R0 ns (· < n) ⟨s.slots, setMem s.mem id (some (.box ty (splice cells j (zerosC ie ((q + 1) * ie.size))) false))⟩ E a (w.setRow (E.home id).blk (cur.toList.take j ++ (madeCells z0.cells ((q + 1) * ie.size)).toList ++ cur.toList.drop (j + (madeCells z0.cells ((q + 1) * ie.size)).toList.length)).toArray) :=
      hs.write hm rfl rfl (grown_setRow _ _ _) (.box ty _ _ _ (setRow_heap _ _ _ _ _ _ h1) (by simpa using hS.1) hS.2.1 fun i c v hc hv => hS.2.2 i c v hc (by simpa using hv))
    refine oper_in (fun c e => by rw [ho] at e; cases e) ?_
    unfold Oper.wp
    rw [he]
    exact hK n _ E _ _ ⟨rfl, rfl⟩ (h6.put hd (.tup [] #[] rfl (by simp))), fun n' s' ⟨e1, e2⟩ => by rw [e1, e2]; exact h⟩
end
end Go.Proofs.Ytcmkkgdjhjpldaa.Eng

namespace Go.Proofs.Ytcmkkgdjhjpldaa.Eng
open Go.RowKit
set_option maxRecDepth 100000 in
set_option maxHeartbeats 4000000 in
theorem depths_w (l : List HS) (b : Nat) (q : Nat → Int) (n : Nat) (m : Mem) : CWp Try.prog 88 [.agg [.d (boxD l)], .d (iD b), .agg (rowS q)] n m fun y n' m' => n + 1 + 1 + 1 ≤ n' ∧ y = .fn 91 [] [.ptr n 0 0, .ptr (n + 1) 0 0, .ptr (n + 1 + 1) 0 0] ∧
    m' = setMem (setMem (setMem m n (some (.box 65 [.d (boxD l)] false))) (n + 1) (some (.box 3 [.d (iD b)] false))) (n + 1 + 1) (some (.box 83 (rowS q) false)) := by
  refine cwpK tabOk Try.func88 rfl rfl (show 3 ≤ _ by decide) rfl fun _ => ?_; simp only [Try.ntmps88]
  repeat (first | (with_reducible first | refine AWi.seqK fun _ => ?_ | refine AWi.blockK fun _ => ?_ | refine KI.go ?_) | ((first | refine AWi.region tabOk ?_ | refine AWi.condK fun _ _ => ?_ | refine AWi.draws tabOk rfl (by kernel_rfl) (by kernel_rfl) ?_); simp [-getElem?_pos, z0, z1, z2, z0]) | ((first | refine AWi.ret ?_ | refine AWi.skip ?_ | refine AWi.exit ?_); try simp only [thenP]) | (with_reducible refine BB.go ?_; simp only [blockP, thenP, reduceIte]) | (with_reducible refine And.intro (okLog_c (by simp [footOf, guardSlot, slotsOf, idsRead, looks, idsOf, idsOf1, idsWritten, colF]; kernel_rfl)) ?_))
  exact RI.ret rfl ⟨by omega, rfl, rfl⟩
def grStep (st : Int × Bool) (x : Int) : Int × Bool := if st.2 = false ∨ st.1 < x then (x, true) else st
def grN (xs : List Int) : Int × Bool := xs.foldl grStep (0, false)
theorem grN_succ {xs : List Int} {i : Nat} {b : Int} (h : xs[i]? = some b) : grN (xs.take (i + 1)) = grStep (grN (xs.take i)) b := by
  obtain ⟨hi, rfl⟩ := List.getElem?_eq_some_iff.1 h
  unfold grN
  rw [List.take_succ_eq_append_getElem hi, List.foldl_append]
  rfl
set_option maxRecDepth 100000 in
set_option maxHeartbeats 4000000 in
theorem greatest_w {f : FuncId} {us vs : List SV} {args : SV → List SV} {bs : List Int} {K : Mem → Prop} (hit : Iterates Try.prog f args (bs.map fun x => [.d (iD x)]) K) (ha : ∀ Y, args Y = us ++ [Y] ++ vs) (n : Nat) (m : Mem) (hK : K m) (hKb : Below' n K) :
    CWp Try.prog 87 [.fn f us vs] n m fun y n' m' => n ≤ n' ∧ (∀ j, j < n → m' j = m j) ∧ y = .tup [.d (iD (grN bs).1), .d (bD (grN bs).2)] := by
  refine cwpK tabOk Try.func87 rfl rfl (show 1 ≤ _ by decide) rfl fun _ => ?_; simp only [Try.ntmps87]
  repeat (first | (with_reducible first | refine AWi.seqK fun _ => ?_ | refine AWi.blockK fun _ => ?_ | refine KI.go ?_) | ((first | refine AWi.region tabOk ?_ | refine AWi.condK fun _ _ => ?_ | refine AWi.draws tabOk rfl (by kernel_rfl) (by kernel_rfl) ?_); simp [-getElem?_pos, z0, z1, z2, z0]) | ((first | refine AWi.ret ?_ | refine AWi.skip ?_ | refine AWi.exit ?_); try simp only [thenP]) | (with_reducible refine BB.go ?_; simp only [blockP, thenP, reduceIte]) | (with_reducible refine And.intro (okLog_c (by simp [footOf, guardSlot, slotsOf, idsRead, looks, idsOf, idsOf1, idsWritten, colF]; kernel_rfl)) ?_))
  refine AWi.iterK hit rfl ha (fun _ h => by cases h) rfl (by intro z hz; obtain ⟨x, _, rfl⟩ := List.mem_map.1 hz; rfl)
    (fun i mm => (∀ j, j < n → mm j = m j) ∧ mm (n + 1 + 1) = some (.box 3 [.d (iD (grN (bs.take i)).1)] false) ∧ mm (n + 1 + 1 + 1) = some (.box 4 [.d (bD (grN (bs.take i)).2)] false))
    (fun _ _ => False) ?_ ?_ ?_ ?_ ?_ ?_ ?_
  · rintro i mm mm' h ⟨h1, h2, h3⟩
    exact ⟨fun j hj => (h j (by omega)).trans (h1 j hj), (h _ (by omega)).trans h2, (h _ (by omega)).trans h3⟩
  · exact fun _ _ _ _ h => h
  · exact fun i mm h => hKb _ _ h.1 hK
  · refine ⟨fun j hj => ?_, ?_, ?_⟩
    · simp [show ¬ j = n + 1 + 1 by omega, show ¬ j = n + 1 + 1 + 1 by omega]
    · simp [show ¬ n + 1 + 1 = n + 1 + 1 + 1 by omega, grN, iD]
    · simp [grN, bD]
  · rintro i n2 m2 z hz hn2 ⟨h1, h3, h4⟩ kk
    rw [List.getElem?_map, Option.map_eq_some_iff] at hz
    obtain ⟨b, hb, rfl⟩ := hz
    have hs := grN_succ hb
    generalize grN (bs.take i) = st at h3 h4 hs
    obtain ⟨lb, lf⟩ := st
    repeat (first | (with_reducible first | refine AWi.seqK fun _ => ?_ | refine AWi.blockK fun _ => ?_ | refine KI.go ?_) | ((first | refine AWi.region tabOk ?_ | refine AWi.condK fun _ _ => ?_ | refine AWi.draws tabOk rfl (by kernel_rfl) (by kernel_rfl) ?_); simp [-getElem?_pos, z0, z1, z2, putAll]) | ((first | refine AWi.ret ?_ | refine AWi.skip ?_ | refine AWi.exit ?_); try simp only [thenP]) | (with_reducible refine BB.go ?_; simp only [blockP, thenP, reduceIte]) | (with_reducible refine And.intro (okLog_c (by simp [footOf, guardSlot, slotsOf, idsRead, looks, idsOf, idsOf1, idsWritten, colF]; kernel_rfl)) ?_))
    refine RB.go (by omega) (fun _ _ => rfl) fun rc hrc q => ?_
    have e0 : ¬ n + 1 + 1 = n + 1 + 1 + 1 + 1 + 1 + 1 := by omega
    have e1 : ¬ n + 1 + 1 + 1 = n + 1 + 1 + 1 + 1 + 1 + 1 := by omega
    have e2 : ¬ n + 1 + 1 = n + 1 + 1 + 1 := by omega
    have kj : ∀ j, j < n → (setMem m2 (n + 1 + 1 + 1 + 1 + 1 + 1) rc) j = m2 j := fun j hj => if_neg (by omega)
    cases lf with
    | false =>
      repeat (first | (with_reducible first | refine AWi.seqK fun _ => ?_ | refine AWi.blockK fun _ => ?_ | refine KI.go ?_) | ((first | refine AWi.region tabOk ?_ | refine AWi.condK fun _ _ => ?_ | refine AWi.draws tabOk rfl (by kernel_rfl) (by kernel_rfl) ?_); simp [-getElem?_pos, z0, z1, z2, h3, h4, e0, e1]) | ((first | refine AWi.ret ?_ | refine AWi.skip ?_ | refine AWi.exit ?_); try simp only [thenP]) | (with_reducible refine BB.go ?_; simp only [blockP, thenP, reduceIte]) | (with_reducible refine And.intro (okLog_c (by simp [footOf, guardSlot, slotsOf, idsRead, looks, idsOf, idsOf1, idsWritten, colF]; kernel_rfl)) ?_))
      refine RE.normal (by omega) ?_ ?_
      · intro j j1 j2
        simp [show ¬ j = n + 1 + 1 by omega, show ¬ j = n + 1 + 1 + 1 by omega]
      · rw [hs, show grStep (lb, false) b = (b, true) by simp [grStep]]
        refine ⟨fun j hj => ?_, ?_, ?_⟩
        · simp [show ¬ j = n + 1 + 1 by omega, show ¬ j = n + 1 + 1 + 1 by omega, show ¬ j = n + 1 + 1 + 1 + 1 + 1 + 1 by omega]
          exact h1 j hj
        · simp [e2, iD]
        · simp [bD]
    | true =>
      by_cases hlt : lb < b
      · repeat (first | (with_reducible first | refine AWi.seqK fun _ => ?_ | refine AWi.blockK fun _ => ?_ | refine KI.go ?_) | ((first | refine AWi.region tabOk ?_ | refine AWi.condK fun _ _ => ?_ | refine AWi.draws tabOk rfl (by kernel_rfl) (by kernel_rfl) ?_); simp [-getElem?_pos, z0, z1, z2, h3, h4, e0, e1, hlt]) | ((first | refine AWi.ret ?_ | refine AWi.skip ?_ | refine AWi.exit ?_); try simp only [thenP]) | (with_reducible refine BB.go ?_; simp only [blockP, thenP, reduceIte]) | (with_reducible refine And.intro (okLog_c (by simp [footOf, guardSlot, slotsOf, idsRead, looks, idsOf, idsOf1, idsWritten, colF]; kernel_rfl)) ?_))
        refine RE.normal (by omega) ?_ ?_
        · intro j j1 j2
          simp [show ¬ j = n + 1 + 1 by omega, show ¬ j = n + 1 + 1 + 1 by omega]
        · rw [hs, show grStep (lb, true) b = (b, true) by simp [grStep, hlt]]
          refine ⟨fun j hj => ?_, ?_, ?_⟩
          · simp [show ¬ j = n + 1 + 1 by omega, show ¬ j = n + 1 + 1 + 1 by omega, show ¬ j = n + 1 + 1 + 1 + 1 + 1 + 1 by omega]
            exact h1 j hj
          · simp [e2, iD]
          · simp [bD]
      · repeat (first | (with_reducible first | refine AWi.seqK fun _ => ?_ | refine AWi.blockK fun _ => ?_ | refine KI.go ?_) | ((first | refine AWi.region tabOk ?_ | refine AWi.condK fun _ _ => ?_ | refine AWi.draws tabOk rfl (by kernel_rfl) (by kernel_rfl) ?_); simp [-getElem?_pos, z0, z1, z2, h3, h4, e0, e1, hlt]) | ((first | refine AWi.ret ?_ | refine AWi.skip ?_ | refine AWi.exit ?_); try simp only [thenP]) | (with_reducible refine BB.go ?_; simp only [blockP, thenP, reduceIte]) | (with_reducible refine And.intro (okLog_c (by simp [footOf, guardSlot, slotsOf, idsRead, looks, idsOf, idsOf1, idsWritten, colF]; kernel_rfl)) ?_))
        refine RE.normal (by omega) (fun _ _ _ => rfl) ?_
        rw [hs, show grStep (lb, true) b = (lb, true) by simp [grStep, hlt]]
        exact ⟨fun j hj => (kj j hj).trans (h1 j hj), by simp [e0, h3], by simp [e1, h4]⟩
  · rintro n' m' hn' ⟨h1, h3, h4⟩
    simp only [thenP]
    rw [List.length_map, List.take_length] at h3 h4
    repeat (first | (with_reducible first | refine AWi.seqK fun _ => ?_ | refine AWi.blockK fun _ => ?_ | refine KI.go ?_) | ((first | refine AWi.region tabOk ?_ | refine AWi.condK fun _ _ => ?_ | refine AWi.draws tabOk rfl (by kernel_rfl) (by kernel_rfl) ?_); simp [-getElem?_pos, z0, z1, z2, h3, h4]) | ((first | refine AWi.ret ?_ | refine AWi.skip ?_ | refine AWi.exit ?_); try simp only [thenP]) | (with_reducible refine BB.go ?_; simp only [blockP, thenP, reduceIte]) | (with_reducible refine And.intro (okLog_c (by simp [footOf, guardSlot, slotsOf, idsRead, looks, idsOf, idsOf1, idsWritten, colF]; kernel_rfl)) ?_))
    exact RI.ret rfl ⟨by omega, h1, rfl⟩
  · exact fun _ _ _ _ h => h.elim
def leadR (l : List HS) (q : Nat → Int) (b : Nat) : Int := (grN (depX l b q)).1
theorem grN_no {xs : List Int} (h : (grN xs).2 = false) : (grN xs).1 = 0 := by
  have key : ∀ (xs : List Int) (st : Int × Bool), (st.2 = false → st.1 = 0) → (xs.foldl grStep st).2 = false → (xs.foldl grStep st).1 = 0 := by
    intro xs
    induction xs with
    | nil => intro st h1 h2; exact h1 h2
    | cons x xs ih =>
      intro st h1 h2
      refine ih _ ?_ h2
      unfold grStep
      split
      · intro h; cases h
      · exact h1
  exact key xs _ (fun _ => rfl) h
set_option maxRecDepth 100000 in
set_option maxHeartbeats 8000000 in
theorem lead_w (l : List HS) (hl : l.all okS = true) (hn6 : l.length ≤ 6) (q f : Nat → Int) (hq : rowOk q) (kr n : Nat) (m : Mem) (hkr : kr < n) (hm : m kr = some (.box 83 (rowS f) false)) :
    CWp Try.prog 80 [.agg [.d (boxD l)], .ptr kr 0 0, .agg (rowS q)] n m fun _ n' m' => n ≤ n' ∧ (∀ j, j < n → j ≠ kr → m' j = m j) ∧ m' kr = some (.box 83 (rowS (leadR l q)) false) := by
  have e1 : ¬ kr = n := by omega
  have e2 : ¬ kr = n + 1 := by omega
  have hz : splice (rowS f) 0 (zerosC { size := 1, bytes := 8, zero := [.int .i64 0], kind := .int .i64 } (7 * 1)) = rowS fun _ => 0 := by rfl
  refine cwpK tabOk Try.func80 rfl rfl (show 3 ≤ _ by decide) rfl fun _ => ?_; simp only [Try.ntmps80]
  refine AWi.seqK fun _ => ?_
  refine AWi.region tabOk ?_
  simp [-getElem?_pos, z0, z1, z2]
  refine KI.go ?_
  refine AWi.seqK fun _ => ?_
  refine AWi.regionS ?_
  refine ExecS.plain tabOk (out := { res := .ptr kr 0 0 }) rfl rfl (by simp [-getElem?_pos, z0, z1, z2]) ?_
  refine ExecS.plain tabOk (out := { res := .ptr kr 0 0 }) rfl rfl (by simp [-getElem?_pos, z0, z1, z2, e1, e2, hm]) ?_
  refine ExecS.slice tabOk (N := 7) (id := kr) (j := 0) rfl rfl (TB83) rfl (TB3) (by decide) (by simp [-getElem?_pos, z0, z1, z2]) ?_
  refine ExecS.clear tabOk (ty := 83) (N := 7) (id := kr) (j := 0) (cp := 7) (cells := rowS f) rfl rfl rfl rfl rfl (TB25) rfl (TB3) (by decide) (by simp [-getElem?_pos, z0, z1, z2]) (by simp [putS, e1, e2, hm]) (by simp) ?_
  rw [show splice _ _ _ = _ from hz]
  simp [putS, ExecS]
  with_reducible refine KI.go ?_
  repeat (first | (with_reducible first | refine AWi.seqK fun _ => ?_ | refine AWi.blockK fun _ => ?_ | refine KI.go ?_) | ((first | refine AWi.region tabOk ?_ | refine AWi.condK fun _ _ => ?_ | refine AWi.draws tabOk rfl (by kernel_rfl) (by kernel_rfl) ?_); simp [-getElem?_pos, z0, z1, z2, z0]) | ((first | refine AWi.ret ?_ | refine AWi.skip ?_ | refine AWi.exit ?_); try simp only [thenP]) | (with_reducible refine BB.go ?_; simp only [blockP, thenP, reduceIte]) | (with_reducible refine And.intro (okLog_c (by simp [footOf, guardSlot, slotsOf, idsRead, looks, idsOf, idsOf1, idsWritten, colF]; kernel_rfl)) ?_))
  refine AWi.loopK (fun (k : { k : Nat // k ≤ 7 }) n1 s => n + 1 + 1 ≤ n1 ∧ s.slots 1 = .ptr kr 0 0 ∧ s.slots 3 = .ptr n 0 0 ∧ s.slots 5 = .ptr (n + 1) 0 0 ∧ s.slots 12 = .d (iD k.1) ∧ s.mem n = some (.box 65 [.d (boxD l)] false) ∧ s.mem (n + 1) = some (.box 83 (rowS q) false) ∧ s.mem kr = some (.box 83 (rowS fun i => if i < k.1 then leadR l q i else 0) false) ∧ ∀ j, j < n → j ≠ kr → s.mem j = m j) (fun k => 7 - k.1) ⟨0, Nat.zero_le _⟩ ?_ ?_
  · exact ⟨by omega, by simp, by simp, by simp, by simp, by simp [show ¬ n = kr by omega], by simp [show ¬ n + 1 = kr by omega], by simp, fun j h1 h2 => by simp [h2, show ¬ j = n by omega, show ¬ j = n + 1 by omega]⟩
  · rintro ⟨k, hk⟩ n1 s ⟨r0, r1, r3, r5, r12, hmb, hmi, hmr, hrest⟩ kk
    simp only at r12 hmr
    have w1 : IntKind.i64.wrap ((k : Int) + 1) = (k : Int) + 1 := wrap64_in (by omega)
    by_cases hlt : k < 7
    · have hk7 : (k : Int) < 7 := by omega
      repeat (first | (with_reducible first | refine AWi.seqK fun _ => ?_ | refine AWi.blockK fun _ => ?_ | refine KI.go ?_) | ((first | refine AWi.region tabOk ?_ | refine AWi.condK fun _ _ => ?_ | refine AWi.draws tabOk rfl (by kernel_rfl) (by kernel_rfl) ?_); simp [-getElem?_pos, z0, z1, z2, r1, r3, r5, r12, hk7, hmb, hmi]) | ((first | refine AWi.ret ?_ | refine AWi.skip ?_ | refine AWi.exit ?_); try simp only [thenP]) | (with_reducible refine BB.go ?_; simp only [blockP, thenP, reduceIte]) | (with_reducible refine And.intro (okLog_c (by simp [footOf, guardSlot, slotsOf, idsRead, looks, idsOf, idsOf1, idsWritten, colF]; kernel_rfl)) ?_))
      refine ExecI.callC (depths_w l k q _ _) rfl (by simp [calleeS, evList]) ?_
      rintro y n2 mm ⟨hn2, rfl, rfl⟩
      have o1 : ¬ n1 + 1 + 1 + 1 + 1 + 1 + 1 = n1 + 1 + 1 + 1 + 1 + 1 + 1 + 1 := by omega
      have o2 : ¬ n1 + 1 + 1 + 1 + 1 + 1 + 1 = n1 + 1 + 1 + 1 + 1 + 1 + 1 + 1 + 1 := by omega
      have o3 : ¬ n1 + 1 + 1 + 1 + 1 + 1 + 1 + 1 = n1 + 1 + 1 + 1 + 1 + 1 + 1 + 1 + 1 := by omega
      simp
      refine ExecI.callC (greatest_w (us := []) (vs := [.ptr (n1 + 1 + 1 + 1 + 1 + 1 + 1) 0 0, .ptr (n1 + 1 + 1 + 1 + 1 + 1 + 1 + 1) 0 0, .ptr (n1 + 1 + 1 + 1 + 1 + 1 + 1 + 1 + 1) 0 0]) (depths1_w l hl hn6 k hlt q hq (n1 + 1 + 1 + 1 + 1 + 1 + 1) (n1 + 1 + 1 + 1 + 1 + 1 + 1 + 1) (n1 + 1 + 1 + 1 + 1 + 1 + 1 + 1 + 1)) (fun _ => rfl) _ _ ⟨⟨false, by simp [o1, o2]⟩, ⟨false, by simp [o3]⟩, ⟨false, by simp⟩⟩ (fun a b h ⟨⟨u1, h1⟩, ⟨u2, h2⟩, ⟨u3, h3⟩⟩ => ⟨⟨_, (h _ (by omega)).trans h1⟩, ⟨_, (h _ (by omega)).trans h2⟩, ⟨_, (h _ (by omega)).trans h3⟩⟩)) rfl (by simp [calleeS, evList]) ?_
      rintro y n3 m3 ⟨hn3, hm3, rfl⟩
      have hg0 : (grN (depX l k q)).2 = false → (grN (depX l k q)).1 = 0 := grN_no
      have hlr : leadR l q k = (grN (depX l k q)).1 := rfl
      generalize grN (depX l k q) = g at *
      obtain ⟨gv, gb⟩ := g
      have hk3 : ∀ j, j < n1 → m3 j = s.mem j := fun j hj => (hm3 j (by omega)).trans (by simp [show ¬ j = n1 + 1 + 1 + 1 + 1 + 1 + 1 by omega, show ¬ j = n1 + 1 + 1 + 1 + 1 + 1 + 1 + 1 by omega, show ¬ j = n1 + 1 + 1 + 1 + 1 + 1 + 1 + 1 + 1 by omega])
      have g3 := (hk3 kr (by omega)).trans hmr
      have c2 : k + 1 ≤ 7 := hlt
      cases gb with
      | true =>
        have hput := row_put (f := fun i => if i < k then leadR l q i else 0) (f' := fun i => if i < k + 1 then leadR l q i else 0) hlt (v := gv) fun i hi => by
          by_cases h1 : i = k
          · subst h1; simp [hlr]
          · by_cases h2 : i < k
            · rw [if_pos (by omega), if_neg h1, if_pos h2]
            · rw [if_neg (by omega), if_neg h1, if_neg h2]
        simp [-getElem?_pos, z0, z1, z2]
        repeat (first | (with_reducible first | refine AWi.seqK fun _ => ?_ | refine AWi.blockK fun _ => ?_ | refine KI.go ?_) | ((first | refine AWi.region tabOk ?_ | refine AWi.condK fun _ _ => ?_ | refine AWi.draws tabOk rfl (by kernel_rfl) (by kernel_rfl) ?_); simp [-getElem?_pos, z0, z1, z2, r1, r12, g3, hk7, c2, w1]) | ((first | refine AWi.ret ?_ | refine AWi.skip ?_ | refine AWi.exit ?_); try simp only [thenP]) | (with_reducible refine BB.go ?_; simp only [blockP, thenP, reduceIte]) | (with_reducible refine And.intro (okLog_c (by simp [footOf, guardSlot, slotsOf, idsRead, looks, idsOf, idsOf1, idsWritten, colF]; kernel_rfl)) ?_))
        refine LI.go ⟨k + 1, hlt⟩ ⟨by omega, by simp [r1], by simp [r3], by simp [r5], by simp [iD], ?_, ?_, ?_, fun j h1 h2 => ?_⟩ (by simp; omega)
        · simp [show ¬ n = kr by omega]
          exact (hk3 _ (by omega)).trans hmb
        · simp [show ¬ n + 1 = kr by omega]
          exact (hk3 _ (by omega)).trans hmi
        · simp
          exact hput
        · simp [h2]
          exact (hk3 j (by omega)).trans (hrest j h1 h2)
      | false =>
        simp [-getElem?_pos, z0, z1, z2]
        repeat (first | (with_reducible first | refine AWi.seqK fun _ => ?_ | refine AWi.blockK fun _ => ?_ | refine KI.go ?_) | ((first | refine AWi.region tabOk ?_ | refine AWi.condK fun _ _ => ?_ | refine AWi.draws tabOk rfl (by kernel_rfl) (by kernel_rfl) ?_); simp [-getElem?_pos, z0, z1, z2, r1, r12, w1]) | ((first | refine AWi.ret ?_ | refine AWi.skip ?_ | refine AWi.exit ?_); try simp only [thenP]) | (with_reducible refine BB.go ?_; simp only [blockP, thenP, reduceIte]) | (with_reducible refine And.intro (okLog_c (by simp [footOf, guardSlot, slotsOf, idsRead, looks, idsOf, idsOf1, idsWritten, colF]; kernel_rfl)) ?_))
        refine LI.go ⟨k + 1, hlt⟩ ⟨by omega, by simp [r1], by simp [r3], by simp [r5], by simp [iD], (hk3 _ (by omega)).trans hmb, (hk3 _ (by omega)).trans hmi, g3.trans ?_, fun j h1 h2 => (hk3 j (by omega)).trans (hrest j h1 h2)⟩ (by simp; omega)
        refine congrArg (fun c => some (Blk.box 83 c false)) (congrArg (List.map (SV.d ∘ iD)) (tab_ext fun i hi => ?_))
        show (if i < k then leadR l q i else 0) = if i < k + 1 then leadR l q i else 0
        by_cases h1 : i = k
        · subst h1; rw [if_neg (Nat.lt_irrefl _), if_pos (Nat.lt_succ_self _), hlr, hg0 rfl]
        · by_cases h2 : i < k
          · rw [if_pos h2, if_pos (by omega)]
          · rw [if_neg h2, if_neg (by omega)]
    · obtain rfl : k = 7 := by omega
      repeat (first | (with_reducible first | refine AWi.seqK fun _ => ?_ | refine AWi.blockK fun _ => ?_ | refine KI.go ?_) | ((first | refine AWi.region tabOk ?_ | refine AWi.condK fun _ _ => ?_ | refine AWi.draws tabOk rfl (by kernel_rfl) (by kernel_rfl) ?_); simp [-getElem?_pos, z0, z1, z2, r12]) | ((first | refine AWi.ret ?_ | refine AWi.skip ?_ | refine AWi.exit ?_); try simp only [thenP]) | (with_reducible refine BB.go ?_; simp only [blockP, thenP, reduceIte]) | (with_reducible refine And.intro (okLog_c (by simp [footOf, guardSlot, slotsOf, idsRead, looks, idsOf, idsOf1, idsWritten, colF]; kernel_rfl)) ?_))
      exact RI.normal rfl ⟨by omega, hrest, hmr.trans (congrArg (fun c => some (Blk.box 83 c false)) (congrArg (List.map (SV.d ∘ iD)) (tab_ext fun i hi => if_pos hi)))⟩
end Go.Proofs.Ytcmkkgdjhjpldaa.Eng

namespace Go.Proofs.Ytcmkkgdjhjpldaa.Eng
open Go.RowKit
def keenB (e g : HE) : Bool := decide (e.depth ≤ g.depth) && decide (e.burr ≤ g.burr)
abbrev reachF (k : Nat) : SV := .fn 81 [] [.ptr k 0 0]
def GoalAt (g : HE) (k : Nat) (m : Mem) : Prop := ∃ z, m k = some (.box 24 [.d (iD g.depth), .d (iD g.burr)] z)
set_option maxRecDepth 100000 in
set_option maxHeartbeats 4000000 in
theorem reached_w (g e : HE) (k n : Nat) (m : Mem) (hk : k < n) (hg : GoalAt g k m) : CWp Try.prog 81 [.agg [.d (iD e.depth), .d (iD e.burr)], .ptr k 0 0] n m fun y n' m' => n ≤ n' ∧ (∀ j, j < n → m' j = m j) ∧ y = .d (bD (keenB e g)) := by
  obtain ⟨zg, hg⟩ := hg
  have e1 : ¬ k = n := by omega
  unfold keenB
  by_cases h1 : e.depth ≤ g.depth
  · refine cwpK tabOk Try.func81 rfl rfl (show 2 ≤ _ by decide) rfl fun _ => ?_; simp only [Try.ntmps81]
    repeat (first | (with_reducible first | refine AWi.seqK fun _ => ?_ | refine AWi.blockK fun _ => ?_ | refine KI.go ?_) | ((first | refine AWi.region tabOk ?_ | refine AWi.condK fun _ _ => ?_ | refine AWi.draws tabOk rfl (by kernel_rfl) (by kernel_rfl) ?_); simp [-getElem?_pos, z0, z1, z2, hg, e1, h1]) | ((first | refine AWi.ret ?_ | refine AWi.skip ?_ | refine AWi.exit ?_); try simp only [thenP]) | (with_reducible refine BB.go ?_; simp only [blockP, thenP, reduceIte]) | (with_reducible refine And.intro (okLog_c (by simp [footOf, guardSlot, slotsOf, idsRead, looks, idsOf, idsOf1, idsWritten, colF]; kernel_rfl)) ?_))
    exact RI.ret rfl ⟨by omega, fun j hj => by simp [show ¬ j = n by omega], by simp [retV, h1, bD]⟩
  · refine cwpK tabOk Try.func81 rfl rfl (show 2 ≤ _ by decide) rfl fun _ => ?_; simp only [Try.ntmps81]
    repeat (first | (with_reducible first | refine AWi.seqK fun _ => ?_ | refine AWi.blockK fun _ => ?_ | refine KI.go ?_) | ((first | refine AWi.region tabOk ?_ | refine AWi.condK fun _ _ => ?_ | refine AWi.draws tabOk rfl (by kernel_rfl) (by kernel_rfl) ?_); simp [-getElem?_pos, z0, z1, z2, hg, e1, h1]) | ((first | refine AWi.ret ?_ | refine AWi.skip ?_ | refine AWi.exit ?_); try simp only [thenP]) | (with_reducible refine BB.go ?_; simp only [blockP, thenP, reduceIte]) | (with_reducible refine And.intro (okLog_c (by simp [footOf, guardSlot, slotsOf, idsRead, looks, idsOf, idsOf1, idsWritten, colF]; kernel_rfl)) ?_))
    exact RI.ret rfl ⟨by omega, fun j hj => by simp [show ¬ j = n by omega], by simp [retV, h1, bD]⟩
def firstR (g : HE) (b : Nat) : Int := if (b : Int) ≤ g.burr then g.depth + 1 else 0
set_option maxRecDepth 100000 in
set_option maxHeartbeats 8000000 in
theorem firstRow_w (g : HE) (gg : GoodE g) (k n : Nat) (m : Mem) (hk : k < n) (hg : GoalAt g k m) : CWp Try.prog 77 [reachF k] n m fun y n' m' => n ≤ n' ∧ (∀ j, j < n → m' j = m j) ∧ y = .agg (rowS (firstR g)) := by
  obtain ⟨gd0, gd1, gb0, gb1⟩ := gg
  refine cwpK tabOk Try.func77 rfl rfl (show 1 ≤ _ by decide) rfl fun _ => ?_; simp only [Try.ntmps77]
  repeat (first | (with_reducible first | refine AWi.seqK fun _ => ?_ | refine AWi.blockK fun _ => ?_ | refine KI.go ?_) | ((first | refine AWi.region tabOk ?_ | refine AWi.condK fun _ _ => ?_ | refine AWi.draws tabOk rfl (by kernel_rfl) (by kernel_rfl) ?_); simp [-getElem?_pos, z0, z1, z2, z0]) | ((first | refine AWi.ret ?_ | refine AWi.skip ?_ | refine AWi.exit ?_); try simp only [thenP]) | (with_reducible refine BB.go ?_; simp only [blockP, thenP, reduceIte]) | (with_reducible refine And.intro (okLog_c (by simp [footOf, guardSlot, slotsOf, idsRead, looks, idsOf, idsOf1, idsWritten, colF]; kernel_rfl)) ?_))
  refine AWi.loopK (fun (i : { i : Nat // i ≤ 7 }) n1 s => n + 1 + 1 ≤ n1 ∧ s.slots 0 = reachF k ∧ s.slots 2 = .ptr n 0 0 ∧ s.slots 3 = .ptr (n + 1) 0 0 ∧ s.slots 5 = .d (iD i.1) ∧ s.mem n = some (.box 83 (rowS fun _ => 0) false) ∧ s.mem (n + 1) = some (.box 83 (rowS fun b => if b < i.1 then firstR g b else 0) false) ∧ ∀ j, j < n → s.mem j = m j) (fun i => 7 - i.1) ⟨0, Nat.zero_le _⟩ ?_ ?_
  · exact ⟨by omega, by simp, by simp, by simp, by simp, by simp; rfl, by simp; rfl, fun j hj => by simp [show ¬ j = n by omega, show ¬ j = n + 1 by omega]⟩
  · rintro ⟨i, hi⟩ n1 s ⟨r0, r1, r2, r3, r5, hmn, hmr, hrest⟩ kk
    simp only at r5 hmr
    have w1 : IntKind.i64.wrap ((i : Int) + 1) = (i : Int) + 1 := wrap64_in (by omega)
    by_cases hlt : i < 7
    · have hi7 : (i : Int) < 7 := by omega
      have c2 : i + 1 ≤ 7 := hlt
      have hfr : 0 ≤ firstR g i ∧ firstR g i ≤ 101 := by unfold firstR; split <;> omega
      refine AWi.seqK fun _ => ?_
      repeat (first | (with_reducible first | refine AWi.seqK fun _ => ?_ | refine AWi.blockK fun _ => ?_ | refine KI.go ?_) | ((first | refine AWi.region tabOk ?_ | refine AWi.condK fun _ _ => ?_ | refine AWi.draws tabOk rfl (by kernel_rfl) (by kernel_rfl) ?_); simp [-getElem?_pos, z0, z1, z2, r1, r2, r3, r5, hi7]) | ((first | refine AWi.ret ?_ | refine AWi.skip ?_ | refine AWi.exit ?_); try simp only [thenP]) | (with_reducible refine BB.go ?_; simp only [blockP, thenP, reduceIte]) | (with_reducible refine And.intro (okLog_c (by simp [footOf, guardSlot, slotsOf, idsRead, looks, idsOf, idsOf1, idsWritten, colF]; kernel_rfl)) ?_))
      refine AWi.loopK (fun (v : { v : Nat // (v : Int) ≤ firstR g i }) n2 s => n + 1 + 1 ≤ n2 ∧ s.slots 0 = reachF k ∧ s.slots 2 = .ptr n 0 0 ∧ s.slots 3 = .ptr (n + 1) 0 0 ∧ s.slots 4 = .d (iD i) ∧ s.slots 5 = .d (iD i) ∧ s.mem n = some (.box 83 (rowS fun _ => 0) false) ∧ s.mem (n + 1) = some (.box 83 (rowS fun b => if b < i then firstR g b else if b = i then (v.1 : Int) else 0) false) ∧ ∀ j, j < n → s.mem j = m j) (fun v => (firstR g i).toNat - v.1) ⟨0, hfr.1⟩ ?_ ?_
      · refine ⟨by omega, by simp [r1], by simp [r2], by simp [r3], by simp, by simp [r5], by simpa using hmn, ?_, fun j hj => by simpa using hrest j hj⟩
        simp only
        refine hmr.trans (congrArg (fun c => some (Blk.box 83 c false)) (congrArg (List.map (SV.d ∘ iD)) (tab_ext fun b hb => ?_)))
        simp
      · rintro ⟨v, hv⟩ n2 s2 ⟨q0, q1, q2, q3, q4, q5, qn, qr, qrest⟩ kk2
        simp only at qr
        have hv101 : (v : Int) ≤ 101 := by omega
        have c1 := fun h : Int → SV => tab1 (g := h) (f := fun b => if b < i then firstR g b else if b = i then (v : Int) else 0) hlt
        simp only [Nat.lt_irrefl, if_false, if_true] at c1
        have w2 : IntKind.i64.wrap ((v : Int) + 1) = (v : Int) + 1 := wrap64_in (by omega)
        have hnext : (v : Int) = firstR g i → ∀ b : Nat, (if b < i then firstR g b else if b = i then (v : Int) else 0) = if b < i + 1 then firstR g b else 0 := fun h b => by
          by_cases h1 : b = i
          · subst h1; simp [h]
          · by_cases h2 : b < i
            · rw [if_pos h2, if_pos (by omega)]
            · rw [if_neg h2, if_neg h1, if_neg (by omega)]
        by_cases hv1 : (v : Int) ≤ 100
        · repeat (first | (with_reducible first | refine AWi.seqK fun _ => ?_ | refine AWi.blockK fun _ => ?_ | refine KI.go ?_) | ((first | refine AWi.region tabOk ?_ | refine AWi.condK fun _ _ => ?_ | refine AWi.draws tabOk rfl (by kernel_rfl) (by kernel_rfl) ?_); simp [-getElem?_pos, z0, z1, z2, q1, q3, q4, qr, c1, hi7, c2, hv1]) | ((first | refine AWi.ret ?_ | refine AWi.skip ?_ | refine AWi.exit ?_); try simp only [thenP]) | (with_reducible refine BB.go ?_; simp only [blockP, thenP, reduceIte]) | (with_reducible refine And.intro (okLog_c (by simp [footOf, guardSlot, slotsOf, idsRead, looks, idsOf, idsOf1, idsWritten, colF]; kernel_rfl)) ?_))
          refine ExecI.callC (reached_w g ⟨v, i⟩ k _ _ (by omega) (by obtain ⟨zg, hz⟩ := hg; exact ⟨zg, (qrest k hk).trans hz⟩)) (by simp [-getElem?_pos, z0, z1, z2, hv1]) (by simp [calleeS, evList]) ?_
          rintro y n3 m3 ⟨hn3, hm3, rfl⟩
          have k3 := fun j (hj : j < n2) => hm3 j (by omega)
          have p1 := (k3 (n + 1) (by omega)).trans qr
          by_cases hkeen : keenB ⟨v, i⟩ g = true
          · have hvf : (v : Int) + 1 ≤ firstR g i := by
              simp only [keenB, Bool.and_eq_true, decide_eq_true_eq] at hkeen
              unfold firstR
              rw [if_pos hkeen.2]
              omega
            have hput := row_put (f := fun b => if b < i then firstR g b else if b = i then (v : Int) else 0) (f' := fun b => if b < i then firstR g b else if b = i then ((v + 1 : Nat) : Int) else 0) hlt (v := (v : Int) + 1) fun b hb => by
              by_cases h1 : b = i
              · subst h1; simp
              · simp [h1]
            simp [-getElem?_pos, z0, z1, z2, hkeen]
            repeat (first | (with_reducible first | refine AWi.seqK fun _ => ?_ | refine AWi.blockK fun _ => ?_ | refine KI.go ?_) | ((first | refine AWi.region tabOk ?_ | refine AWi.condK fun _ _ => ?_ | refine AWi.draws tabOk rfl (by kernel_rfl) (by kernel_rfl) ?_); simp [-getElem?_pos, z0, z1, z2, q3, q4, p1, c1, hi7, c2, w2]) | ((first | refine AWi.ret ?_ | refine AWi.skip ?_ | refine AWi.exit ?_); try simp only [thenP]) | (with_reducible refine BB.go ?_; simp only [blockP, thenP, reduceIte]) | (with_reducible refine And.intro (okLog_c (by simp [footOf, guardSlot, slotsOf, idsRead, looks, idsOf, idsOf1, idsWritten, colF]; kernel_rfl)) ?_))
            refine LI.go ⟨v + 1, by omega⟩ ⟨by omega, by simp [q1], by simp [q2], by simp [q3], by simp [q4], by simp [q5], ?_, ?_, fun j hj => ?_⟩ (by simp; omega)
            · simp
              exact (k3 n (by omega)).trans qn
            · simp
              exact hput
            · simp [show ¬ j = n + 1 by omega]
              exact (k3 j (by omega)).trans (qrest j hj)
          · have hvf : (v : Int) = firstR g i := by
              simp only [keenB, Bool.and_eq_true, decide_eq_true_eq, not_and] at hkeen
              unfold firstR at hv ⊢
              split at hv
              · rename_i h; rw [if_pos h]; by_cases h2 : (v : Int) ≤ g.depth
                · exact absurd h (hkeen h2)
                · omega
              · rename_i h; rw [if_neg h]; omega
            simp [-getElem?_pos, z0, z1, z2, hkeen]
            repeat (first | (with_reducible first | refine AWi.seqK fun _ => ?_ | refine AWi.blockK fun _ => ?_ | refine KI.go ?_) | ((first | refine AWi.region tabOk ?_ | refine AWi.condK fun _ _ => ?_ | refine AWi.draws tabOk rfl (by kernel_rfl) (by kernel_rfl) ?_); simp [-getElem?_pos, z0, z1, z2, q5, w1]) | ((first | refine AWi.ret ?_ | refine AWi.skip ?_ | refine AWi.exit ?_); try simp only [thenP]) | (with_reducible refine BB.go ?_; simp only [blockP, thenP, reduceIte]) | (with_reducible refine And.intro (okLog_c (by simp [footOf, guardSlot, slotsOf, idsRead, looks, idsOf, idsOf1, idsWritten, colF]; kernel_rfl)) ?_))
            refine LI.go ⟨i + 1, hlt⟩ ⟨by omega, by simp [q1], by simp [q2], by simp [q3], by simp [iD], (k3 n (by omega)).trans qn, p1.trans (congrArg (fun c => some (Blk.box 83 c false)) (congrArg (List.map (SV.d ∘ iD)) (tab_ext fun b hb => ?_))), fun j hj => (k3 j (by omega)).trans (qrest j hj)⟩ (by simp; omega)
            exact hnext hvf b
        · have hvf : (v : Int) = firstR g i := by omega
          repeat (first | (with_reducible first | refine AWi.seqK fun _ => ?_ | refine AWi.blockK fun _ => ?_ | refine KI.go ?_) | ((first | refine AWi.region tabOk ?_ | refine AWi.condK fun _ _ => ?_ | refine AWi.draws tabOk rfl (by kernel_rfl) (by kernel_rfl) ?_); simp [-getElem?_pos, z0, z1, z2, q1, q3, q4, q5, qr, c1, hi7, c2, hv1, w1]) | ((first | refine AWi.ret ?_ | refine AWi.skip ?_ | refine AWi.exit ?_); try simp only [thenP]) | (with_reducible refine BB.go ?_; simp only [blockP, thenP, reduceIte]) | (with_reducible refine And.intro (okLog_c (by simp [footOf, guardSlot, slotsOf, idsRead, looks, idsOf, idsOf1, idsWritten, colF]; kernel_rfl)) ?_))
          refine LI.go ⟨i + 1, hlt⟩ ⟨by omega, by simp [q1], by simp [q2], by simp [q3], by simp [iD], qn, qr.trans (congrArg (fun c => some (Blk.box 83 c false)) (congrArg (List.map (SV.d ∘ iD)) (tab_ext fun b hb => ?_))), qrest⟩ (by simp; omega)
          exact hnext hvf b
    · obtain rfl : i = 7 := by omega
      have hend : (rowS fun b => if b < 7 then firstR g b else 0) = rowS (firstR g) := congrArg (List.map (SV.d ∘ iD)) (tab_ext fun b hb => if_pos hb)
      rw [hend] at hmr
      have hdr : ∀ l : List SV, l ++ List.drop 7 (rowS fun _ => 0) = l := fun l => by rw [show List.drop 7 (rowS fun _ => 0) = [] from rfl, List.append_nil]
      repeat (first | (with_reducible first | refine AWi.seqK fun _ => ?_ | refine AWi.blockK fun _ => ?_ | refine KI.go ?_) | ((first | refine AWi.region tabOk ?_ | refine AWi.condK fun _ _ => ?_ | refine AWi.draws tabOk rfl (by kernel_rfl) (by kernel_rfl) ?_); simp [-getElem?_pos, z0, z1, z2, r5, r2, r3, hmn, hmr, hdr]) | ((first | refine AWi.ret ?_ | refine AWi.skip ?_ | refine AWi.exit ?_); try simp only [thenP]) | (with_reducible refine BB.go ?_; simp only [blockP, thenP, reduceIte]) | (with_reducible refine And.intro (okLog_c (by simp [footOf, guardSlot, slotsOf, idsRead, looks, idsOf, idsOf1, idsWritten, colF]; kernel_rfl)) ?_))
      refine RI.ret (xs := [.agg (rowS (firstR g))]) (by simp [Try.results77, resSlots, resSlot, r2, hdr]) ?_
      exact ⟨by omega, fun j hj => by simp [show ¬ j = n by omega]; exact hrest j hj, rfl⟩
end Go.Proofs.Ytcmkkgdjhjpldaa.Eng

namespace Go.Proofs.Ytcmkkgdjhjpldaa.Eng
open Go.RowKit
theorem grN_bound {xs : List Int} (h : ∀ x ∈ xs, 0 ≤ x ∧ x ≤ 101) : 0 ≤ (grN xs).1 ∧ (grN xs).1 ≤ 101 := by
  have key : ∀ (xs : List Int) (st : Int × Bool), (∀ x ∈ xs, 0 ≤ x ∧ x ≤ 101) → (0 ≤ st.1 ∧ st.1 ≤ 101) → 0 ≤ (xs.foldl grStep st).1 ∧ (xs.foldl grStep st).1 ≤ 101 := by
    intro xs
    induction xs with
    | nil => intro st _ h; exact h
    | cons x xs ih =>
      intro st h1 h2
      refine ih _ (fun y hy => h1 y (List.mem_cons_of_mem _ hy)) ?_
      unfold grStep
      split
      · exact h1 x List.mem_cons_self
      · exact h2
  exact key xs _ h (by simp)
theorem leadR_ok {l : List HS} (hl : l.all okS = true) {q : Nat → Int} (hq : rowOk q) : rowOk (leadR l q) := fun b hb => by
  refine grN_bound fun x hx => ?_
  obtain ⟨⟨k, e⟩, hm, rfl⟩ := List.mem_map.1 hx
  obtain ⟨i, hi⟩ := List.getElem?_of_mem hm
  obtain ⟨s, hs, hX, rfl⟩ := strks_of hi
  have gs := goodS hl hs
  simp only [strX, Bool.and_eq_true] at hX
  have ge : GoodE ⟨0, b⟩ := ⟨by simp, by simp, by simp, by simp; omega⟩
  have gx := GoodE.str gs ge hX.1
  have h0 := hq (strE s ⟨0, b⟩).burr.toNat (by have := gx.b0; have := gx.b1; omega)
  have := gs.c0
  simp only [depN, List.getD_eq_getElem?_getD, hs, Option.getD_some]
  omega
def stepR (l : List HS) (r : Nat → Int) : Nat → Int := fun i => max (r i) (leadR l r i)
def itR (l : List HS) (r : Nat → Int) : Nat → Nat → Int
  | 0 => r
  | i + 1 => stepR l (itR l r i)
theorem itR_shift (l : List HS) (r : Nat → Int) : ∀ i, itR l (stepR l r) i = itR l r (i + 1)
  | 0 => rfl
  | i + 1 => by rw [itR, itR_shift l r i]; rfl
theorem itR_ok {l : List HS} (hl : l.all okS = true) {r : Nat → Int} (hr : rowOk r) : ∀ i, rowOk (itR l r i)
  | 0 => hr
  | i + 1 => fun b hb => by
    have h1 := itR_ok hl hr i b hb
    have h2 := leadR_ok hl (itR_ok hl hr i) b hb
    simp only [itR, stepR]
    omega
def pot (r : Nat → Int) : Int := r 0 + r 1 + r 2 + r 3 + r 4 + r 5 + r 6
theorem pot_ok {r : Nat → Int} (h : rowOk r) : 0 ≤ pot r ∧ pot r ≤ 707 := by
  have := h 0 (by omega); have := h 1 (by omega); have := h 2 (by omega); have := h 3 (by omega); have := h 4 (by omega); have := h 5 (by omega); have := h 6 (by omega)
  unfold pot
  omega
theorem tab_eq {f g : Nat → Int} : tab f = tab g ↔ ∀ i, i < 7 → f i = g i := by
  constructor
  · intro h i hi
    have := congrArg (fun l : List Int => l[i]?) h
    simpa only [tab_get _ hi, Option.some.injEq] using this
  · exact tab_ext
theorem pot_step {l : List HS} {r : Nat → Int} (h : tab (stepR l r) ≠ tab r) : pot r + 1 ≤ pot (stepR l r) := by
  have hm : ∀ i, r i ≤ stepR l r i := fun i => by simp only [stepR]; omega
  have hn : ¬ (stepR l r 0 = r 0 ∧ stepR l r 1 = r 1 ∧ stepR l r 2 = r 2 ∧ stepR l r 3 = r 3 ∧ stepR l r 4 = r 4 ∧ stepR l r 5 = r 5 ∧ stepR l r 6 = r 6) := fun ⟨a0, a1, a2, a3, a4, a5, a6⟩ => h (by rw [tab7, tab7, a0, a1, a2, a3, a4, a5, a6])
  have := hm 0; have := hm 1; have := hm 2; have := hm 3; have := hm 4; have := hm 5; have := hm 6
  unfold pot
  generalize stepR l r = s at *
  omega
def rowsFrom (l : List HS) : Nat → (Nat → Int) → List (Nat → Int)
  | 0, _ => []
  | k + 1, r => r :: if tab (stepR l r) = tab r then [] else rowsFrom l k (stepR l r)
def rowsW (l : List HS) (r : Nat → Int) : List (Nat → Int) := rowsFrom l 800 r
def Goes (l : List HS) (r : Nat → Int) (i : Nat) : Prop := ∀ j, j < i → tab (itR l r (j + 1)) ≠ tab (itR l r j)
theorem Goes.shift {l : List HS} {r : Nat → Int} {i : Nat} (h : Goes l r (i + 1)) : Goes l (stepR l r) i := fun j hj => by
  rw [itR_shift, itR_shift]
  exact h (j + 1) (by omega)
theorem rowsFrom_get {l : List HS} : ∀ {k i : Nat} {r : Nat → Int}, Goes l r i → i < k → (rowsFrom l k r)[i]? = some (itR l r i)
  | 0, _, _, _, h => by omega
  | k + 1, 0, r, _, _ => rfl
  | k + 1, i + 1, r, h, hk => by
    have h0 := h 0 (by omega)
    simp only [itR] at h0
    rw [rowsFrom, if_neg h0, List.getElem?_cons_succ, rowsFrom_get h.shift (by omega), itR_shift]
theorem rowsFrom_len {l : List HS} : ∀ {k i : Nat} {r : Nat → Int}, Goes l r i → i < k → tab (itR l r (i + 1)) = tab (itR l r i) → (rowsFrom l k r).length = i + 1
  | 0, _, _, _, h, _ => by omega
  | k + 1, 0, r, _, _, h => by
    simp only [itR] at h
    rw [rowsFrom, if_pos h]
    rfl
  | k + 1, i + 1, r, h, hk, he => by
    have h0 := h 0 (by omega)
    simp only [itR] at h0
    rw [rowsFrom, if_neg h0, List.length_cons, rowsFrom_len h.shift (by omega) (by rw [itR_shift, itR_shift]; exact he)]
theorem Goes.pot {l : List HS} (hl : l.all okS = true) {r : Nat → Int} (hr : rowOk r) : ∀ {i : Nat}, Goes l r i → (i : Int) ≤ Eng.pot (itR l r i)
  | 0, _ => (pot_ok hr).1
  | i + 1, h => by
    have h1 := Goes.pot hl hr (i := i) fun j hj => h j (by omega)
    have h2 := pot_step (h i (by omega))
    have e : itR l r (i + 1) = stepR l (itR l r i) := rfl
    rw [e]
    omega
theorem Goes.lt {l : List HS} (hl : l.all okS = true) {r : Nat → Int} (hr : rowOk r) {i : Nat} (h : Goes l r i) : i < 708 := by
  have h1 := h.pot hl hr
  have h2 := (pot_ok (itR_ok hl hr i)).2
  omega
theorem firstR_ok {g : HE} (gg : GoodE g) : rowOk (firstR g) := fun b _ => by
  obtain ⟨h1, h2, h3, h4⟩ := gg
  unfold firstR
  split <;> omega
end Go.Proofs.Ytcmkkgdjhjpldaa.Eng

namespace Go.Proofs.Ytcmkkgdjhjpldaa.Eng
open Go.RowKit
set_option maxRecDepth 100000 in
set_option maxHeartbeats 4000000 in
theorem widen_w (l : List HS) (kg n : Nat) (m : Mem) : CWp Try.prog 82 [.agg [.d (boxD l)], reachF kg] n m fun y n' m' => n + 1 + 1 ≤ n' ∧ y = .fn 89 [] [.ptr (n + 1) 0 0, .ptr n 0 0] ∧
    m' = setMem (setMem m n (some (.box 65 [.d (boxD l)] false))) (n + 1) (some (.box 59 [reachF kg] false)) := by
  refine cwpK tabOk Try.func82 rfl rfl (show 2 ≤ _ by decide) rfl fun _ => ?_; simp only [Try.ntmps82]
  repeat (first | (with_reducible first | refine AWi.seqK fun _ => ?_ | refine AWi.blockK fun _ => ?_ | refine KI.go ?_) | ((first | refine AWi.region tabOk ?_ | refine AWi.condK fun _ _ => ?_ | refine AWi.draws tabOk rfl (by kernel_rfl) (by kernel_rfl) ?_); simp [-getElem?_pos, z0, z1, z2, z0]) | ((first | refine AWi.ret ?_ | refine AWi.skip ?_ | refine AWi.exit ?_); try simp only [thenP]) | (with_reducible refine BB.go ?_; simp only [blockP, thenP, reduceIte]) | (with_reducible refine And.intro (okLog_c (by simp [footOf, guardSlot, slotsOf, idsRead, looks, idsOf, idsOf1, idsWritten, colF]; kernel_rfl)) ?_))
  exact RI.ret rfl ⟨by omega, rfl, rfl⟩
set_option maxRecDepth 100000 in
set_option maxHeartbeats 8000000 in
theorem widen1_2 (l : List HS) (hl : l.all okS = true) (hn6 : l.length ≤ 6) (g : HE) (gg : GoodE g) (kg kf kb : Nat) :
    Iterates2 Try.prog 89 (fun Y => [Y, .ptr kf 0 0, .ptr kb 0 0]) ((rowsW l (firstR g)).map fun r => [.agg (rowS r)]) fun m =>
      (∃ z, m kf = some (.box 59 [reachF kg] z)) ∧ (∃ z, m kb = some (.box 65 [.d (boxD l)] z)) ∧ GoalAt g kg m := by
  intro Y I J hY hI hJ hk hy n m h0
  obtain ⟨⟨uf, hf⟩, ⟨ub, hb⟩, hg⟩ := hk _ _ _ _ h0
  have l1 : kf < n := ((hI 0).lt h0 fun n O m h e => by obtain ⟨⟨z, h1⟩, _⟩ := hk _ _ _ _ h; rw [e] at h1; cases h1).1
  have l2 : kb < n := ((hI 0).lt h0 fun n O m h e => by obtain ⟨_, ⟨z, h1⟩, _⟩ := hk _ _ _ _ h; rw [e] at h1; cases h1).1
  have l3 : kg < n := ((hI 0).lt h0 fun n O m h e => by obtain ⟨_, _, ⟨z, h1⟩⟩ := hk _ _ _ _ h; rw [e] at h1; cases h1).1
  have e1 : ¬ kf = n := by omega
  have e2 : ¬ kb = n := by omega
  have e3 : ¬ kg = n := by omega
  have hr0 := firstR_ok gg
  refine cwpK tabOk Try.func89 rfl rfl (show 3 ≤ _ by decide) rfl fun _ => ?_; simp only [Try.ntmps89]
  repeat (first | (with_reducible first | refine AWi.seqK fun _ => ?_ | refine AWi.blockK fun _ => ?_ | refine KI.go ?_) | ((first | refine AWi.region tabOk ?_ | refine AWi.condK fun _ _ => ?_ | refine AWi.draws tabOk rfl (by kernel_rfl) (by kernel_rfl) ?_); simp [-getElem?_pos, z0, z1, z2, hf, e1]) | ((first | refine AWi.ret ?_ | refine AWi.skip ?_ | refine AWi.exit ?_); try simp only [thenP]) | (with_reducible refine BB.go ?_; simp only [blockP, thenP, reduceIte]) | (with_reducible refine And.intro (okLog_c (by simp [footOf, guardSlot, slotsOf, idsRead, looks, idsOf, idsOf1, idsWritten, colF]; kernel_rfl)) ?_))
  refine ExecI.callC (firstRow_w g gg kg _ _ (by omega) (by obtain ⟨zg, hz⟩ := hg; exact ⟨zg, by simp [e3]; exact hz⟩)) rfl (by simp [calleeS, evList]) ?_
  rintro y n1 m1 ⟨hn1, hm1, rfl⟩
  simp
  repeat (first | (with_reducible first | refine AWi.seqK fun _ => ?_ | refine AWi.blockK fun _ => ?_ | refine KI.go ?_) | ((first | refine AWi.region tabOk ?_ | refine AWi.condK fun _ _ => ?_ | refine AWi.draws tabOk rfl (by kernel_rfl) (by kernel_rfl) ?_); simp [-getElem?_pos, z0, z1, z2, z0]) | ((first | refine AWi.ret ?_ | refine AWi.skip ?_ | refine AWi.exit ?_); try simp only [thenP]) | (with_reducible refine BB.go ?_; simp only [blockP, thenP, reduceIte]) | (with_reducible refine And.intro (okLog_c (by simp [footOf, guardSlot, slotsOf, idsRead, looks, idsOf, idsOf1, idsWritten, colF]; kernel_rfl)) ?_))
  have hm1' : ∀ j, j < n → m1 j = m j := fun j hj => (hm1 j (by omega)).trans (by simp [show ¬ j = n by omega])
  have hm1n : m1 n = some (.box 83 (rowS fun _ => 0) false) := (hm1 n (by omega)).trans (by simp; rfl)
  refine AWi.loopK (fun (i : Nat) n2 s => n1 ≤ n2 ∧ Goes l (firstR g) i ∧ s.slots 0 = Y ∧ s.slots 1 = .ptr kf 0 0 ∧ s.slots 2 = .ptr kb 0 0 ∧ s.slots 4 = .ptr n 0 0 ∧ (∃ f, s.mem n = some (.box 83 (rowS f) false)) ∧ ∃ (id : Nat) (O : Nat → Prop), n < id ∧ id < n2 ∧ s.slots 5 = .ptr id 0 0 ∧ s.mem id = some (.box 83 (rowS (itR l (firstR g) i)) false) ∧ (∀ j, O j → n ≤ j ∧ j < n2) ∧ O n ∧ O id ∧ I i n2 O s.mem) (fun i => 708 - i) 0 ?_ ?_
  · refine ⟨by omega, fun j hj => by omega, by simp, by simp, by simp, by simp, ⟨fun _ => 0, ?_⟩, n1, fun j => j = n ∨ j = n1, by omega, by omega, by simp, by simp [itR], fun j hj => by omega, .inl rfl, .inr rfl, hI _ n _ m _ _ _ (by omega) (fun j hj => .inr (by omega)) (fun j hj _ => ?_) h0⟩
    · simp [show ¬ n = n1 by omega]
      exact hm1n
    · simp [show ¬ j = n1 by omega]
      exact hm1' j hj
  · rintro i n2 s ⟨r0, hgo, s0, s1, s2, s4, ⟨f, hf4⟩, id, O, hid1, hid2, s5, hm5, hO, hOn, hOid, hi⟩ kk
    have hlt708 := hgo.lt hl hr0
    have hrow := itR_ok hl hr0 i
    have hget : ((rowsW l (firstR g)).map fun r => [SV.agg (rowS r)])[i]? = some [.agg (rowS (itR l (firstR g) i))] := by
      rw [List.getElem?_map, rowsW, rowsFrom_get hgo (by omega), Option.map_some]
    have hstep : itR l (firstR g) (i + 1) = stepR l (itR l (firstR g) i) := rfl
    have hlen : tab (itR l (firstR g) (i + 1)) = tab (itR l (firstR g) i) → (rowsW l (firstR g)).length = i + 1 := fun h => rowsFrom_len hgo (by omega) h
    have hgo2 : tab (itR l (firstR g) (i + 1)) ≠ tab (itR l (firstR g) i) → Goes l (firstR g) (i + 1) := fun h j hj => by
      by_cases hji : j = i
      · subst hji; exact h
      · exact hgo j (by omega)
    generalize itR l (firstR g) i = r at *
    repeat (first | (with_reducible first | refine AWi.seqK fun _ => ?_ | refine AWi.blockK fun _ => ?_ | refine KI.go ?_) | ((first | refine AWi.region tabOk ?_ | refine AWi.condK fun _ _ => ?_ | refine AWi.draws tabOk rfl (by kernel_rfl) (by kernel_rfl) ?_); simp [-getElem?_pos, z0, z1, z2, s0, s5, hm5]) | ((first | refine AWi.ret ?_ | refine AWi.skip ?_ | refine AWi.exit ?_); try simp only [thenP]) | (with_reducible refine BB.go ?_; simp only [blockP, thenP, reduceIte]) | (with_reducible refine And.intro (okLog_c (by simp [footOf, guardSlot, slotsOf, idsRead, looks, idsOf, idsOf1, idsWritten, colF]; kernel_rfl)) ?_))
    refine ExecI.callY (Y := Y) (xs := [.agg (rowS r)]) (hy i _ O _ _ hget (fun j hj => by have := hO j hj; omega) (hI _ _ _ _ _ _ _ (by omega) (fun _ h => .inl h) (fun _ _ _ => rfl) hi)) (by simp [-getElem?_pos, z0, z1, z2]) (by simp [calleeV, evList]) ?_
    rintro y n3 m3 ⟨k3, q3, hy3⟩
    rcases hy3 with ⟨rfl, h3⟩ | ⟨rfl, h3⟩
    · obtain ⟨⟨uf3, hf3⟩, ⟨ub3, hb3⟩, hg3⟩ := hk _ _ _ _ h3
      have p5 := (q3 id hOid).trans hm5
      have p4 := (q3 n hOn).trans hf4
      simp [-getElem?_pos, z0, z1, z2]
      repeat (first | (with_reducible first | refine AWi.seqK fun _ => ?_ | refine AWi.blockK fun _ => ?_ | refine KI.go ?_) | ((first | refine AWi.region tabOk ?_ | refine AWi.condK fun _ _ => ?_ | refine AWi.draws tabOk rfl (by kernel_rfl) (by kernel_rfl) ?_); simp [-getElem?_pos, z0, z1, z2, s1, s2, s4, s5, hb3, p5]) | ((first | refine AWi.ret ?_ | refine AWi.skip ?_ | refine AWi.exit ?_); try simp only [thenP]) | (with_reducible refine BB.go ?_; simp only [blockP, thenP, reduceIte]) | (with_reducible refine And.intro (okLog_c (by simp [footOf, guardSlot, slotsOf, idsRead, looks, idsOf, idsOf1, idsWritten, colF]; kernel_rfl)) ?_))
      refine ExecI.callC (lead_w l hl hn6 r f hrow n _ _ (by omega) p4) rfl (by simp [calleeS, evList, s4]) ?_
      rintro y n4 m4 ⟨hn4, hm4, hm4n⟩
      have p6 := (hm4 id (by omega) (by omega)).trans p5
      have cw := with_c r (leadR l r)
      have hsr : (fun i => max (r i) (leadR l r i)) = stepR l r := rfl
      rw [hsr] at cw
      generalize hst : stepR l r = r' at *
      simp
      repeat (first | (with_reducible first | refine AWi.seqK fun _ => ?_ | refine AWi.blockK fun _ => ?_ | refine KI.go ?_) | ((first | refine AWi.region tabOk ?_ | refine AWi.condK fun _ _ => ?_ | refine AWi.draws tabOk rfl (by kernel_rfl) (by kernel_rfl) ?_); simp [-getElem?_pos, z0, z1, z2, s1, s2, s4, s5, p6, hm4n]) | ((first | refine AWi.ret ?_ | refine AWi.skip ?_ | refine AWi.exit ?_); try simp only [thenP]) | (with_reducible refine BB.go ?_; simp only [blockP, thenP, reduceIte]) | (with_reducible refine And.intro (okLog_c (by simp [footOf, guardSlot, slotsOf, idsRead, looks, idsOf, idsOf1, idsWritten, colF]; kernel_rfl)) ?_))
      refine ExecI.call [] cw ?_ rfl ?_ ?_; (focus simp [-getElem?_pos, p6, hm4n]); (focus simp [-getElem?_pos, z0, z1, z2, p6, hm4n]); simp [-getElem?_pos, z0, z1, z2, p6, hm4n]
      have f1 : ¬ id = n4 + 1 + 1 + 1 := by omega
      have f2 : ¬ n = n4 + 1 + 1 + 1 := by omega
      have hlow : ∀ j, j < n3 → ¬ O j → m4 j = m3 j := fun j hj ho => hm4 j (by omega) fun e => ho (e ▸ hOn)
      by_cases heq : tab r' = tab r
      · repeat (first | (with_reducible first | refine AWi.seqK fun _ => ?_ | refine AWi.blockK fun _ => ?_ | refine KI.go ?_) | ((first | refine AWi.region tabOk ?_ | refine AWi.condK fun _ _ => ?_ | refine AWi.draws tabOk rfl (by kernel_rfl) (by kernel_rfl) ?_); simp [-getElem?_pos, z0, z1, z2, s5, p6, f1, heq]) | ((first | refine AWi.ret ?_ | refine AWi.skip ?_ | refine AWi.exit ?_); try simp only [thenP]) | (with_reducible refine BB.go ?_; simp only [blockP, thenP, reduceIte]) | (with_reducible refine And.intro (okLog_c (by simp [footOf, guardSlot, slotsOf, idsRead, looks, idsOf, idsOf1, idsWritten, colF]; kernel_rfl)) ?_))
        refine RI.ret rfl ⟨by omega, O, fun j hj => by have := hO j hj; omega, .inl ?_⟩
        rw [List.length_map, hlen (by rw [hstep]; exact heq)]
        refine hI _ n3 O m3 _ _ _ (by omega) (fun _ h => .inl h) (fun j hj ho => ?_) h3
        simp [show ¬ j = n4 + 1 + 1 + 1 by omega]
        exact hlow j hj ho
      · repeat (first | (with_reducible first | refine AWi.seqK fun _ => ?_ | refine AWi.blockK fun _ => ?_ | refine KI.go ?_) | ((first | refine AWi.region tabOk ?_ | refine AWi.condK fun _ _ => ?_ | refine AWi.draws tabOk rfl (by kernel_rfl) (by kernel_rfl) ?_); simp [-getElem?_pos, z0, z1, z2, s5, p6, f1, heq]) | ((first | refine AWi.ret ?_ | refine AWi.skip ?_ | refine AWi.exit ?_); try simp only [thenP]) | (with_reducible refine BB.go ?_; simp only [blockP, thenP, reduceIte]) | (with_reducible refine And.intro (okLog_c (by simp [footOf, guardSlot, slotsOf, idsRead, looks, idsOf, idsOf1, idsWritten, colF]; kernel_rfl)) ?_))
        refine LI.go (i + 1) ⟨by omega, hgo2 (by rw [hstep]; exact heq), by simp [s0], by simp [s1], by simp [s2], by simp [s4], ⟨leadR l r, ?_⟩, n4 + 1 + 1 + 1 + 1 + 1 + 1 + 1 + 1 + 1 + 1 + 1, fun j => O j ∨ j = n4 + 1 + 1 + 1 + 1 + 1 + 1 + 1 + 1 + 1 + 1 + 1, by omega, by omega, by simp, by simp [hstep], fun j hj => by rcases hj with h | h; have := hO j h; omega; omega, .inl hOn, .inr rfl, hI _ n3 O m3 _ _ _ (by omega) (fun j hj => hj.imp_right fun h => by omega) (fun j hj ho => ?_) h3⟩ (by omega)
        · simp [show ¬ n = n4 + 1 + 1 + 1 by omega, show ¬ n = id by omega, show ¬ n = n4 + 1 + 1 + 1 + 1 + 1 + 1 + 1 + 1 + 1 + 1 + 1 by omega]
          exact hm4n
        · have h5 : ¬ O j := fun h => ho (.inl h)
          simp [show ¬ j = n4 + 1 + 1 + 1 by omega, show ¬ j = id from fun e => h5 (e ▸ hOid), show ¬ j = n4 + 1 + 1 + 1 + 1 + 1 + 1 + 1 + 1 + 1 + 1 + 1 by omega]
          exact hlow j hj h5
    · simp [-getElem?_pos, z0, z1, z2]
      repeat (first | (with_reducible first | refine AWi.seqK fun _ => ?_ | refine AWi.blockK fun _ => ?_ | refine KI.go ?_) | ((first | refine AWi.region tabOk ?_ | refine AWi.condK fun _ _ => ?_ | refine AWi.draws tabOk rfl (by kernel_rfl) (by kernel_rfl) ?_); simp [-getElem?_pos, z0, z1, z2, z0]) | ((first | refine AWi.ret ?_ | refine AWi.skip ?_ | refine AWi.exit ?_); try simp only [thenP]) | (with_reducible refine BB.go ?_; simp only [blockP, thenP, reduceIte]) | (with_reducible refine And.intro (okLog_c (by simp [footOf, guardSlot, slotsOf, idsRead, looks, idsOf, idsOf1, idsWritten, colF]; kernel_rfl)) ?_))
      exact RI.normal rfl ⟨by omega, O, fun j hj => by have := hO j hj; omega, .inr (hJ _ _ _ _ _ _ (by omega) (fun _ h => .inl h) (fun _ _ _ => rfl) h3)⟩
theorem widen1_w (l : List HS) (hl : l.all okS = true) (hn6 : l.length ≤ 6) (g : HE) (gg : GoodE g) (kg kf kb : Nat) :
    Iterates Try.prog 89 (fun Y => [Y, .ptr kf 0 0, .ptr kb 0 0]) ((rowsW l (firstR g)).map fun r => [.agg (rowS r)]) fun m =>
      (∃ z, m kf = some (.box 59 [reachF kg] z)) ∧ (∃ z, m kb = some (.box 65 [.d (boxD l)] z)) ∧ GoalAt g kg m :=
  (widen1_2 l hl hn6 g gg kg kf kb).old
end Go.Proofs.Ytcmkkgdjhjpldaa.Eng
