/-
  A part of the texts that the claim builds on: see the last one.
-/
import Derived.Test.YtigpefjeelgfdaaB4
import Derived.Deep.RegionHeld
set_option linter.unusedSimpArgs false
set_option linter.unusedVariables false
/-
  A region that draws its order, one duty an operation: what each operation leaves is told by a fact that no later growth of memory breaks; the operations meet in whatever order. No program is named here.
-/
namespace Go.Proofs.Ytigpefjeelgfdaa
open Go.RowKit

/-- What a value is, in a world; it stays so while memory grows. -/
structure Fact where
  holds : Value → World → Prop
  keep : ∀ (v : Value) (w w' : World), Below w.heap.size w w' → holds v w → holds v w'
def Fact.any : Fact := ⟨fun _ _ => True, fun _ _ _ _ _ => trivial⟩
def Fact.eq (c : Value) : Fact := ⟨fun v _ => v = c, fun _ _ _ _ h => h⟩
/-- Of each of these facts the value's own part. -/
def Fact.rgs (l : List Rg) : Fact := ⟨fun v w => Rgs w w.heap.size v l, fun _ _ _ hb h => Rgs.keep h (Same.of_below hb) hb.size⟩
def Fact.ints (l : List Int) : Fact := ⟨fun v w => Ints .i64 w w.heap.size v l, fun _ _ _ hb h => Ints.keep h (Same.of_below hb) hb.size⟩
/-- A struct whose first field is that and whose second one is such. -/
def Fact.second (c : Value) (f : Fact) : Fact := ⟨fun v w => ∃ u, v = .agg #[c, u] ∧ f.holds u w, fun _ _ _ hb ⟨u, h1, h2⟩ => ⟨u, h1, f.keep _ _ _ hb h2⟩⟩
/-- Two results, the second one known. -/
def Fact.first (f : Fact) (c : Value) : Fact := ⟨fun v w => ∃ u, v = .tuple #[u, c] ∧ f.holds u w, fun _ _ _ hb ⟨u, h1, h2⟩ => ⟨u, h1, f.keep _ _ _ hb h2⟩⟩

theorem below_on {a b c : World} (h : Below a.heap.size a b) (k : Below b.heap.size b c) : Below a.heap.size a c := h.trans (k.mono h.size)
def upd (x : Nat → Value) (i : Nat) (v : Value) : Nat → Value := fun j => if j = i then v else x j
def putAll : List (Option Tmp) → Nat → (Nat → Value) → Act → Act
  | [], _, _, a => a
  | d :: l, i, x, a => putAll l (i + 1) x (a.put d (x i))
def apartB : List (Option Tmp) → Bool
  | [] => true
  | d :: l => (d == none || !l.contains d) && apartB l

theorem put_put (a : Act) (d : Option Tmp) (u v : Value) : (a.put d u).put d v = a.put d v := by
  cases d with
  | none => rfl
  | some d => simp [Act.put]
theorem put_putAll : ∀ (l : List (Option Tmp)) (d : Option Tmp) (i : Nat) (x : Nat → Value) (a : Act) (v : Value), (d = none ∨ d ∉ l) → (putAll l i x a).put d v = putAll l i x (a.put d v)
  | [], _, _, _, _, _, _ => rfl
  | e :: l, d, i, x, a, v, h => by
    simp only [putAll]
    rw [put_putAll l d (i + 1) x _ v (h.imp id fun h => fun hm => h (List.mem_cons_of_mem _ hm))]
    cases d with
    | none => rfl
    | some d =>
      rw [Act.put_comm a (x i) v]
      intro d' he hd
      rcases h with h | h
      · cases h
      · exact h (by rw [he, hd]; exact List.mem_cons_self)
theorem putAll_congr : ∀ (l : List (Option Tmp)) (i : Nat) (x y : Nat → Value) (a : Act), (∀ j, i ≤ j → x j = y j) → putAll l i x a = putAll l i y a
  | [], _, _, _, _, _ => rfl
  | d :: l, i, x, y, a, h => by
    simp only [putAll]
    rw [h i (Nat.le_refl _)]
    exact putAll_congr l (i + 1) x y _ fun j hj => h j (by omega)
theorem putAll_put : ∀ (l : List (Option Tmp)) (i k : Nat) (x : Nat → Value) (a : Act) (d : Option Tmp) (v : Value), apartB l = true → l[k]? = some d → (putAll l i x a).put d v = putAll l i (upd x (i + k) v) a
  | [], _, _, _, _, _, _, _, h => by simp at h
  | e :: l, i, 0, x, a, d, v, hB, h => by
    simp only [List.getElem?_cons_zero, Option.some.injEq] at h
    subst h
    simp only [apartB, Bool.and_eq_true, Bool.or_eq_true, beq_iff_eq, Bool.not_eq_true', List.contains_eq_mem, decide_eq_false_iff_not] at hB
    simp only [putAll]
    rw [put_putAll l e (i + 1) x _ v hB.1, put_put, putAll_congr l (i + 1) x (upd x (i + 0) v) _ fun j hj => by simp [upd, show j ≠ i by omega]]
    simp [upd]
  | e :: l, i, k + 1, x, a, d, v, hB, h => by
    simp only [List.getElem?_cons_succ] at h
    simp only [apartB, Bool.and_eq_true] at hB
    simp only [putAll]
    rw [putAll_put l (i + 1) k x _ d v hB.2 h, show i + 1 + k = i + (k + 1) by omega]
    simp [upd]
/-- What the frame holds before. -/
def ownX (l : List (Option Tmp)) (i : Nat) (a : Act) (j : Nat) : Value := match (l[j - i]?).join with | some d => a.tmps.getD d undef | none => undef
theorem put_self (a : Act) (d : Tmp) : a.put (some d) (a.tmps.getD d undef) = a := by
  have : a.tmps.setIfInBounds d (a.tmps.getD d undef) = a.tmps := by
    apply Array.ext
    · simp
    · intro j h1 h2
      by_cases e : d = j
      · subst e; simp [h2]
      · rw [Array.getElem_setIfInBounds_ne h2 e]
  simp only [Act.put, this]
theorem putAll_own (x : Nat → Value) (a : Act) : ∀ (l : List (Option Tmp)) (i : Nat), (∀ k d, l[k]? = some (some d) → x (i + k) = a.tmps.getD d undef) → putAll l i x a = a
  | [], _, _ => rfl
  | d :: l, i, h => by
    simp only [putAll]
    have h1 : a.put d (x i) = a := by
      cases d with
      | none => rfl
      | some d => have := h 0 d rfl; rw [Nat.add_zero] at this; rw [this]; exact put_self a d
    rw [h1]
    exact putAll_own x a l (i + 1) fun k d hk => by
      have := h (k + 1) d (by simpa using hk)
      rwa [show i + (k + 1) = i + 1 + k by omega] at this

section
variable {P : Program} {ops : Array Oper} {Q : Exit → Act → World → Prop}

/-- Whatever this operation waits for has left what is told of it. -/
def depsAll (Ts : List Fact) (x : Nat → Value) (V : World) : List Edge → Prop
  | [] => True
  | e :: l => (Region.binds .any e = true → (Ts.getD e.on Fact.any).holds (x e.on) V) ∧ depsAll Ts x V l
theorem depsAll_of {Ts : List Fact} {x : Nat → Value} {V : World} : ∀ {l : List Edge}, (∀ e ∈ l, Region.binds .any e = true → (Ts.getD e.on Fact.any).holds (x e.on) V) → depsAll Ts x V l
  | [], _ => trivial
  | e :: l, h => ⟨h e List.mem_cons_self, depsAll_of fun e' h' => h e' (List.mem_cons_of_mem _ h')⟩
/-- One duty an operation. -/
def StepsF (P : Program) (ops : Array Oper) (Q : Exit → Act → World → Prop) (F : (Nat → Value) → Act) (Ts : List Fact) (W : World) : Nat → List Oper → Prop
  | _, [] => True
  | i, o :: l => (∀ (x : Nat → Value) (V : World), Below W.heap.size W V → depsAll Ts x V o.after.toList → ∀ K : Act → World → Prop,
      Shut (∀ v w', (Ts.getD i Fact.any).holds v w' → Below V.heap.size V w' → K ((F x).put o.dst v) w') →
        if Region.wanted o (yielded ops (F x).tmps) = true then Oper.wp P o (F x) V K Q else K ((F x).put o.dst undef) V) ∧ StepsF P ops Q F Ts W (i + 1) l
theorem StepsF.at_ {F : (Nat → Value) → Act} {Ts : List Fact} {W : World} : ∀ {l : List Oper} {i k : Nat} {o : Oper}, StepsF P ops Q F Ts W i l → l[k]? = some o →
    ∀ (x : Nat → Value) (V : World), Below W.heap.size W V → depsAll Ts x V o.after.toList → ∀ K : Act → World → Prop,
      Shut (∀ v w', (Ts.getD (i + k) Fact.any).holds v w' → Below V.heap.size V w' → K ((F x).put o.dst v) w') →
        if Region.wanted o (yielded ops (F x).tmps) = true then Oper.wp P o (F x) V K Q else K ((F x).put o.dst undef) V
  | [], _, _, _, _, h => by simp at h
  | o :: l, i, 0, _, hs, h => by
    simp only [List.getElem?_cons_zero, Option.some.injEq] at h
    subst h
    exact hs.1
  | o :: l, i, k + 1, _, hs, h => by
    simp only [List.getElem?_cons_succ] at h
    have := StepsF.at_ hs.2 h
    rwa [show i + 1 + k = i + (k + 1) by omega] at this

theorem StepsF.cons {F : (Nat → Value) → Act} {Ts : List Fact} {W : World} {i : Nat} {o : Oper} {l : List Oper}
    (h : ∀ (x : Nat → Value) (V : World), Below W.heap.size W V → depsAll Ts x V o.after.toList → ∀ K : Act → World → Prop,
      Shut (∀ v w', (Ts.getD i Fact.any).holds v w' → Below V.heap.size V w' → K ((F x).put o.dst v) w') →
        if Region.wanted o (yielded ops (F x).tmps) = true then Oper.wp P o (F x) V K Q else K ((F x).put o.dst undef) V)
    (hs : StepsF P ops Q F Ts W (i + 1) l) : StepsF P ops Q F Ts W i (o :: l) := ⟨h, hs⟩
theorem StepsF.nil {F : (Nat → Value) → Act} {Ts : List Fact} {W : World} {i : Nat} : StepsF P ops Q F Ts W i [] := trivial
theorem depsAll_get {Ts : List Fact} {x : Nat → Value} {V : World} : ∀ {l : List Edge} (h : depsAll Ts x V l) (k : Nat), (l.any fun e => e.on == k && Region.binds .any e) = true → (Ts.getD k Fact.any).holds (x k) V
  | [], _, _, h => by simp at h
  | e :: l, hd, k, h => by
    rw [List.any_cons, Bool.or_eq_true] at h
    rcases h with h | h
    · rw [Bool.and_eq_true, beq_iff_eq] at h
      obtain ⟨rfl, h⟩ := h
      exact hd.1 h
    · exact depsAll_get hd.2 k h
theorem wpOp_of {i : Nat} {o : Oper} {a : Act} {w : World} {K : Act → World → Prop} (ho : ops[i]? = some o)
    (h : ∀ K' : Act → World → Prop, (∀ a w, K a w → K' a w) → if Region.wanted o (yielded ops a.tmps) = true then Oper.wp P o a w K' Q else K' (a.put o.dst undef) w) : wpOp P ops Q i K a w :=
  wpOp_step ho h

def leftOf (n : Nat) (listed : Array Bool) : Nat := ((List.range n).filter fun i => !listed.getD i true).length
theorem leftOf_set {n i : Nat} {listed : Array Bool} (hs : listed.size = n) (hi : listed.getD i true = false) (fuel : Nat) (h : leftOf n listed ≤ fuel + 1) : leftOf n (listed.setIfInBounds i true) ≤ fuel := by
  have hin : i < n := by
    rcases Nat.lt_or_ge i n with h1 | h1
    · exact h1
    · rw [← hs] at h1; simp [Array.getElem?_eq_none h1] at hi
  unfold leftOf at h ⊢
  have h1 : (List.range n).filter (fun j => !(listed.setIfInBounds i true).getD j true) = ((List.range n).filter fun j => !listed.getD j true).filter (fun j => j != i) := by
    rw [List.filter_filter]
    apply List.filter_congr
    intro j hj
    by_cases e : i = j
    · subst e
      simp [hs, hin]
    · rw [getD_set_ne true e]
      have : (j != i) = true := by simp; omega
      rw [this, Bool.true_and]
  rw [h1]
  have h2 : i ∈ (List.range n).filter fun j => !listed.getD j true := by
    rw [List.mem_filter]; exact ⟨List.mem_range.2 hin, by rw [hi]; rfl⟩
  have h3 : (((List.range n).filter fun j => !listed.getD j true).filter fun j => j != i).length < ((List.range n).filter fun j => !listed.getD j true).length := by
    rw [List.length_filter_lt_length_iff_exists]
    exact ⟨i, h2, by simp⟩
  omega

/-- Each operation waits for earlier ones alone. -/
def backB (ops : Array Oper) : Bool := (List.range ops.size).all fun i => ((ops[i]?).map fun o => o.after.all fun e => !Region.binds .any e || decide (e.on < i)).getD false
theorem all_listed {listed : Array Bool} (hs : listed.size = ops.size) (hB : backB ops = true) (hr : Region.ready .any ops listed = []) : ∀ (i : Nat), i < ops.size → listed.getD i true = true := by
  intro i
  induction i using Nat.strongRecOn with
  | ind i ih =>
    intro hi
    cases h : listed.getD i true with
    | true => rfl
    | false =>
      have : i ∈ Region.ready .any ops listed := by
        rw [mem_ready]
        refine ⟨h, ops[i], Array.getElem?_eq_getElem hi, fun e he hb => ?_⟩
        have hb1 := List.all_eq_true.1 hB i (List.mem_range.2 hi)
        rw [Array.getElem?_eq_getElem hi] at hb1
        simp only [Option.map_some, Option.getD_some] at hb1
        have hb2 := Array.all_eq_true.1 hb1
        obtain ⟨k, hk, rfl⟩ := Array.getElem_of_mem he
        have hb3 := hb2 k hk
        simp only [hb, Bool.not_true, Bool.false_or, decide_eq_true_eq] at hb3
        have h4 := ih _ hb3 (by omega)
        have h5 : (ops[i].after[k]).on < listed.size := by omega
        simp [h5] at h4 ⊢
        exact h4
      rw [hr] at this
      cases this

theorem wpAny_facts {F : (Nat → Value) → Act} {Ts : List Fact} {W : World} {a0 : Act} (hB : backB ops = true) (hD : apartB (ops.toList.map (·.dst)) = true)
    (hF : ∀ x, putAll (ops.toList.map (·.dst)) 0 x a0 = F x) (hS : StepsF P ops Q F Ts W 0 ops.toList)
    (hQ : ∀ (x : Nat → Value) (V : World), Below W.heap.size W V → (∀ i, i < ops.size → (Ts.getD i Fact.any).holds (x i) V) → Q .normal (F x) V) :
    ∀ (fuel : Nat) (listed : Array Bool) (x : Nat → Value) (w : World), listed.size = ops.size → leftOf ops.size listed ≤ fuel → Below W.heap.size W w →
      (∀ i, i < ops.size → listed.getD i true = true → (Ts.getD i Fact.any).holds (x i) w) → wpAny P .any ops Q fuel listed (F x) w := by
  have fin : ∀ (listed : Array Bool) (x : Nat → Value) (w : World), listed.size = ops.size → Below W.heap.size W w →
      (∀ i, i < ops.size → listed.getD i true = true → (Ts.getD i Fact.any).holds (x i) w) → Region.ready .any ops listed = [] → Q .normal (F x) w :=
    fun listed x w hs hW hI hr => hQ x w hW fun i hi => hI i hi (all_listed hs hB hr i hi)
  intro fuel
  induction fuel with
  | zero =>
    intro listed x w hs hl hW hI
    have hr : Region.ready .any ops listed = [] := by
      rw [List.eq_nil_iff_forall_not_mem]
      intro i hi
      have h1 := (mem_ready.1 hi).1
      have h2 : i ∈ (List.range ops.size).filter fun j => !listed.getD j true := by
        rw [List.mem_filter]
        refine ⟨List.mem_range.2 ?_, by rw [h1]; rfl⟩
        obtain ⟨o, ho, _⟩ := (mem_ready.1 hi).2
        exact (Array.getElem?_eq_some_iff.1 ho).1
      unfold leftOf at hl
      rw [List.length_eq_zero_iff.1 (Nat.le_zero.1 hl)] at h2
      cases h2
    exact ⟨hr, fin listed x w hs hW hI hr⟩
  | succ fuel ih =>
    intro listed x w hs hl hW hI
    refine ⟨fun hr => fin listed x w hs hW hI hr, fun i hi => ?_⟩
    obtain ⟨hun, o, ho, hdep⟩ := mem_ready.1 hi
    have hin : i < ops.size := (Array.getElem?_eq_some_iff.1 ho).1
    refine wpOp_of ho fun K' hK' => ?_
    have hl' : ops.toList[i]? = some o := by rw [Array.getElem?_toList]; exact ho
    have := StepsF.at_ hS hl' x w hW (depsAll_of fun e he hb => hI e.on (by
      have h1 := hdep e (by simpa using he) hb
      rcases Nat.lt_or_ge e.on listed.size with h2 | h2
      · omega
      · simp [Array.getElem?_eq_none h2] at h1) (by
      have h1 := hdep e (by simpa using he) hb
      rcases Nat.lt_or_ge e.on listed.size with h2 | h2
      · simp [h2] at h1 ⊢; exact h1
      · simp [Array.getElem?_eq_none h2] at h1)) K' ?_
    · exact this
    · intro v w' hv hb
      refine hK' _ _ ?_
      have hd : (ops.toList.map (·.dst))[i]? = some o.dst := by rw [List.getElem?_map, hl']; rfl
      have hput : (F x).put o.dst v = F (upd x i v) := by
        rw [← hF, ← hF, putAll_put _ 0 i x a0 o.dst v hD hd, Nat.zero_add]
      rw [hput]
      refine ih _ _ _ (by simpa using hs) (leftOf_set hs hun fuel hl) (hW.trans (hb.mono hW.size)) fun j hj hlj => ?_
      by_cases e : j = i
      · subst e
        simp only [upd, if_true]
        rwa [Nat.zero_add] at hv
      · rw [getD_set_ne true (Ne.symm e)] at hlj
        simp only [upd, if_neg e]
        exact Fact.keep _ _ _ _ hb (hI j hj hlj)

theorem wp_region_facts {id : Nat} {l : List Oper} {F : (Nat → Value) → Act} {a : Act} {w : World} (Ts : List Fact) (hm : P.follows .mixedOrders = true) (hB : backB l.toArray = true) (hD : apartB (l.map (·.dst)) = true)
    (hF : ∀ x, putAll (l.map (·.dst)) 0 x a = F x) (hS : StepsF P l.toArray Q F Ts w 0 l)
    (hQ : ∀ (x : Nat → Value) (V : World), Below w.heap.size w V → (∀ i, i < l.length → (Ts.getD i Fact.any).holds (x i) V) → Q .normal (F x) V) : (Code.region id l.toArray true).wp P Q a w := by
  refine wp_region_any hm ?_
  have hx := putAll_own (fun j => match (l.map (·.dst))[j]? with | some (some d) => a.tmps.getD d undef | _ => undef) a (l.map (·.dst)) 0 (fun k d hk => by rw [Nat.zero_add]; simp only [hk])
  have h := wpAny_facts (P := P) (ops := l.toArray) (Q := Q) (F := F) (Ts := Ts) (W := w) (a0 := a) hB (by simpa using hD) (by simpa using hF) (by simpa using hS) (by simpa using hQ)
    l.toArray.size (Array.replicate l.toArray.size false) (fun j => match (l.map (·.dst))[j]? with | some (some d) => a.tmps.getD d undef | _ => undef) { w with drawn := w.drawn + 1 }
    (by simp) (by unfold leftOf; exact Nat.le_trans (List.length_filter_le _ _) (by simp)) ((Below.refl _ _).drew) (fun i hi hl => by
      exfalso
      simp at hi
      simp [hi] at hl)
  rw [← hF, hx] at h
  exact h
end
end Go.Proofs.Ytigpefjeelgfdaa

/-
  Walks of layer 1's statements: what package heat answers, as lists that are read.
-/
namespace Go.Proofs.Ytigpefjeelgfdaa
open Go.RowKit

abbrev Lists (w : World) (B : Nat) (v : Value) (l : List (List Int)) : Prop := SL (ListAt B) 1 w B v l
theorem Lists.keep {w w' : World} {B B' : Nat} {v : Value} {l : List (List Int)} (h : Lists w B v l) (hs : Same B w w') (hB : B ≤ B') : Lists w' B' v l :=
  SL.keep h hB fun _ _ _ hb ⟨u, h1, h2⟩ => ⟨u, (hs.cell hb _).trans h1, h2.keep hs hB⟩
def Fact.lists (l : List (List Int)) : Fact := ⟨fun v w => Lists w w.heap.size v l, fun _ _ _ hb h => Lists.keep h (Same.of_below hb) hb.size⟩
/-- A value, and an error: the value is such, if the error is OK, otherwise nil. -/
def Fact.res (f : Fact) (r : Int) : Fact := ⟨fun v w => ∃ u, v = .tuple #[u, .int .i64 r] ∧ (r = 0 → f.holds u w) ∧ (r ≠ 0 → u = .slice none 0 0),
  fun _ _ _ hb ⟨u, h1, h2, h3⟩ => ⟨u, h1, fun h => f.keep _ _ _ hb (h2 h), h3⟩⟩

theorem own_lists {w : World} {base n : Nat} {v : Value} {vs : List Value} {L : Nat → List Int} (h : w.ownsRow base 40 1 v n vs) (ha : OwnAll w base vs L) : Lists w w.heap.size v ((List.range n).map L) := by
  have hl : vs.length = n := by have := h.1; omega
  rcases h.2 with ⟨h1, h2⟩ | ⟨g, cap, cur, hv, hb, hg, hnc, hcm, hcs, htake⟩
  · subst h2
    subst h1
    exact SL.nil _ _ _ _
  · refine ⟨some ⟨g, 0, none⟩, cap, by rw [List.length_map, List.length_range]; exact hv, by rw [List.length_map, List.length_range]; exact hnc, by simpa [maxLen] using hcm, fun _ => ⟨g, 0, rfl, (Array.getElem?_eq_some_iff.1 hg).1, fun i x hi => ?_⟩⟩
    rw [List.getElem?_map] at hi
    have hin : i < n := by
      rcases Nat.lt_or_ge i n with h1 | h1
      · exact h1
      · rw [List.getElem?_eq_none (by simpa using h1)] at hi; cases hi
    rw [List.getElem?_range hin] at hi
    simp only [Option.map_some, Option.some.injEq] at hi
    subst hi
    have hi2 : i < vs.length := by omega
    obtain ⟨u, hu⟩ : ∃ u, vs[i]? = some u := ⟨_, List.getElem?_eq_getElem hi2⟩
    have hx := ha i u hu
    refine ⟨u, ?_, own_ints hx.out⟩
    rw [cell_of_row w g _ cur 40 (0, 0) hg, Nat.zero_add, Nat.mul_one]
    rw [← htake, List.getElem?_take] at hu
    split at hu
    · simpa using hu
    · cases hu

/-- A call answers what is told, and leaves alone what was there. -/
def CallsF (f : FuncId) (args : Array Value) (w : World) (F : Fact) : Prop := Calls Try.prog f args w fun e w' => ∃ v, e = .returned v ∧ F.holds v w' ∧ Below w.heap.size w w'

theorem heatRanges_read {Ab As Ar : Option Addr} {cb cs cr : Nat} {x : Works} {bar : Int} {ways : List Int} {B : Nat} {w : World} (h : In w B Ab As Ar cb cs cr x ways) :
    CallsF 23 #[.agg #[.slice Ab x.bars.length cb, .slice As x.steps.length cs], .agg #[.int .i64 bar, .slice Ar ways.length cr]] w
      (Fact.res (Fact.rgs (endsL (rowOf x ways (barP x bar.toNat)) (x.steps.length + 1))) (recErr x bar ways)) := by
  refine (heatRanges_any Ab As Ar cb cs cr x bar ways B w h).mono ?_
  rintro e w' ⟨v, rfl, h1, h2, h3⟩
  refine ⟨_, rfl, ⟨v, rfl, fun h0 => own_rgs (base := w.heap.size) (e := 33) ?_, h2⟩, h3⟩
  rw [endsL_length, endsL_cells]
  exact (h1 h0).out
theorem heatHad_read {Ab As Ar : Option Addr} {cb cs cr : Nat} {x : Works} {bar : Int} {ways : List Int} {lo hi : Int} {B : Nat} {w : World} (h : In w B Ab As Ar cb cs cr x ways) :
    CallsF 28 #[.agg #[.slice Ab x.bars.length cb, .slice As x.steps.length cs], .agg #[.int .i64 bar, .slice Ar ways.length cr], .agg #[.int .i64 lo, .int .i64 hi]] w
      (Fact.res (Fact.rgs (endsL (agrRows x bar ways lo hi) (x.steps.length + 1))) (agrErr x bar ways lo hi)) := by
  refine (heatHad_any Ab As Ar cb cs cr x bar ways lo hi B w h).mono ?_
  rintro e w' ⟨v, rfl, h1, h2, h3⟩
  refine ⟨_, rfl, ⟨v, rfl, fun h0 => own_rgs (base := w.heap.size) (e := 33) ?_, h2⟩, h3⟩
  rw [endsL_length, endsL_cells]
  exact (h1 h0).out
theorem histVals_len (x : Works) (bar : Int) (ways : List Int) (lo hi : Int) : (histVals x bar ways lo hi).length = x.steps.length + 1 := by simp [histVals]
theorem heatHistory_read {Ab As Ar : Option Addr} {cb cs cr : Nat} {x : Works} {bar : Int} {ways : List Int} {lo hi : Int} {B : Nat} {w : World} (h : In w B Ab As Ar cb cs cr x ways) :
    CallsF 30 #[.agg #[.slice Ab x.bars.length cb, .slice As x.steps.length cs], .agg #[.int .i64 bar, .slice Ar ways.length cr], .agg #[.int .i64 lo, .int .i64 hi]] w
      (Fact.res (Fact.ints (histVals x bar ways lo hi)) (agrErr x bar ways lo hi)) := by
  refine (heatHistory_any Ab As Ar cb cs cr x bar ways lo hi B w h).mono ?_
  rintro e w' ⟨v, rfl, h1, h2, h3⟩
  refine ⟨_, rfl, ⟨v, rfl, fun h0 => own_ints (base := w.heap.size) (e := 2) ?_, h2⟩, h3⟩
  rw [histVals_len]
  exact (h1 h0).out
theorem heatBars_read {Ab As : Option Addr} {cb cs : Nat} {x : Works} {mlo mhi : Int} {B : Nat} {w : World} (h : In w B Ab As none cb cs 0 x []) :
    CallsF 33 #[.agg #[.slice Ab x.bars.length cb, .slice As x.steps.length cs], .agg #[.int .i64 mlo, .int .i64 mhi]] w
      (Fact.res (Fact.ints (leftN x mlo mhi (-1))) (someErr x mlo mhi)) := by
  refine (heatBars_any Ab As cb cs x mlo mhi B w h).mono ?_
  rintro e w' ⟨v, rfl, h1, h2, h3⟩
  exact ⟨_, rfl, ⟨v, rfl, fun h0 => own_ints (base := w.heap.size) (e := 3) (h1 h0).out, h2⟩, h3⟩
theorem heatWays_read {Ab As : Option Addr} {cb cs : Nat} {x : Works} {mlo mhi : Int} {B : Nat} {w : World} (h : In w B Ab As none cb cs 0 x []) :
    CallsF 35 #[.agg #[.slice Ab x.bars.length cb, .slice As x.steps.length cs], .agg #[.int .i64 mlo, .int .i64 mhi]] w
      (Fact.res (Fact.lists ((List.range x.steps.length).map fun (i : Nat) => leftN x mlo mhi i)) (someErr x mlo mhi)) := by
  refine (heatWays_any Ab As cb cs x mlo mhi B w h).mono ?_
  rintro e w' ⟨v, rfl, h1, h2, h3⟩
  refine ⟨_, rfl, ⟨v, rfl, fun h0 => ?_, h2⟩, h3⟩
  obtain ⟨vs, h4, h5⟩ := h1 h0
  exact own_lists h4.out h5
/-- Lists that are laid anew. -/
theorem rgs_box {w : World} {g : Nat} {t : TypeId} {l : List Rg} {c : Nat} (h : Box w g t (l.flatMap rgV).toArray) (hc : l.length ≤ c) (hm : c ≤ 9223372036854775807) : Rgs w w.heap.size (.slice (some ⟨g, 0, none⟩) l.length c) l :=
  ⟨_, c, rfl, hc, hm, fun _ => ⟨g, 0, rfl, h.lt, fun i x hi => by
    have h0 := flatMap_get rgV 2 (fun _ => rfl) l i 0 x hi (by omega)
    have h1 := flatMap_get rgV 2 (fun _ => rfl) l i 1 x hi (by omega)
    refine ⟨?_, ?_⟩
    · rw [h.cell]; simpa [rgV] using h0
    · rw [h.cell]; simpa [rgV] using h1⟩⟩
theorem lists_box2 {w : World} {g : Nat} {t : TypeId} {u v : Value} {a b : List Int} (h : Box w g t #[u, v]) (hu : Ints .i64 w w.heap.size u a) (hv : Ints .i64 w w.heap.size v b) : Lists w w.heap.size (.slice (some ⟨g, 0, none⟩) 2 2) [a, b] :=
  ⟨_, 2, rfl, by simp, by omega, fun _ => ⟨g, 0, rfl, h.lt, fun i x hi => by
    rcases i with _ | _ | i
    · simp at hi; subst hi; exact ⟨_, h.cell 0, hu⟩
    · simp at hi; subst hi; exact ⟨_, h.cell 1, hv⟩
    · simp at hi⟩⟩
theorem ranges_same {w : World} {u v : Value} {l : List Rg} (hu : Rgs w w.heap.size u l) (hv : Rgs w w.heap.size v l) : Calls Try.prog 25 #[u, v] w fun e w' => e = .returned (.bool true) ∧ Below w.heap.size w w' := by
  obtain ⟨A1, c1, rfl, a1, a2, a3⟩ := hu
  obtain ⟨A2, c2, rfl, b1, b2, b3⟩ := hv
  have := lawRanges_any A1 A2 c1 c2 l l w.heap.size w a3 b3 (Nat.le_refl _) a1 a2 b1 b2
  rwa [decide_eq_true (rfl : l = l)] at this
theorem ints_same {w : World} {u v : Value} {l : List Int} (hu : Ints .i64 w w.heap.size u l) (hv : Ints .i64 w w.heap.size v l) : Calls Try.prog 39 #[u, v] w fun e w' => e = .returned (.bool true) ∧ Below w.heap.size w w' := by
  obtain ⟨A1, c1, rfl, a1, a2, a3⟩ := hu
  obtain ⟨A2, c2, rfl, b1, b2, b3⟩ := hv
  have := lawInts_any A1 A2 c1 c2 l l w.heap.size w a3 b3 (Nat.le_refl _) a1 a2 b1 b2
  rwa [decide_eq_true (rfl : l = l)] at this
theorem lists_same {w : World} {u v : Value} {l : List (List Int)} (hu : Lists w w.heap.size u l) (hv : Lists w w.heap.size v l) : Calls Try.prog 40 #[u, v] w fun e w' => e = .returned (.bool true) ∧ Below w.heap.size w w' := by
  obtain ⟨A1, c1, rfl, a1, a2, a3⟩ := hu
  obtain ⟨A2, c2, rfl, b1, b2, b3⟩ := hv
  have := lawLists_any A1 A2 c1 c2 l l w.heap.size w a3 b3 (Nat.le_refl _) a1 a2 b1 b2
  rwa [decide_eq_true (rfl : l = l)] at this
/-- A duty of a region: a call that answers what is told. -/
theorem CallsF.upon {f : FuncId} {args : Array Value} {V : World} {F : Fact} (h : CallsF f args V F) {G : Fact} (hG : ∀ v w', F.holds v w' → G.holds v w') {K : Value → World → Prop}
    {Q : Ending → World → Prop} (hK : ∀ v w', G.holds v w' → Below V.heap.size V w' → K v w') (hQ : ∀ v w', K v w' → Q (.returned v) w') : Calls Try.prog f args V Q := by
  refine Calls.mono h ?_
  rintro e w' ⟨v, rfl, hv, hb⟩
  exact hQ _ _ (hK _ _ (hG _ _ hv) hb)
end Go.Proofs.Ytigpefjeelgfdaa

/-
  Walks of layer 1's statements: Works.
-/
namespace Go.Proofs.Ytigpefjeelgfdaa
open Go.RowKit

theorem house_ws {ws : List (List Kink)} (h : Hid (houseX.steps[1]? = some ws)) : Hid (ws = [[⟨0, 200, 300⟩, ⟨420, 280, 400⟩, ⟨550, 350, 480⟩]]) := by
  have := h.out
  simp only [houseX, List.getElem?_cons_succ, List.getElem?_cons_zero, Option.some.injEq] at this
  exact this.symm
theorem house_ks {ws : List (List Kink)} {ks : List Kink} (hw : Hid (ws = [[⟨0, 200, 300⟩, ⟨420, 280, 400⟩, ⟨550, 350, 480⟩]])) (h : Hid (ws[0]? = some ks)) : Hid (ks = [⟨0, 200, 300⟩, ⟨420, 280, 400⟩, ⟨550, 350, 480⟩]) := by
  have := h.out
  rw [hw.out] at this
  simp only [List.getElem?_cons_zero, Option.some.injEq] at this
  exact this.symm
theorem In.with_ {w w' : World} {B : Nat} {Ab As Ar : Option Addr} {cb cs cr : Nat} {x : Works} {ways : List Int} (h : In w B Ab As none cb cs 0 x []) (hb : Below w.heap.size w w') (hr : IntsA .i64 w' w'.heap.size Ar ways) (c1 : ways.length ≤ cr) (c2 : cr ≤ 9223372036854775807) :
    In w' w'.heap.size Ab As Ar cb cs cr x ways :=
  have hs : Same B w w' := Same.of_below (hb.mono h.le)
  have hz : B ≤ w'.heap.size := Nat.le_trans h.le hb.size
  ⟨SLa.keep h.bars hz fun _ _ _ hb hx => RgAt.keep hx hs hb, SLa.keep h.steps hz fun _ _ _ hlt ⟨u, h1, h2⟩ => ⟨u, (hs.cell hlt _).trans h1, h2.keep hs hz⟩, hr, h.cb1, h.cb2, h.cs1, h.cs2, c1, c2, Nat.le_refl _⟩
theorem zeros_box {w : World} {g : Nat} {t : TypeId} (h : Box w g t #[.int .i64 0, .int .i64 0]) : IntsA .i64 w w.heap.size (some ⟨g, 0, none⟩) [0, 0] := by
  obtain ⟨A, c, hv, _, _, hs⟩ := ints_box (k := .i64) (l := [0, 0]) (c := 2) h (by simp) (by simp)
  cases hv
  exact hs

theorem zeros_at {W v : World} (h : Below (W.drew.alloc (.cells #[.int .i64 0, .int .i64 0] 3)).heap.size (W.drew.alloc (.cells #[.int .i64 0, .int .i64 0] 3)) v) : IntsA .i64 v v.heap.size (some ⟨W.heap.size, 0, none⟩) [0, 0] :=
  zeros_box (t := 3) (Box.below (Box.new W.drew _ _) h (by simp only [World.size_alloc]; exact Nat.lt_succ_self _))
theorem houseRanges_read {Ab As Ar : Option Addr} {cb cs cr : Nat} {B : Nat} {w : World} (h : In w B Ab As Ar cb cs cr houseX [0, 0]) :
    CallsF 23 #[.agg #[.slice Ab houseX.bars.length cb, .slice As houseX.steps.length cs], .agg #[.int .i64 1, .slice Ar 2 cr]] w (Fact.res (Fact.rgs [(150, 300), (400, 600), (200, 480)]) 0) := by
  have h1 := heatRanges_read (bar := 1) h
  have e : endsL (rowOf houseX [0, 0] (barP houseX (1 : Int).toNat)) (houseX.steps.length + 1) = [(150, 300), (400, 600), (200, 480)] := houseRanges1
  rw [e, houseRec1] at h1
  exact h1
theorem houseHistory_read {Ab As Ar : Option Addr} {cb cs cr : Nat} {B : Nat} {w : World} (h : In w B Ab As Ar cb cs cr houseX [0, 0]) :
    CallsF 30 #[.agg #[.slice Ab houseX.bars.length cb, .slice As houseX.steps.length cs], .agg #[.int .i64 1, .slice Ar 2 cr], .agg #[.int .i64 410, .int .i64 420]] w (Fact.res (Fact.ints [180, 550, 410]) 0) := by
  have h1 := heatHistory_read (bar := 1) (lo := 410) (hi := 420) h
  rw [houseHistory, houseAgr1] at h1
  exact h1
theorem houseHistory0_read {Ab As Ar : Option Addr} {cb cs cr : Nat} {B : Nat} {w : World} (h : In w B Ab As Ar cb cs cr houseX [0, 0]) :
    CallsF 30 #[.agg #[.slice Ab houseX.bars.length cb, .slice As houseX.steps.length cs], .agg #[.int .i64 0, .slice Ar 2 cr], .agg #[.int .i64 410, .int .i64 420]] w (Fact.res Fact.any 17) := by
  have h1 := heatHistory_read (bar := 0) (lo := 410) (hi := 420) h
  rw [houseAgr0] at h1
  refine Calls.mono h1 ?_
  rintro e w' ⟨v, rfl, ⟨u, hu, _, h3⟩, hb⟩
  exact ⟨v, rfl, ⟨u, hu, fun _ => trivial, h3⟩, hb⟩
theorem houseHad_read {Ab As Ar : Option Addr} {cb cs cr : Nat} {B : Nat} {w : World} (h : In w B Ab As Ar cb cs cr houseX [0, 0]) :
    CallsF 28 #[.agg #[.slice Ab houseX.bars.length cb, .slice As houseX.steps.length cs], .agg #[.int .i64 1, .slice Ar 2 cr], .agg #[.int .i64 410, .int .i64 420]] w (Fact.res (Fact.rgs [(180, 300), (550, 600), (410, 420)]) 0) := by
  have h1 := heatHad_read (bar := 1) (lo := 410) (hi := 420) h
  have e : endsL (agrRows houseX 1 [0, 0] 410 420) (houseX.steps.length + 1) = [(180, 300), (550, 600), (410, 420)] := houseHad
  rw [e, houseAgr1] at h1
  exact h1
theorem houseBars_read {Ab As : Option Addr} {cb cs : Nat} {B : Nat} {w : World} (h : In w B Ab As none cb cs 0 houseX []) :
    CallsF 33 #[.agg #[.slice Ab houseX.bars.length cb, .slice As houseX.steps.length cs], .agg #[.int .i64 410, .int .i64 420]] w (Fact.res (Fact.ints [0, 1]) 0) := by
  have h1 := heatBars_read (mlo := 410) (mhi := 420) h
  rw [houseBars, houseSome] at h1
  exact h1
theorem houseWays_read {Ab As : Option Addr} {cb cs : Nat} {B : Nat} {w : World} (h : In w B Ab As none cb cs 0 houseX []) :
    CallsF 35 #[.agg #[.slice Ab houseX.bars.length cb, .slice As houseX.steps.length cs], .agg #[.int .i64 410, .int .i64 420]] w (Fact.res (Fact.lists [[0, 1], [0]]) 0) := by
  have h1 := heatWays_read (mlo := 410) (mhi := 420) h
  have e : ((List.range houseX.steps.length).map fun (i : Nat) => leftN houseX 410 420 i) = [[0, 1], [0]] := by
    show [leftN houseX 410 420 ((0 : Nat) : Int), leftN houseX 410 420 ((1 : Nat) : Int)] = _
    rw [show ((0 : Nat) : Int) = 0 from rfl, show ((1 : Nat) : Int) = 1 from rfl, houseLeft0, houseLeft1]
  rw [e, houseSome] at h1
  exact h1
theorem houseCheck {h0 h1 h2 r : Int} (hr : histErr houseX 1 [0, 0] [h0, h1, h2] = r) {Ab As Ar Ah : Option Addr} {cb cs cr ch B : Nat} {w : World} (h : In w B Ab As Ar cb cs cr houseX [0, 0]) (hh : IntsA .i64 w B Ah [h0, h1, h2]) (c1 : 3 ≤ ch) (c2 : ch ≤ 9223372036854775807) :
    CallsF 26 #[.agg #[.slice Ab houseX.bars.length cb, .slice As houseX.steps.length cs], .agg #[.int .i64 1, .slice Ar 2 cr], .slice Ah 3 ch] w (Fact.eq (.int .i64 r)) := by
  have := heatCheckHistory_any Ab As Ar Ah cb cs cr ch houseX 1 [0, 0] [h0, h1, h2] B w h hh c1 c2
  rw [hr] at this
  refine Calls.mono this ?_
  rintro e w' ⟨rfl, hb⟩
  exact ⟨_, rfl, rfl, hb⟩
theorem houseCount_read {Ab As : Option Addr} {cb cs : Nat} {B : Nat} {w : World} (h : In w B Ab As none cb cs 0 houseX []) :
    Calls Try.prog 37 #[.agg #[.slice Ab houseX.bars.length cb, .slice As houseX.steps.length cs], .agg #[.int .i64 410, .int .i64 420]] w fun e w' => e = .returned (.tuple #[.int .i64 3, .int .i64 0]) ∧ Below w.heap.size w w' := by
  have := heatCount_any Ab As cb cs houseX 410 420 B w h
  rw [houseMak, houseTot] at this
  exact this
theorem houseAsk_read {Ab As : Option Addr} {cb cs : Nat} {B : Nat} {w : World} (h : In w B Ab As none cb cs 0 houseX []) :
    Calls Try.prog 41 #[.agg #[.slice Ab houseX.bars.length cb, .slice As houseX.steps.length cs], .agg #[.int .i64 410, .int .i64 420]] w fun e w' => e = .returned (.tuple #[.int .i64 (-1), .int .i64 2, .int .i64 0]) ∧ Below w.heap.size w w' := by
  have := heatAsk_any Ab As cb cs houseX 410 420 B w h
  rw [houseAsk] at this
  exact this
theorem houseAgrees {Ab As Ar Ah : Option Addr} {cb cs cr ch B : Nat} {w : World} (h : In w B Ab As Ar cb cs cr houseX [0, 0]) (hh : IntsA .i64 w B Ah [180, 550, 410]) (c1 : 3 ≤ ch) (c2 : ch ≤ 9223372036854775807) :
    Calls Try.prog 31 #[.agg #[.slice Ab houseX.bars.length cb, .slice As houseX.steps.length cs], .agg #[.int .i64 1, .slice Ar 2 cr], .slice Ah 3 ch, .agg #[.int .i64 410, .int .i64 420]] w fun e w' => e = .returned (.bool true) ∧ Below w.heap.size w w' :=
  agrees_true Ab As Ar Ah cb cs cr ch houseX 1 [0, 0] [180, 550, 410] 410 420 B w h hh c1 c2 (Lib.hid houseRec1) (Lib.hid rfl) (Lib.hid houseHist3) (Lib.hid (by decide))
theorem wp_join {c : Code} {K : Act → World → Prop} {Q : Exit → Act → World → Prop} {a : Act} {w : World} (R : Act → Act → World → Prop) (h1 : c.wp Try.prog (Exit.then (R a) Q) a w) (h2 : ∀ a' w', R a a' w' → Exit.then K Q .normal a' w') : c.wp Try.prog (Exit.then K Q) a w :=
  Code.wp_mono (fun e a w h => by cases e <;> first | exact h2 _ _ h | exact h) h1
set_option maxRecDepth 100000 in
set_option maxHeartbeats 4000000 in
theorem works_any (w : World) : Calls Try.prog 16 #[] w fun e w' => e = .returned (.bool true) ∧ Below w.heap.size w w' := by
  go_enter Try.func16, Try.ntmps16
  go_wp2_with (first
    | (go_at_call 52; refine (house_any _).mono ?_; rintro e w1 ⟨Ab, As, cb, cs, rfl, hin, hb1⟩)
    | (go_at_call 48; refine (rg_any _ _ _).mono ?_; rintro e w2 ⟨rfl, hb2⟩; obtain ⟨sb, so, A1, c1, ws, rfl, hsb, hws, d1, l1, l2, hwsA⟩ := stepsA hin.steps (i := 1) (by decide); have hwe := house_ws hws; obtain ⟨kb, ko, A2, c2, ks, rfl, hkb, hks, d2, l3, l4, hksA⟩ := waysA hwsA (i := 0) (by rw [hwe.out]; simp); have hke := house_ks hwe hks; have i1 : (1 : Int) < (houseX.steps.length : Int) := (by decide); have i2 : (0 : Int) < (ws.length : Int) := (by rw [hwe.out]; simp); have z2 := hb2.size; have y1 : sb < w2.heap.size := (by omega); have y2 : kb < w2.heap.size := (by omega); have d1' := (hb2.cell (p := ⟨sb, so + 1, none⟩) hsb).trans d1; have d2' := (hb2.cell (p := ⟨kb, ko + 0, none⟩) hkb).trans d2; simp only [Nat.add_zero] at d2')
    | (go_at_call 17; refine (heatAfterX_any A2 c2 ks 420 w1.heap.size _ (kinks_on hksA (n := w1.heap.size) (by repeat (first | (with_reducible assumption) | (with_reducible exact Below.refl _ _) | ((with_reducible refine Below.alloc ?_ ?_ _); rotate_left; (focus (first | omega | (simp only [World.size_alloc, World.size_setCell, World.size_drew, World.heap_drewN]; first | done | omega)))) | ((with_reducible refine Below.setCell ?_ ?_ _); rotate_left; (focus (first | omega | (simp only [World.size_alloc, World.size_setCell, World.size_drew, World.heap_drewN]; first | done | omega)))) | (with_reducible refine below_drewN ?_ _) | (with_reducible refine Below.drew ?_) | ((with_reducible refine Below.trans ?_ (Below.mono (by assumption) ?_)); rotate_left; (focus (first | omega | (simp only [World.size_alloc, World.size_setCell, World.size_drew, World.heap_drewN]; first | done | omega)))))) (Nat.le_refl _)) l3 l4 (by (focus (first | omega | (simp only [World.size_alloc, World.size_setCell, World.size_drew, World.heap_drewN]; first | done | omega))))).mono ?_; rintro e w3 ⟨rfl, hb3⟩; rw [hke.out, houseAft]))
  have z1 := hb1.size
  have z3 := hb3.size
  simp only [World.size_alloc] at z3
  have hbW : Below w.heap.size w (w3.alloc (.cells #[.int .i64 280, .int .i64 400] 33)) := (by repeat (first | (with_reducible assumption) | (with_reducible exact Below.refl _ _) | ((with_reducible refine Below.alloc ?_ ?_ _); rotate_left; (focus (first | omega | (simp only [World.size_alloc, World.size_setCell, World.size_drew, World.heap_drewN]; first | done | omega)))) | ((with_reducible refine Below.setCell ?_ ?_ _); rotate_left; (focus (first | omega | (simp only [World.size_alloc, World.size_setCell, World.size_drew, World.heap_drewN]; first | done | omega)))) | (with_reducible refine below_drewN ?_ _) | (with_reducible refine Below.drew ?_) | ((with_reducible refine Below.trans ?_ (Below.mono (by assumption) ?_)); rotate_left; (focus (first | omega | (simp only [World.size_alloc, World.size_setCell, World.size_drew, World.heap_drewN]; first | done | omega))))))
  have hbW1 : Below w1.heap.size w1 (w3.alloc (.cells #[.int .i64 280, .int .i64 400] 33)) := (by repeat (first | (with_reducible assumption) | (with_reducible exact Below.refl _ _) | ((with_reducible refine Below.alloc ?_ ?_ _); rotate_left; (focus (first | omega | (simp only [World.size_alloc, World.size_setCell, World.size_drew, World.heap_drewN]; first | done | omega)))) | ((with_reducible refine Below.setCell ?_ ?_ _); rotate_left; (focus (first | omega | (simp only [World.size_alloc, World.size_setCell, World.size_drew, World.heap_drewN]; first | done | omega)))) | (with_reducible refine below_drewN ?_ _) | (with_reducible refine Below.drew ?_) | ((with_reducible refine Below.trans ?_ (Below.mono (by assumption) ?_)); rotate_left; (focus (first | omega | (simp only [World.size_alloc, World.size_setCell, World.size_drew, World.heap_drewN]; first | done | omega))))))
  have BW : Box (w3.alloc (.cells #[.int .i64 280, .int .i64 400] 33)) w2.heap.size 25 #[.slice Ab houseX.bars.length cb, .slice (some ⟨sb, so, none⟩) houseX.steps.length cs] := by (refine Box.of_f ?_; repeat (first | ((with_reducible refine BoxF.done (by with_reducible assumption) ?_); rfl) | ((with_reducible refine BoxF.new ?_ ?_); (focus (first | omega | (simp only [World.size_alloc, World.size_setCell, World.size_drew, World.heap_drewN]; first | done | omega))); rfl) | ((with_reducible refine BoxF.alloc ?_ ?_); (focus (first | omega | (simp only [World.size_alloc, World.size_setCell, World.size_drew, World.heap_drewN]; first | done | omega)))) | (with_reducible refine BoxF.set ?_) | ((with_reducible refine BoxF.far ?_ ?_); ((try simp only []); omega)) | (with_reducible refine BoxF.drewN ?_) | (with_reducible refine BoxF.drew ?_) | ((with_reducible refine BoxF.below (by with_reducible assumption) ?_ ?_); (focus (first | omega | (simp only [World.size_alloc, World.size_setCell, World.size_drew, World.heap_drewN]; first | done | omega))))))
  have BM : Box (w3.alloc (.cells #[.int .i64 280, .int .i64 400] 33)) (w2.heap.size + 1) 33 #[.int .i64 410, .int .i64 420] := by (refine Box.of_f ?_; repeat (first | ((with_reducible refine BoxF.done (by with_reducible assumption) ?_); rfl) | ((with_reducible refine BoxF.new ?_ ?_); (focus (first | omega | (simp only [World.size_alloc, World.size_setCell, World.size_drew, World.heap_drewN]; first | done | omega))); rfl) | ((with_reducible refine BoxF.alloc ?_ ?_); (focus (first | omega | (simp only [World.size_alloc, World.size_setCell, World.size_drew, World.heap_drewN]; first | done | omega)))) | (with_reducible refine BoxF.set ?_) | ((with_reducible refine BoxF.far ?_ ?_); ((try simp only []); omega)) | (with_reducible refine BoxF.drewN ?_) | (with_reducible refine BoxF.drew ?_) | ((with_reducible refine BoxF.below (by with_reducible assumption) ?_ ?_); (focus (first | omega | (simp only [World.size_alloc, World.size_setCell, World.size_drew, World.heap_drewN]; first | done | omega))))))
  have BA : Box (w3.alloc (.cells #[.int .i64 280, .int .i64 400] 33)) w3.heap.size 33 #[.int .i64 280, .int .i64 400] := Box.new _ _ _
  generalize w3.alloc (.cells #[.int .i64 280, .int .i64 400] 33) = W at hbW hbW1 BW BM BA ⊢
  generalize w2.heap.size = t1 at BW BM ⊢
  generalize w3.heap.size = t3 at BA ⊢
  clear d1 d2 d1' d2' hb2 hb3 y1 y2 z1 z2 z3 hksA hwsA hks hws hke hwe
  have q1 := BW.lt
  have q2 := BM.lt
  have q3 := BA.lt
  obtain ⟨c0, c1, f0, f1⟩ := BW.two
  have hS : ∀ V, Below W.heap.size W V → V.cell? ⟨t1, 0, none⟩ = some (.slice Ab houseX.bars.length cb) ∧ V.cell? ⟨t1, 0 + 1, none⟩ = some (.slice (some ⟨sb, so, none⟩) houseX.steps.length cs) := fun V hV => ⟨(Box.below BW hV q1).cell 0, (Box.below BW hV q1).cell 1⟩
  have HS := Lib.hid hS
  clear hS
  -- generated from here
  have hM : ∀ V, Below W.heap.size W V → V.cell? ⟨t1 + 1, 0, none⟩ = some (.int .i64 410) ∧ V.cell? ⟨t1 + 1, 0 + 1, none⟩ = some (.int .i64 420) := fun V hV => ⟨(Box.below BM hV q2).cell 0, (Box.below BM hV q2).cell 1⟩
  have HM := Lib.hid hM
  clear hM
  have hA : ∀ V, Below W.heap.size W V → V.cell? ⟨t3, 0, none⟩ = some (.int .i64 280) ∧ V.cell? ⟨t3, 0 + 1, none⟩ = some (.int .i64 400) := fun V hV => ⟨(Box.below BA hV q3).cell 0, (Box.below BA hV q3).cell 1⟩
  have HA := Lib.hid hA
  clear hA
  have hI : ∀ V, Below W.heap.size W V → In V V.heap.size Ab (some ⟨sb, so, none⟩) none cb cs 0 houseX [] := fun V hV => hin.with_ (hbW1.trans (hV.mono hbW1.size)) (fun h => absurd h (by simp)) (by simp) (by decide)
  have HI := Lib.hid hI
  clear hI hin hbW1 c0 c1 f0 f1 BW BM BA q1 q2 q3
  have g2 : Below W.heap.size W W := Below.refl _ _
  -- region 3
  refine wp_region_facts (F := ?_) [Fact.eq (.agg #[.slice Ab houseX.bars.length cb, .slice (some ⟨sb, so, none⟩) houseX.steps.length cs]), Fact.ints [0, 0], Fact.second (.int .i64 1) (Fact.ints [0, 0]), Fact.res (Fact.rgs [(150, 300), (400, 600), (200, 480)]) 0, Fact.res (Fact.rgs [(150, 300), (400, 600), (200, 480)]) 0, Fact.rgs [(150, 300), (400, 600), (200, 480)], Fact.eq (.int .i64 0), Fact.rgs [(150, 300), (400, 600), (200, 480)], Fact.eq (.int .i64 0)] (by kernel_rfl) (by kernel_rfl) (by kernel_rfl) (by intro x; simp only [List.map_cons, List.map_nil, putAll, Act.put, List.setIfInBounds_toArray, List.set_cons_zero, List.set_cons_succ, Nat.zero_add, Nat.reduceAdd]; rfl) ?_ ?_
  · refine StepsF.cons (fun x V hV hp K hK => ?_) ?_
    · obtain ⟨_c0, _c1⟩ := HS.out V (g2.trans (hV.mono g2.size))
      go_simp
      exact hK.out _ _ rfl (Below.refl _ _)
    refine StepsF.cons (fun x V hV hp K hK => ?_) ?_
    · go_simp
      exact hK.out _ _ (ints_box (l := [0, 0]) (Box.new _ _ _) (by simp) (by decide)) ((Below.refl _ _).alloc (Nat.le_refl _) _)
    refine StepsF.cons (fun x V hV hp K hK => ?_) ?_
    · obtain ⟨zA, zc, _hv, zk1, zk2, zks⟩ := depsAll_get hp 1 (by kernel_rfl); (try simp only [List.length_cons, List.length_nil, Nat.zero_add, Nat.reduceAdd] at _hv zk1); generalize x 1 = _y at _hv hK ⊢; subst _hv
      go_simp
      refine (recipe_laid _ _ _ _ _).mono ?_
      rintro e v1 ⟨rfl, hb⟩
      exact hK.out _ _ ⟨_, rfl, Fact.keep (Fact.ints [0, 0]) _ _ _ hb ⟨zA, zc, rfl, zk1, zk2, zks⟩⟩ hb
    refine StepsF.cons (fun x V hV hp K hK => ?_) ?_
    · have _e := depsAll_get hp 0 (by kernel_rfl); change x 0 = _ at _e; generalize x 0 = _y at _e hK ⊢; subst _e
      obtain ⟨_u, _hu, _A, _c, _hv, _k1, _k2, _ks⟩ := depsAll_get hp 2 (by kernel_rfl); (try simp only [List.length_cons, List.length_nil, Nat.zero_add, Nat.reduceAdd] at _hv _k1); subst _hv; generalize x 2 = _y at _hu hK ⊢; subst _hu
      go_simp
      refine Calls.mono (houseRanges_read ((HI.out V (g2.trans (hV.mono g2.size))).with_ (Below.refl _ _) _ks _k1 _k2)) ?_
      rintro e v1 ⟨v, rfl, hv, hb⟩
      exact hK.out _ _ hv hb
    refine StepsF.cons (fun x V hV hp K hK => ?_) ?_
    · obtain ⟨_u, _hu, _H⟩ := depsAll_get hp 3 (by kernel_rfl); replace _H := Lib.hid _H; generalize x 3 = _y at _hu hK ⊢; subst _hu
      go_simp
      exact hK.out _ _ ⟨_u, rfl, _H.out.1, _H.out.2⟩ (Below.refl _ _)
    refine StepsF.cons (fun x V hV hp K hK => ?_) ?_
    · obtain ⟨_u, _hu, _H⟩ := depsAll_get hp 4 (by kernel_rfl); replace _H := Lib.hid _H; generalize x 4 = _y at _hu hK ⊢; subst _hu
      go_simp
      exact hK.out _ _ (_H.out.1 rfl) (Below.refl _ _)
    refine StepsF.cons (fun x V hV hp K hK => ?_) ?_
    · obtain ⟨_u, _hu, _H⟩ := depsAll_get hp 4 (by kernel_rfl); replace _H := Lib.hid _H; generalize x 4 = _y at _hu hK ⊢; subst _hu
      go_simp
      exact hK.out _ _ rfl (Below.refl _ _)
    refine StepsF.cons (fun x V hV hp K hK => ?_) ?_
    · have _p := depsAll_get hp 5 (by kernel_rfl)
      go_simp
      exact hK.out _ _ _p (Below.refl _ _)
    refine StepsF.cons (fun x V hV hp K hK => ?_) ?_
    · have _e := depsAll_get hp 6 (by kernel_rfl); change x 6 = _ at _e; generalize x 6 = _y at _e hK ⊢; subst _e
      go_simp
      exact hK.out _ _ rfl (Below.refl _ _)
    exact StepsF.nil
  intro x v3 hV hall
  have g3 : Below W.heap.size W v3 := g2.trans (hV.mono g2.size)
  have _e := hall 8 (by decide)
  change x 8 = _ at _e
  generalize x 8 = _y at _e ⊢
  subst _e
  have p3 := hall 7 (by decide)
  generalize x 7 = r3 at p3 ⊢
  have P3 := Lib.hid p3
  clear p3
  have D3 := Lib.hid hV
  clear hV hall
  go_wp2_with fail
  -- region 4
  refine wp_region_facts (F := ?_) [Fact.eq (.agg #[.slice Ab houseX.bars.length cb, .slice (some ⟨sb, so, none⟩) houseX.steps.length cs]), Fact.ints [0, 0], Fact.second (.int .i64 1) (Fact.ints [0, 0]), Fact.ints [200, 560, 415], Fact.eq (.int .i64 0), Fact.eq (.int .i64 0)] (by kernel_rfl) (by kernel_rfl) (by kernel_rfl) (by intro x; simp only [List.map_cons, List.map_nil, putAll, Act.put, List.setIfInBounds_toArray, List.set_cons_zero, List.set_cons_succ, Nat.zero_add, Nat.reduceAdd]; rfl) ?_ ?_
  · refine StepsF.cons (fun x V hV hp K hK => ?_) ?_
    · obtain ⟨_c0, _c1⟩ := HS.out V (g3.trans (hV.mono g3.size))
      go_simp
      exact hK.out _ _ rfl (Below.refl _ _)
    refine StepsF.cons (fun x V hV hp K hK => ?_) ?_
    · go_simp
      exact hK.out _ _ (ints_box (l := [0, 0]) (Box.new _ _ _) (by simp) (by decide)) ((Below.refl _ _).alloc (Nat.le_refl _) _)
    refine StepsF.cons (fun x V hV hp K hK => ?_) ?_
    · obtain ⟨zA, zc, _hv, zk1, zk2, zks⟩ := depsAll_get hp 1 (by kernel_rfl); (try simp only [List.length_cons, List.length_nil, Nat.zero_add, Nat.reduceAdd] at _hv zk1); generalize x 1 = _y at _hv hK ⊢; subst _hv
      go_simp
      refine (recipe_laid _ _ _ _ _).mono ?_
      rintro e v1 ⟨rfl, hb⟩
      exact hK.out _ _ ⟨_, rfl, Fact.keep (Fact.ints [0, 0]) _ _ _ hb ⟨zA, zc, rfl, zk1, zk2, zks⟩⟩ hb
    refine StepsF.cons (fun x V hV hp K hK => ?_) ?_
    · go_simp
      exact hK.out _ _ (ints_box (l := [200, 560, 415]) (Box.new _ _ _) (by simp) (by decide)) ((Below.refl _ _).alloc (Nat.le_refl _) _)
    refine StepsF.cons (fun x V hV hp K hK => ?_) ?_
    · have _e := depsAll_get hp 0 (by kernel_rfl); change x 0 = _ at _e; generalize x 0 = _y at _e hK ⊢; subst _e
      obtain ⟨yA, yc, _hv, yk1, yk2, yks⟩ := depsAll_get hp 3 (by kernel_rfl); (try simp only [List.length_cons, List.length_nil, Nat.zero_add, Nat.reduceAdd] at _hv yk1); generalize x 3 = _y at _hv hK ⊢; subst _hv
      obtain ⟨_u, _hu, _A, _c, _hv, _k1, _k2, _ks⟩ := depsAll_get hp 2 (by kernel_rfl); (try simp only [List.length_cons, List.length_nil, Nat.zero_add, Nat.reduceAdd] at _hv _k1); subst _hv; generalize x 2 = _y at _hu hK ⊢; subst _hu
      go_simp
      refine Calls.mono (houseCheck houseHist1 ((HI.out V (g3.trans (hV.mono g3.size))).with_ (Below.refl _ _) _ks _k1 _k2) yks yk1 yk2) ?_
      rintro e v1 ⟨v, rfl, hv, hb⟩
      exact hK.out _ _ hv hb
    refine StepsF.cons (fun x V hV hp K hK => ?_) ?_
    · have _e := depsAll_get hp 4 (by kernel_rfl); change x 4 = _ at _e; generalize x 4 = _y at _e hK ⊢; subst _e
      go_simp
      exact hK.out _ _ rfl (Below.refl _ _)
    exact StepsF.nil
  intro x v4 hV hall
  have g4 : Below W.heap.size W v4 := g3.trans (hV.mono g3.size)
  have _e := hall 5 (by decide)
  change x 5 = _ at _e
  generalize x 5 = _y at _e ⊢
  subst _e
  have D4 := Lib.hid hV
  clear hV hall
  go_wp2_with fail
  -- region 5
  refine wp_region_facts (F := ?_) [Fact.eq (.agg #[.slice Ab houseX.bars.length cb, .slice (some ⟨sb, so, none⟩) houseX.steps.length cs]), Fact.ints [0, 0], Fact.second (.int .i64 1) (Fact.ints [0, 0]), Fact.ints [160, 560, 415], Fact.eq (.int .i64 16), Fact.eq (.int .i64 16)] (by kernel_rfl) (by kernel_rfl) (by kernel_rfl) (by intro x; simp only [List.map_cons, List.map_nil, putAll, Act.put, List.setIfInBounds_toArray, List.set_cons_zero, List.set_cons_succ, Nat.zero_add, Nat.reduceAdd]; rfl) ?_ ?_
  · refine StepsF.cons (fun x V hV hp K hK => ?_) ?_
    · obtain ⟨_c0, _c1⟩ := HS.out V (g4.trans (hV.mono g4.size))
      go_simp
      exact hK.out _ _ rfl (Below.refl _ _)
    refine StepsF.cons (fun x V hV hp K hK => ?_) ?_
    · go_simp
      exact hK.out _ _ (ints_box (l := [0, 0]) (Box.new _ _ _) (by simp) (by decide)) ((Below.refl _ _).alloc (Nat.le_refl _) _)
    refine StepsF.cons (fun x V hV hp K hK => ?_) ?_
    · obtain ⟨zA, zc, _hv, zk1, zk2, zks⟩ := depsAll_get hp 1 (by kernel_rfl); (try simp only [List.length_cons, List.length_nil, Nat.zero_add, Nat.reduceAdd] at _hv zk1); generalize x 1 = _y at _hv hK ⊢; subst _hv
      go_simp
      refine (recipe_laid _ _ _ _ _).mono ?_
      rintro e v1 ⟨rfl, hb⟩
      exact hK.out _ _ ⟨_, rfl, Fact.keep (Fact.ints [0, 0]) _ _ _ hb ⟨zA, zc, rfl, zk1, zk2, zks⟩⟩ hb
    refine StepsF.cons (fun x V hV hp K hK => ?_) ?_
    · go_simp
      exact hK.out _ _ (ints_box (l := [160, 560, 415]) (Box.new _ _ _) (by simp) (by decide)) ((Below.refl _ _).alloc (Nat.le_refl _) _)
    refine StepsF.cons (fun x V hV hp K hK => ?_) ?_
    · have _e := depsAll_get hp 0 (by kernel_rfl); change x 0 = _ at _e; generalize x 0 = _y at _e hK ⊢; subst _e
      obtain ⟨yA, yc, _hv, yk1, yk2, yks⟩ := depsAll_get hp 3 (by kernel_rfl); (try simp only [List.length_cons, List.length_nil, Nat.zero_add, Nat.reduceAdd] at _hv yk1); generalize x 3 = _y at _hv hK ⊢; subst _hv
      obtain ⟨_u, _hu, _A, _c, _hv, _k1, _k2, _ks⟩ := depsAll_get hp 2 (by kernel_rfl); (try simp only [List.length_cons, List.length_nil, Nat.zero_add, Nat.reduceAdd] at _hv _k1); subst _hv; generalize x 2 = _y at _hu hK ⊢; subst _hu
      go_simp
      refine Calls.mono (houseCheck houseHist2 ((HI.out V (g4.trans (hV.mono g4.size))).with_ (Below.refl _ _) _ks _k1 _k2) yks yk1 yk2) ?_
      rintro e v1 ⟨v, rfl, hv, hb⟩
      exact hK.out _ _ hv hb
    refine StepsF.cons (fun x V hV hp K hK => ?_) ?_
    · have _e := depsAll_get hp 4 (by kernel_rfl); change x 4 = _ at _e; generalize x 4 = _y at _e hK ⊢; subst _e
      go_simp
      exact hK.out _ _ rfl (Below.refl _ _)
    exact StepsF.nil
  intro x v5 hV hall
  have g5 : Below W.heap.size W v5 := g4.trans (hV.mono g4.size)
  have _e := hall 5 (by decide)
  change x 5 = _ at _e
  generalize x 5 = _y at _e ⊢
  subst _e
  have D5 := Lib.hid hV
  clear hV hall
  go_wp2_with fail
  -- region 6
  refine wp_region_facts (F := ?_) [Fact.eq (.agg #[.slice Ab houseX.bars.length cb, .slice (some ⟨sb, so, none⟩) houseX.steps.length cs]), Fact.ints [0, 0], Fact.second (.int .i64 1) (Fact.ints [0, 0]), Fact.eq (.agg #[.int .i64 410, .int .i64 420]), Fact.res (Fact.ints [180, 550, 410]) 0, Fact.res (Fact.ints [180, 550, 410]) 0, Fact.ints [180, 550, 410], Fact.eq (.int .i64 0), Fact.ints [180, 550, 410], Fact.eq (.int .i64 0)] (by kernel_rfl) (by kernel_rfl) (by kernel_rfl) (by intro x; simp only [List.map_cons, List.map_nil, putAll, Act.put, List.setIfInBounds_toArray, List.set_cons_zero, List.set_cons_succ, Nat.zero_add, Nat.reduceAdd]; rfl) ?_ ?_
  · refine StepsF.cons (fun x V hV hp K hK => ?_) ?_
    · obtain ⟨_c0, _c1⟩ := HS.out V (g5.trans (hV.mono g5.size))
      go_simp
      exact hK.out _ _ rfl (Below.refl _ _)
    refine StepsF.cons (fun x V hV hp K hK => ?_) ?_
    · go_simp
      exact hK.out _ _ (ints_box (l := [0, 0]) (Box.new _ _ _) (by simp) (by decide)) ((Below.refl _ _).alloc (Nat.le_refl _) _)
    refine StepsF.cons (fun x V hV hp K hK => ?_) ?_
    · obtain ⟨zA, zc, _hv, zk1, zk2, zks⟩ := depsAll_get hp 1 (by kernel_rfl); (try simp only [List.length_cons, List.length_nil, Nat.zero_add, Nat.reduceAdd] at _hv zk1); generalize x 1 = _y at _hv hK ⊢; subst _hv
      go_simp
      refine (recipe_laid _ _ _ _ _).mono ?_
      rintro e v1 ⟨rfl, hb⟩
      exact hK.out _ _ ⟨_, rfl, Fact.keep (Fact.ints [0, 0]) _ _ _ hb ⟨zA, zc, rfl, zk1, zk2, zks⟩⟩ hb
    refine StepsF.cons (fun x V hV hp K hK => ?_) ?_
    · obtain ⟨_c0, _c1⟩ := HM.out V (g5.trans (hV.mono g5.size))
      go_simp
      exact hK.out _ _ rfl (Below.refl _ _)
    refine StepsF.cons (fun x V hV hp K hK => ?_) ?_
    · have _e := depsAll_get hp 0 (by kernel_rfl); change x 0 = _ at _e; generalize x 0 = _y at _e hK ⊢; subst _e
      have _e := depsAll_get hp 3 (by kernel_rfl); change x 3 = _ at _e; generalize x 3 = _y at _e hK ⊢; subst _e
      obtain ⟨_u, _hu, _A, _c, _hv, _k1, _k2, _ks⟩ := depsAll_get hp 2 (by kernel_rfl); (try simp only [List.length_cons, List.length_nil, Nat.zero_add, Nat.reduceAdd] at _hv _k1); subst _hv; generalize x 2 = _y at _hu hK ⊢; subst _hu
      go_simp
      refine Calls.mono (houseHistory_read ((HI.out V (g5.trans (hV.mono g5.size))).with_ (Below.refl _ _) _ks _k1 _k2)) ?_
      rintro e v1 ⟨v, rfl, hv, hb⟩
      exact hK.out _ _ hv hb
    refine StepsF.cons (fun x V hV hp K hK => ?_) ?_
    · obtain ⟨_u, _hu, _H⟩ := depsAll_get hp 4 (by kernel_rfl); replace _H := Lib.hid _H; generalize x 4 = _y at _hu hK ⊢; subst _hu
      go_simp
      exact hK.out _ _ ⟨_u, rfl, _H.out.1, _H.out.2⟩ (Below.refl _ _)
    refine StepsF.cons (fun x V hV hp K hK => ?_) ?_
    · obtain ⟨_u, _hu, _H⟩ := depsAll_get hp 5 (by kernel_rfl); replace _H := Lib.hid _H; generalize x 5 = _y at _hu hK ⊢; subst _hu
      go_simp
      exact hK.out _ _ (_H.out.1 rfl) (Below.refl _ _)
    refine StepsF.cons (fun x V hV hp K hK => ?_) ?_
    · obtain ⟨_u, _hu, _H⟩ := depsAll_get hp 5 (by kernel_rfl); replace _H := Lib.hid _H; generalize x 5 = _y at _hu hK ⊢; subst _hu
      go_simp
      exact hK.out _ _ rfl (Below.refl _ _)
    refine StepsF.cons (fun x V hV hp K hK => ?_) ?_
    · have _p := depsAll_get hp 6 (by kernel_rfl)
      go_simp
      exact hK.out _ _ _p (Below.refl _ _)
    refine StepsF.cons (fun x V hV hp K hK => ?_) ?_
    · have _e := depsAll_get hp 7 (by kernel_rfl); change x 7 = _ at _e; generalize x 7 = _y at _e hK ⊢; subst _e
      go_simp
      exact hK.out _ _ rfl (Below.refl _ _)
    exact StepsF.nil
  intro x v6 hV hall
  have g6 : Below W.heap.size W v6 := g5.trans (hV.mono g5.size)
  have _e := hall 9 (by decide)
  change x 9 = _ at _e
  generalize x 9 = _y at _e ⊢
  subst _e
  have p6 := hall 8 (by decide)
  generalize x 8 = r6 at p6 ⊢
  have P6 := Lib.hid p6
  clear p6
  have D6 := Lib.hid hV
  clear hV hall
  go_wp2_with fail
  -- region 7
  refine wp_region_facts (F := ?_) [Fact.eq (.agg #[.slice Ab houseX.bars.length cb, .slice (some ⟨sb, so, none⟩) houseX.steps.length cs]), Fact.ints [0, 0], Fact.second (.int .i64 0) (Fact.ints [0, 0]), Fact.eq (.agg #[.int .i64 410, .int .i64 420]), Fact.res (Fact.any) 17, Fact.res (Fact.any) 17, Fact.any, Fact.eq (.int .i64 17), Fact.any, Fact.eq (.int .i64 17)] (by kernel_rfl) (by kernel_rfl) (by kernel_rfl) (by intro x; simp only [List.map_cons, List.map_nil, putAll, Act.put, List.setIfInBounds_toArray, List.set_cons_zero, List.set_cons_succ, Nat.zero_add, Nat.reduceAdd]; rfl) ?_ ?_
  · refine StepsF.cons (fun x V hV hp K hK => ?_) ?_
    · obtain ⟨_c0, _c1⟩ := HS.out V (g6.trans (hV.mono g6.size))
      go_simp
      exact hK.out _ _ rfl (Below.refl _ _)
    refine StepsF.cons (fun x V hV hp K hK => ?_) ?_
    · go_simp
      exact hK.out _ _ (ints_box (l := [0, 0]) (Box.new _ _ _) (by simp) (by decide)) ((Below.refl _ _).alloc (Nat.le_refl _) _)
    refine StepsF.cons (fun x V hV hp K hK => ?_) ?_
    · obtain ⟨zA, zc, _hv, zk1, zk2, zks⟩ := depsAll_get hp 1 (by kernel_rfl); (try simp only [List.length_cons, List.length_nil, Nat.zero_add, Nat.reduceAdd] at _hv zk1); generalize x 1 = _y at _hv hK ⊢; subst _hv
      go_simp
      refine (recipe_laid _ _ _ _ _).mono ?_
      rintro e v1 ⟨rfl, hb⟩
      exact hK.out _ _ ⟨_, rfl, Fact.keep (Fact.ints [0, 0]) _ _ _ hb ⟨zA, zc, rfl, zk1, zk2, zks⟩⟩ hb
    refine StepsF.cons (fun x V hV hp K hK => ?_) ?_
    · obtain ⟨_c0, _c1⟩ := HM.out V (g6.trans (hV.mono g6.size))
      go_simp
      exact hK.out _ _ rfl (Below.refl _ _)
    refine StepsF.cons (fun x V hV hp K hK => ?_) ?_
    · have _e := depsAll_get hp 0 (by kernel_rfl); change x 0 = _ at _e; generalize x 0 = _y at _e hK ⊢; subst _e
      have _e := depsAll_get hp 3 (by kernel_rfl); change x 3 = _ at _e; generalize x 3 = _y at _e hK ⊢; subst _e
      obtain ⟨_u, _hu, _A, _c, _hv, _k1, _k2, _ks⟩ := depsAll_get hp 2 (by kernel_rfl); (try simp only [List.length_cons, List.length_nil, Nat.zero_add, Nat.reduceAdd] at _hv _k1); subst _hv; generalize x 2 = _y at _hu hK ⊢; subst _hu
      go_simp
      refine Calls.mono (houseHistory0_read ((HI.out V (g6.trans (hV.mono g6.size))).with_ (Below.refl _ _) _ks _k1 _k2)) ?_
      rintro e v1 ⟨v, rfl, hv, hb⟩
      exact hK.out _ _ hv hb
    refine StepsF.cons (fun x V hV hp K hK => ?_) ?_
    · obtain ⟨_u, _hu, _H⟩ := depsAll_get hp 4 (by kernel_rfl); replace _H := Lib.hid _H; generalize x 4 = _y at _hu hK ⊢; subst _hu
      go_simp
      exact hK.out _ _ ⟨_u, rfl, _H.out.1, _H.out.2⟩ (Below.refl _ _)
    refine StepsF.cons (fun x V hV hp K hK => ?_) ?_
    · obtain ⟨_u, _hu, _H⟩ := depsAll_get hp 5 (by kernel_rfl); replace _H := Lib.hid _H; generalize x 5 = _y at _hu hK ⊢; subst _hu
      go_simp
      exact hK.out _ _ (trivial) (Below.refl _ _)
    refine StepsF.cons (fun x V hV hp K hK => ?_) ?_
    · obtain ⟨_u, _hu, _H⟩ := depsAll_get hp 5 (by kernel_rfl); replace _H := Lib.hid _H; generalize x 5 = _y at _hu hK ⊢; subst _hu
      go_simp
      exact hK.out _ _ rfl (Below.refl _ _)
    refine StepsF.cons (fun x V hV hp K hK => ?_) ?_
    · have _p := depsAll_get hp 6 (by kernel_rfl)
      go_simp
      exact hK.out _ _ _p (Below.refl _ _)
    refine StepsF.cons (fun x V hV hp K hK => ?_) ?_
    · have _e := depsAll_get hp 7 (by kernel_rfl); change x 7 = _ at _e; generalize x 7 = _y at _e hK ⊢; subst _e
      go_simp
      exact hK.out _ _ rfl (Below.refl _ _)
    exact StepsF.nil
  intro x v7 hV hall
  have g7 : Below W.heap.size W v7 := g6.trans (hV.mono g6.size)
  have _e := hall 9 (by decide)
  change x 9 = _ at _e
  generalize x 9 = _y at _e ⊢
  subst _e
  have p7 := hall 8 (by decide)
  generalize x 8 = r7 at p7 ⊢
  have P7 := Lib.hid p7
  clear p7
  have D7 := Lib.hid hV
  clear hV hall
  go_wp2_with fail
  -- region 8
  refine wp_region_facts (F := ?_) [Fact.eq (.agg #[.slice Ab houseX.bars.length cb, .slice (some ⟨sb, so, none⟩) houseX.steps.length cs]), Fact.ints [0, 0], Fact.second (.int .i64 1) (Fact.ints [0, 0]), Fact.eq (.agg #[.int .i64 410, .int .i64 420]), Fact.res (Fact.rgs [(180, 300), (550, 600), (410, 420)]) 0, Fact.res (Fact.rgs [(180, 300), (550, 600), (410, 420)]) 0, Fact.rgs [(180, 300), (550, 600), (410, 420)], Fact.eq (.int .i64 0), Fact.rgs [(180, 300), (550, 600), (410, 420)], Fact.eq (.int .i64 0)] (by kernel_rfl) (by kernel_rfl) (by kernel_rfl) (by intro x; simp only [List.map_cons, List.map_nil, putAll, Act.put, List.setIfInBounds_toArray, List.set_cons_zero, List.set_cons_succ, Nat.zero_add, Nat.reduceAdd]; rfl) ?_ ?_
  · refine StepsF.cons (fun x V hV hp K hK => ?_) ?_
    · obtain ⟨_c0, _c1⟩ := HS.out V (g7.trans (hV.mono g7.size))
      go_simp
      exact hK.out _ _ rfl (Below.refl _ _)
    refine StepsF.cons (fun x V hV hp K hK => ?_) ?_
    · go_simp
      exact hK.out _ _ (ints_box (l := [0, 0]) (Box.new _ _ _) (by simp) (by decide)) ((Below.refl _ _).alloc (Nat.le_refl _) _)
    refine StepsF.cons (fun x V hV hp K hK => ?_) ?_
    · obtain ⟨zA, zc, _hv, zk1, zk2, zks⟩ := depsAll_get hp 1 (by kernel_rfl); (try simp only [List.length_cons, List.length_nil, Nat.zero_add, Nat.reduceAdd] at _hv zk1); generalize x 1 = _y at _hv hK ⊢; subst _hv
      go_simp
      refine (recipe_laid _ _ _ _ _).mono ?_
      rintro e v1 ⟨rfl, hb⟩
      exact hK.out _ _ ⟨_, rfl, Fact.keep (Fact.ints [0, 0]) _ _ _ hb ⟨zA, zc, rfl, zk1, zk2, zks⟩⟩ hb
    refine StepsF.cons (fun x V hV hp K hK => ?_) ?_
    · obtain ⟨_c0, _c1⟩ := HM.out V (g7.trans (hV.mono g7.size))
      go_simp
      exact hK.out _ _ rfl (Below.refl _ _)
    refine StepsF.cons (fun x V hV hp K hK => ?_) ?_
    · have _e := depsAll_get hp 0 (by kernel_rfl); change x 0 = _ at _e; generalize x 0 = _y at _e hK ⊢; subst _e
      have _e := depsAll_get hp 3 (by kernel_rfl); change x 3 = _ at _e; generalize x 3 = _y at _e hK ⊢; subst _e
      obtain ⟨_u, _hu, _A, _c, _hv, _k1, _k2, _ks⟩ := depsAll_get hp 2 (by kernel_rfl); (try simp only [List.length_cons, List.length_nil, Nat.zero_add, Nat.reduceAdd] at _hv _k1); subst _hv; generalize x 2 = _y at _hu hK ⊢; subst _hu
      go_simp
      refine Calls.mono (houseHad_read ((HI.out V (g7.trans (hV.mono g7.size))).with_ (Below.refl _ _) _ks _k1 _k2)) ?_
      rintro e v1 ⟨v, rfl, hv, hb⟩
      exact hK.out _ _ hv hb
    refine StepsF.cons (fun x V hV hp K hK => ?_) ?_
    · obtain ⟨_u, _hu, _H⟩ := depsAll_get hp 4 (by kernel_rfl); replace _H := Lib.hid _H; generalize x 4 = _y at _hu hK ⊢; subst _hu
      go_simp
      exact hK.out _ _ ⟨_u, rfl, _H.out.1, _H.out.2⟩ (Below.refl _ _)
    refine StepsF.cons (fun x V hV hp K hK => ?_) ?_
    · obtain ⟨_u, _hu, _H⟩ := depsAll_get hp 5 (by kernel_rfl); replace _H := Lib.hid _H; generalize x 5 = _y at _hu hK ⊢; subst _hu
      go_simp
      exact hK.out _ _ (_H.out.1 rfl) (Below.refl _ _)
    refine StepsF.cons (fun x V hV hp K hK => ?_) ?_
    · obtain ⟨_u, _hu, _H⟩ := depsAll_get hp 5 (by kernel_rfl); replace _H := Lib.hid _H; generalize x 5 = _y at _hu hK ⊢; subst _hu
      go_simp
      exact hK.out _ _ rfl (Below.refl _ _)
    refine StepsF.cons (fun x V hV hp K hK => ?_) ?_
    · have _p := depsAll_get hp 6 (by kernel_rfl)
      go_simp
      exact hK.out _ _ _p (Below.refl _ _)
    refine StepsF.cons (fun x V hV hp K hK => ?_) ?_
    · have _e := depsAll_get hp 7 (by kernel_rfl); change x 7 = _ at _e; generalize x 7 = _y at _e hK ⊢; subst _e
      go_simp
      exact hK.out _ _ rfl (Below.refl _ _)
    exact StepsF.nil
  intro x v8 hV hall
  have g8 : Below W.heap.size W v8 := g7.trans (hV.mono g7.size)
  have _e := hall 9 (by decide)
  change x 9 = _ at _e
  generalize x 9 = _y at _e ⊢
  subst _e
  have p8 := hall 8 (by decide)
  generalize x 8 = r8 at p8 ⊢
  have P8 := Lib.hid p8
  clear p8
  have D8 := Lib.hid hV
  clear hV hall
  obtain ⟨a0, a1⟩ := HS.out v8 g8
  obtain ⟨b0, b1⟩ := HM.out v8 g8
  go_wp2_with (first
    | (go_at_call 33; refine Calls.mono (houseBars_read (HI.out _ g8)) ?_; rintro e v9 ⟨_, rfl, ⟨r9, rfl, p9, -⟩, hb⟩; have g9 := g8.trans (hb.mono (Below.size g8)); have P9 := Lib.hid (p9 rfl); clear p9; have D9 := Lib.hid hb; clear hb; obtain ⟨a0, a1⟩ := HS.out _ g9; obtain ⟨b0, b1⟩ := HM.out _ g9)
    | (go_at_call 35; refine Calls.mono (houseWays_read (HI.out _ g9)) ?_; rintro e v10 ⟨_, rfl, ⟨r10, rfl, p10, -⟩, hb⟩; have g10 := g9.trans (hb.mono (Below.size g9)); have P10 := Lib.hid (p10 rfl); clear p10; have D10 := Lib.hid hb; clear hb; obtain ⟨a0, a1⟩ := HS.out _ g10; obtain ⟨b0, b1⟩ := HM.out _ g10)
    | (go_at_call 37; refine Calls.mono (houseCount_read (HI.out _ g10)) ?_; rintro e v11 ⟨rfl, hb⟩; have g11 := g10.trans (hb.mono (Below.size g10)); have D11 := Lib.hid hb; clear hb; obtain ⟨a0, a1⟩ := HS.out _ g11; obtain ⟨b0, b1⟩ := HM.out _ g11)
    | (go_at_call 41; refine Calls.mono (houseAsk_read (HI.out _ g11)) ?_; rintro e v12 ⟨rfl, hb⟩; have g12 := g11.trans (hb.mono (Below.size g11)); have D12 := Lib.hid hb; clear hb; obtain ⟨a0, a1⟩ := HS.out _ g12; obtain ⟨b0, b1⟩ := HM.out _ g12))
  have K3 : Hid (Below v3.heap.size v3 v12) := Lib.hid (below_on (below_on (below_on (below_on (below_on (below_on (below_on (below_on D4.out D5.out) D6.out) D7.out) D8.out) D9.out) D10.out) D11.out) D12.out)
  have K6 : Hid (Below v6.heap.size v6 v12) := Lib.hid (below_on (below_on (below_on (below_on (below_on D7.out D8.out) D9.out) D10.out) D11.out) D12.out)
  have K8 : Hid (Below v8.heap.size v8 v12) := Lib.hid (below_on (below_on (below_on D9.out D10.out) D11.out) D12.out)
  have K9 : Hid (Below v9.heap.size v9 v12) := Lib.hid (below_on (below_on D10.out D11.out) D12.out)
  have K10 : Hid (Below v10.heap.size v10 v12) := Lib.hid (below_on D11.out D12.out)
  clear D3 D4 D5 D6 D7 D8 D9 D10 D11 D12 a0 a1 b0 b1
  -- region 15
  refine wp_region_facts (F := ?_) [Fact.eq (.agg #[.int .i64 280, .int .i64 400]), Fact.eq (.agg #[.int .i64 280, .int .i64 400]), Fact.eq (.bool true), Fact.eq (.bool true), Fact.rgs [(150, 300), (400, 600), (200, 480)], Fact.eq (.agg #[.int .i64 150, .int .i64 300]), Fact.eq (.agg #[.int .i64 400, .int .i64 600]), Fact.eq (.agg #[.int .i64 200, .int .i64 480]), Fact.rgs [(150, 300), (400, 600), (200, 480)], Fact.eq (.bool true), Fact.eq (.bool true), Fact.eq (.bool true), Fact.eq (.agg #[.slice Ab houseX.bars.length cb, .slice (some ⟨sb, so, none⟩) houseX.steps.length cs]), Fact.ints [0, 0], Fact.second (.int .i64 1) (Fact.ints [0, 0]), Fact.ints [180, 550, 410], Fact.eq (.agg #[.int .i64 410, .int .i64 420]), Fact.eq (.bool true), Fact.eq (.bool true), Fact.eq (.bool true), Fact.rgs [(180, 300), (550, 600), (410, 420)], Fact.eq (.agg #[.int .i64 180, .int .i64 300]), Fact.eq (.agg #[.int .i64 550, .int .i64 600]), Fact.eq (.agg #[.int .i64 410, .int .i64 420]), Fact.rgs [(180, 300), (550, 600), (410, 420)], Fact.eq (.bool true), Fact.eq (.bool true), Fact.eq (.bool true), Fact.ints [0, 1], Fact.ints [0, 1], Fact.eq (.bool true), Fact.eq (.bool true), Fact.eq (.bool true), Fact.lists [[0, 1], [0]], Fact.ints [0, 1], Fact.ints [0], Fact.lists [[0, 1], [0]], Fact.eq (.bool true), Fact.eq (.bool true), Fact.eq (.bool true), Fact.eq (.int .i64 (3)), Fact.eq (.bool true), Fact.eq (.bool true), Fact.eq (.bool true), Fact.eq (.int .i64 (-1)), Fact.eq (.bool true), Fact.eq (.bool true), Fact.eq (.bool true), Fact.eq (.int .i64 (2)), Fact.eq (.bool true), Fact.eq (.bool true), Fact.eq (.bool true)] (by kernel_rfl) (by kernel_rfl) (by kernel_rfl) (by intro x; simp only [List.map_cons, List.map_nil, putAll, Act.put, List.setIfInBounds_toArray, List.set_cons_zero, List.set_cons_succ, Nat.zero_add, Nat.reduceAdd]; rfl) ?_ ?_
  · refine StepsF.cons (fun x V hV hp K hK => ?_) ?_
    · obtain ⟨_c0, _c1⟩ := HA.out V (g12.trans (hV.mono g12.size))
      go_simp
      exact hK.out _ _ rfl (Below.refl _ _)
    refine StepsF.cons (fun x V hV hp K hK => ?_) ?_
    · go_simp
      refine Calls.mono (rg_any 280 400 _) ?_
      rintro e v1 ⟨rfl, hb⟩
      exact hK.out _ _ rfl hb
    refine StepsF.cons (fun x V hV hp K hK => ?_) ?_
    · have _e := depsAll_get hp 0 (by kernel_rfl); change x 0 = _ at _e; generalize x 0 = _y at _e hK ⊢; subst _e
      have _e := depsAll_get hp 1 (by kernel_rfl); change x 1 = _ at _e; generalize x 1 = _y at _e hK ⊢; subst _e
      go_simp
      exact hK.out _ _ rfl (Below.refl _ _)
    refine StepsF.cons (fun x V hV hp K hK => ?_) ?_
    · have _e := depsAll_get hp 2 (by kernel_rfl); change x 2 = _ at _e; generalize x 2 = _y at _e hK ⊢; subst _e
      go_simp
      exact hK.out _ _ rfl (Below.refl _ _)
    refine StepsF.cons (fun x V hV hp K hK => ?_) ?_
    · have _e := depsAll_get hp 3 (by kernel_rfl); change x 3 = _ at _e; generalize x 3 = _y at _e hK ⊢; subst _e
      go_simp
      exact hK.out _ _ (Fact.keep (Fact.rgs [(150, 300), (400, 600), (200, 480)]) _ _ _ ((K3.out).trans (hV.mono (K3.out).size)) P3.out) (Below.refl _ _)
    refine StepsF.cons (fun x V hV hp K hK => ?_) ?_
    · have _e := depsAll_get hp 3 (by kernel_rfl); change x 3 = _ at _e; generalize x 3 = _y at _e hK ⊢; subst _e
      go_simp
      refine Calls.mono (rg_any 150 300 _) ?_
      rintro e v1 ⟨rfl, hb⟩
      exact hK.out _ _ rfl hb
    refine StepsF.cons (fun x V hV hp K hK => ?_) ?_
    · have _e := depsAll_get hp 3 (by kernel_rfl); change x 3 = _ at _e; generalize x 3 = _y at _e hK ⊢; subst _e
      go_simp
      refine Calls.mono (rg_any 400 600 _) ?_
      rintro e v1 ⟨rfl, hb⟩
      exact hK.out _ _ rfl hb
    refine StepsF.cons (fun x V hV hp K hK => ?_) ?_
    · have _e := depsAll_get hp 3 (by kernel_rfl); change x 3 = _ at _e; generalize x 3 = _y at _e hK ⊢; subst _e
      go_simp
      refine Calls.mono (rg_any 200 480 _) ?_
      rintro e v1 ⟨rfl, hb⟩
      exact hK.out _ _ rfl hb
    refine StepsF.cons (fun x V hV hp K hK => ?_) ?_
    · have _e := depsAll_get hp 3 (by kernel_rfl); change x 3 = _ at _e; generalize x 3 = _y at _e hK ⊢; subst _e
      have _e := depsAll_get hp 5 (by kernel_rfl); change x 5 = _ at _e; generalize x 5 = _y at _e hK ⊢; subst _e
      have _e := depsAll_get hp 6 (by kernel_rfl); change x 6 = _ at _e; generalize x 6 = _y at _e hK ⊢; subst _e
      have _e := depsAll_get hp 7 (by kernel_rfl); change x 7 = _ at _e; generalize x 7 = _y at _e hK ⊢; subst _e
      go_simp
      exact hK.out _ _ (rgs_box (l := [(150, 300), (400, 600), (200, 480)]) (Box.new _ _ _) (by simp) (by decide)) ((Below.refl _ _).alloc (Nat.le_refl _) _)
    refine StepsF.cons (fun x V hV hp K hK => ?_) ?_
    · have _e := depsAll_get hp 3 (by kernel_rfl); change x 3 = _ at _e; generalize x 3 = _y at _e hK ⊢; subst _e
      have _p1 := depsAll_get hp 4 (by kernel_rfl)
      have _p2 := depsAll_get hp 8 (by kernel_rfl)
      generalize x 4 = _y1 at _p1 hK ⊢
      generalize x 8 = _y2 at _p2 hK ⊢
      have HP := Lib.hid (And.intro _p1 _p2)
      clear _p1 _p2
      go_simp
      refine Calls.mono (ranges_same HP.out.1 HP.out.2) ?_
      rintro e v1 ⟨rfl, hb⟩
      exact hK.out _ _ rfl hb
    refine StepsF.cons (fun x V hV hp K hK => ?_) ?_
    · have _e := depsAll_get hp 3 (by kernel_rfl); change x 3 = _ at _e; generalize x 3 = _y at _e hK ⊢; subst _e
      have _e := depsAll_get hp 9 (by kernel_rfl); change x 9 = _ at _e; generalize x 9 = _y at _e hK ⊢; subst _e
      go_simp
      exact hK.out _ _ rfl (Below.refl _ _)
    refine StepsF.cons (fun x V hV hp K hK => ?_) ?_
    · have _e := depsAll_get hp 10 (by kernel_rfl); change x 10 = _ at _e; generalize x 10 = _y at _e hK ⊢; subst _e
      go_simp
      exact hK.out _ _ rfl (Below.refl _ _)
    refine StepsF.cons (fun x V hV hp K hK => ?_) ?_
    · have _e := depsAll_get hp 11 (by kernel_rfl); change x 11 = _ at _e; generalize x 11 = _y at _e hK ⊢; subst _e
      obtain ⟨_c0, _c1⟩ := HS.out V (g12.trans (hV.mono g12.size))
      go_simp
      exact hK.out _ _ rfl (Below.refl _ _)
    refine StepsF.cons (fun x V hV hp K hK => ?_) ?_
    · have _e := depsAll_get hp 11 (by kernel_rfl); change x 11 = _ at _e; generalize x 11 = _y at _e hK ⊢; subst _e
      go_simp
      exact hK.out _ _ (ints_box (l := [0, 0]) (Box.new _ _ _) (by simp) (by decide)) ((Below.refl _ _).alloc (Nat.le_refl _) _)
    refine StepsF.cons (fun x V hV hp K hK => ?_) ?_
    · have _e := depsAll_get hp 11 (by kernel_rfl); change x 11 = _ at _e; generalize x 11 = _y at _e hK ⊢; subst _e
      obtain ⟨zA, zc, _hv, zk1, zk2, zks⟩ := depsAll_get hp 13 (by kernel_rfl); (try simp only [List.length_cons, List.length_nil, Nat.zero_add, Nat.reduceAdd] at _hv zk1); generalize x 13 = _y at _hv hK ⊢; subst _hv
      go_simp
      refine (recipe_laid _ _ _ _ _).mono ?_
      rintro e v1 ⟨rfl, hb⟩
      exact hK.out _ _ ⟨_, rfl, Fact.keep (Fact.ints [0, 0]) _ _ _ hb ⟨zA, zc, rfl, zk1, zk2, zks⟩⟩ hb
    refine StepsF.cons (fun x V hV hp K hK => ?_) ?_
    · have _e := depsAll_get hp 11 (by kernel_rfl); change x 11 = _ at _e; generalize x 11 = _y at _e hK ⊢; subst _e
      go_simp
      exact hK.out _ _ (Fact.keep (Fact.ints [180, 550, 410]) _ _ _ ((K6.out).trans (hV.mono (K6.out).size)) P6.out) (Below.refl _ _)
    refine StepsF.cons (fun x V hV hp K hK => ?_) ?_
    · have _e := depsAll_get hp 11 (by kernel_rfl); change x 11 = _ at _e; generalize x 11 = _y at _e hK ⊢; subst _e
      obtain ⟨_c0, _c1⟩ := HM.out V (g12.trans (hV.mono g12.size))
      go_simp
      exact hK.out _ _ rfl (Below.refl _ _)
    refine StepsF.cons (fun x V hV hp K hK => ?_) ?_
    · have _e := depsAll_get hp 11 (by kernel_rfl); change x 11 = _ at _e; generalize x 11 = _y at _e hK ⊢; subst _e
      have _e := depsAll_get hp 12 (by kernel_rfl); change x 12 = _ at _e; generalize x 12 = _y at _e hK ⊢; subst _e
      have _e := depsAll_get hp 16 (by kernel_rfl); change x 16 = _ at _e; generalize x 16 = _y at _e hK ⊢; subst _e
      obtain ⟨_u, _hu, _A, _c, _hv, _k1, _k2, _ks⟩ := depsAll_get hp 14 (by kernel_rfl); (try simp only [List.length_cons, List.length_nil, Nat.zero_add, Nat.reduceAdd] at _hv _k1); subst _hv; generalize x 14 = _y at _hu hK ⊢; subst _hu
      obtain ⟨yA, yc, _hv, yk1, yk2, yks⟩ := depsAll_get hp 15 (by kernel_rfl); (try simp only [List.length_cons, List.length_nil, Nat.zero_add, Nat.reduceAdd] at _hv yk1); generalize x 15 = _y at _hv hK ⊢; subst _hv
      go_simp
      refine Calls.mono (houseAgrees ((HI.out V (g12.trans (hV.mono g12.size))).with_ (Below.refl _ _) _ks _k1 _k2) yks yk1 yk2) ?_
      rintro e v1 ⟨rfl, hb⟩
      exact hK.out _ _ rfl hb
    refine StepsF.cons (fun x V hV hp K hK => ?_) ?_
    · have _e := depsAll_get hp 11 (by kernel_rfl); change x 11 = _ at _e; generalize x 11 = _y at _e hK ⊢; subst _e
      have _e := depsAll_get hp 17 (by kernel_rfl); change x 17 = _ at _e; generalize x 17 = _y at _e hK ⊢; subst _e
      go_simp
      exact hK.out _ _ rfl (Below.refl _ _)
    refine StepsF.cons (fun x V hV hp K hK => ?_) ?_
    · have _e := depsAll_get hp 18 (by kernel_rfl); change x 18 = _ at _e; generalize x 18 = _y at _e hK ⊢; subst _e
      go_simp
      exact hK.out _ _ rfl (Below.refl _ _)
    refine StepsF.cons (fun x V hV hp K hK => ?_) ?_
    · have _e := depsAll_get hp 19 (by kernel_rfl); change x 19 = _ at _e; generalize x 19 = _y at _e hK ⊢; subst _e
      go_simp
      exact hK.out _ _ (Fact.keep (Fact.rgs [(180, 300), (550, 600), (410, 420)]) _ _ _ ((K8.out).trans (hV.mono (K8.out).size)) P8.out) (Below.refl _ _)
    refine StepsF.cons (fun x V hV hp K hK => ?_) ?_
    · have _e := depsAll_get hp 19 (by kernel_rfl); change x 19 = _ at _e; generalize x 19 = _y at _e hK ⊢; subst _e
      go_simp
      refine Calls.mono (rg_any 180 300 _) ?_
      rintro e v1 ⟨rfl, hb⟩
      exact hK.out _ _ rfl hb
    refine StepsF.cons (fun x V hV hp K hK => ?_) ?_
    · have _e := depsAll_get hp 19 (by kernel_rfl); change x 19 = _ at _e; generalize x 19 = _y at _e hK ⊢; subst _e
      go_simp
      refine Calls.mono (rg_any 550 600 _) ?_
      rintro e v1 ⟨rfl, hb⟩
      exact hK.out _ _ rfl hb
    refine StepsF.cons (fun x V hV hp K hK => ?_) ?_
    · have _e := depsAll_get hp 19 (by kernel_rfl); change x 19 = _ at _e; generalize x 19 = _y at _e hK ⊢; subst _e
      obtain ⟨_c0, _c1⟩ := HM.out V (g12.trans (hV.mono g12.size))
      go_simp
      exact hK.out _ _ rfl (Below.refl _ _)
    refine StepsF.cons (fun x V hV hp K hK => ?_) ?_
    · have _e := depsAll_get hp 19 (by kernel_rfl); change x 19 = _ at _e; generalize x 19 = _y at _e hK ⊢; subst _e
      have _e := depsAll_get hp 21 (by kernel_rfl); change x 21 = _ at _e; generalize x 21 = _y at _e hK ⊢; subst _e
      have _e := depsAll_get hp 22 (by kernel_rfl); change x 22 = _ at _e; generalize x 22 = _y at _e hK ⊢; subst _e
      have _e := depsAll_get hp 23 (by kernel_rfl); change x 23 = _ at _e; generalize x 23 = _y at _e hK ⊢; subst _e
      go_simp
      exact hK.out _ _ (rgs_box (l := [(180, 300), (550, 600), (410, 420)]) (Box.new _ _ _) (by simp) (by decide)) ((Below.refl _ _).alloc (Nat.le_refl _) _)
    refine StepsF.cons (fun x V hV hp K hK => ?_) ?_
    · have _e := depsAll_get hp 19 (by kernel_rfl); change x 19 = _ at _e; generalize x 19 = _y at _e hK ⊢; subst _e
      have _p1 := depsAll_get hp 20 (by kernel_rfl)
      have _p2 := depsAll_get hp 24 (by kernel_rfl)
      generalize x 20 = _y1 at _p1 hK ⊢
      generalize x 24 = _y2 at _p2 hK ⊢
      have HP := Lib.hid (And.intro _p1 _p2)
      clear _p1 _p2
      go_simp
      refine Calls.mono (ranges_same HP.out.1 HP.out.2) ?_
      rintro e v1 ⟨rfl, hb⟩
      exact hK.out _ _ rfl hb
    refine StepsF.cons (fun x V hV hp K hK => ?_) ?_
    · have _e := depsAll_get hp 19 (by kernel_rfl); change x 19 = _ at _e; generalize x 19 = _y at _e hK ⊢; subst _e
      have _e := depsAll_get hp 25 (by kernel_rfl); change x 25 = _ at _e; generalize x 25 = _y at _e hK ⊢; subst _e
      go_simp
      exact hK.out _ _ rfl (Below.refl _ _)
    refine StepsF.cons (fun x V hV hp K hK => ?_) ?_
    · have _e := depsAll_get hp 26 (by kernel_rfl); change x 26 = _ at _e; generalize x 26 = _y at _e hK ⊢; subst _e
      go_simp
      exact hK.out _ _ rfl (Below.refl _ _)
    refine StepsF.cons (fun x V hV hp K hK => ?_) ?_
    · have _e := depsAll_get hp 27 (by kernel_rfl); change x 27 = _ at _e; generalize x 27 = _y at _e hK ⊢; subst _e
      go_simp
      exact hK.out _ _ (Fact.keep (Fact.ints [0, 1]) _ _ _ ((K9.out).trans (hV.mono (K9.out).size)) P9.out) (Below.refl _ _)
    refine StepsF.cons (fun x V hV hp K hK => ?_) ?_
    · have _e := depsAll_get hp 27 (by kernel_rfl); change x 27 = _ at _e; generalize x 27 = _y at _e hK ⊢; subst _e
      go_simp
      exact hK.out _ _ (ints_box (l := [0, 1]) (Box.new _ _ _) (by simp) (by decide)) ((Below.refl _ _).alloc (Nat.le_refl _) _)
    refine StepsF.cons (fun x V hV hp K hK => ?_) ?_
    · have _e := depsAll_get hp 27 (by kernel_rfl); change x 27 = _ at _e; generalize x 27 = _y at _e hK ⊢; subst _e
      have _p1 := depsAll_get hp 28 (by kernel_rfl)
      have _p2 := depsAll_get hp 29 (by kernel_rfl)
      generalize x 28 = _y1 at _p1 hK ⊢
      generalize x 29 = _y2 at _p2 hK ⊢
      have HP := Lib.hid (And.intro _p1 _p2)
      clear _p1 _p2
      go_simp
      refine Calls.mono (ints_same HP.out.1 HP.out.2) ?_
      rintro e v1 ⟨rfl, hb⟩
      exact hK.out _ _ rfl hb
    refine StepsF.cons (fun x V hV hp K hK => ?_) ?_
    · have _e := depsAll_get hp 27 (by kernel_rfl); change x 27 = _ at _e; generalize x 27 = _y at _e hK ⊢; subst _e
      have _e := depsAll_get hp 30 (by kernel_rfl); change x 30 = _ at _e; generalize x 30 = _y at _e hK ⊢; subst _e
      go_simp
      exact hK.out _ _ rfl (Below.refl _ _)
    refine StepsF.cons (fun x V hV hp K hK => ?_) ?_
    · have _e := depsAll_get hp 31 (by kernel_rfl); change x 31 = _ at _e; generalize x 31 = _y at _e hK ⊢; subst _e
      go_simp
      exact hK.out _ _ rfl (Below.refl _ _)
    refine StepsF.cons (fun x V hV hp K hK => ?_) ?_
    · have _e := depsAll_get hp 32 (by kernel_rfl); change x 32 = _ at _e; generalize x 32 = _y at _e hK ⊢; subst _e
      go_simp
      exact hK.out _ _ (Fact.keep (Fact.lists [[0, 1], [0]]) _ _ _ ((K10.out).trans (hV.mono (K10.out).size)) P10.out) (Below.refl _ _)
    refine StepsF.cons (fun x V hV hp K hK => ?_) ?_
    · have _e := depsAll_get hp 32 (by kernel_rfl); change x 32 = _ at _e; generalize x 32 = _y at _e hK ⊢; subst _e
      go_simp
      exact hK.out _ _ (ints_box (l := [0, 1]) (Box.new _ _ _) (by simp) (by decide)) ((Below.refl _ _).alloc (Nat.le_refl _) _)
    refine StepsF.cons (fun x V hV hp K hK => ?_) ?_
    · have _e := depsAll_get hp 32 (by kernel_rfl); change x 32 = _ at _e; generalize x 32 = _y at _e hK ⊢; subst _e
      go_simp
      exact hK.out _ _ (ints_box (l := [0]) (Box.new _ _ _) (by simp) (by decide)) ((Below.refl _ _).alloc (Nat.le_refl _) _)
    refine StepsF.cons (fun x V hV hp K hK => ?_) ?_
    · have _e := depsAll_get hp 32 (by kernel_rfl); change x 32 = _ at _e; generalize x 32 = _y at _e hK ⊢; subst _e
      obtain ⟨yA, yc, _hv, yk1, yk2, yks⟩ := depsAll_get hp 34 (by kernel_rfl); (try simp only [List.length_cons, List.length_nil, Nat.zero_add, Nat.reduceAdd] at _hv yk1); generalize x 34 = _y at _hv hK ⊢; subst _hv
      obtain ⟨zA, zc, _hv, zk1, zk2, zks⟩ := depsAll_get hp 35 (by kernel_rfl); (try simp only [List.length_cons, List.length_nil, Nat.zero_add, Nat.reduceAdd] at _hv zk1); generalize x 35 = _y at _hv hK ⊢; subst _hv
      have _q1 : Ints .i64 V V.heap.size (.slice yA 2 yc) [0, 1] := ⟨yA, yc, rfl, yk1, yk2, yks⟩
      have _q2 : Ints .i64 V V.heap.size (.slice zA 1 zc) [0] := ⟨zA, zc, rfl, zk1, zk2, zks⟩
      have HQ := Lib.hid (And.intro _q1 _q2)
      clear _q1 _q2 yks zks
      go_simp
      have hb : Below V.heap.size V (V.alloc (.cells #[.slice yA 2 yc, .slice zA 1 zc] 40)) := (Below.refl _ _).alloc (Nat.le_refl _) _
      exact hK.out _ _ (lists_box2 (Box.new _ _ _) (Fact.keep (Fact.ints [0, 1]) _ _ _ hb HQ.out.1) (Fact.keep (Fact.ints [0]) _ _ _ hb HQ.out.2)) hb
    refine StepsF.cons (fun x V hV hp K hK => ?_) ?_
    · have _e := depsAll_get hp 32 (by kernel_rfl); change x 32 = _ at _e; generalize x 32 = _y at _e hK ⊢; subst _e
      have _p1 := depsAll_get hp 33 (by kernel_rfl)
      have _p2 := depsAll_get hp 36 (by kernel_rfl)
      generalize x 33 = _y1 at _p1 hK ⊢
      generalize x 36 = _y2 at _p2 hK ⊢
      have HP := Lib.hid (And.intro _p1 _p2)
      clear _p1 _p2
      go_simp
      refine Calls.mono (lists_same HP.out.1 HP.out.2) ?_
      rintro e v1 ⟨rfl, hb⟩
      exact hK.out _ _ rfl hb
    refine StepsF.cons (fun x V hV hp K hK => ?_) ?_
    · have _e := depsAll_get hp 32 (by kernel_rfl); change x 32 = _ at _e; generalize x 32 = _y at _e hK ⊢; subst _e
      have _e := depsAll_get hp 37 (by kernel_rfl); change x 37 = _ at _e; generalize x 37 = _y at _e hK ⊢; subst _e
      go_simp
      exact hK.out _ _ rfl (Below.refl _ _)
    refine StepsF.cons (fun x V hV hp K hK => ?_) ?_
    · have _e := depsAll_get hp 38 (by kernel_rfl); change x 38 = _ at _e; generalize x 38 = _y at _e hK ⊢; subst _e
      go_simp
      exact hK.out _ _ rfl (Below.refl _ _)
    refine StepsF.cons (fun x V hV hp K hK => ?_) ?_
    · have _e := depsAll_get hp 39 (by kernel_rfl); change x 39 = _ at _e; generalize x 39 = _y at _e hK ⊢; subst _e
      go_simp
      exact hK.out _ _ rfl (Below.refl _ _)
    refine StepsF.cons (fun x V hV hp K hK => ?_) ?_
    · have _e := depsAll_get hp 39 (by kernel_rfl); change x 39 = _ at _e; generalize x 39 = _y at _e hK ⊢; subst _e
      have _e := depsAll_get hp 40 (by kernel_rfl); change x 40 = _ at _e; generalize x 40 = _y at _e hK ⊢; subst _e
      go_simp
      exact hK.out _ _ rfl (Below.refl _ _)
    refine StepsF.cons (fun x V hV hp K hK => ?_) ?_
    · have _e := depsAll_get hp 39 (by kernel_rfl); change x 39 = _ at _e; generalize x 39 = _y at _e hK ⊢; subst _e
      have _e := depsAll_get hp 41 (by kernel_rfl); change x 41 = _ at _e; generalize x 41 = _y at _e hK ⊢; subst _e
      go_simp
      exact hK.out _ _ rfl (Below.refl _ _)
    refine StepsF.cons (fun x V hV hp K hK => ?_) ?_
    · have _e := depsAll_get hp 42 (by kernel_rfl); change x 42 = _ at _e; generalize x 42 = _y at _e hK ⊢; subst _e
      go_simp
      exact hK.out _ _ rfl (Below.refl _ _)
    refine StepsF.cons (fun x V hV hp K hK => ?_) ?_
    · have _e := depsAll_get hp 43 (by kernel_rfl); change x 43 = _ at _e; generalize x 43 = _y at _e hK ⊢; subst _e
      go_simp
      exact hK.out _ _ rfl (Below.refl _ _)
    refine StepsF.cons (fun x V hV hp K hK => ?_) ?_
    · have _e := depsAll_get hp 43 (by kernel_rfl); change x 43 = _ at _e; generalize x 43 = _y at _e hK ⊢; subst _e
      have _e := depsAll_get hp 44 (by kernel_rfl); change x 44 = _ at _e; generalize x 44 = _y at _e hK ⊢; subst _e
      go_simp
      exact hK.out _ _ rfl (Below.refl _ _)
    refine StepsF.cons (fun x V hV hp K hK => ?_) ?_
    · have _e := depsAll_get hp 43 (by kernel_rfl); change x 43 = _ at _e; generalize x 43 = _y at _e hK ⊢; subst _e
      have _e := depsAll_get hp 45 (by kernel_rfl); change x 45 = _ at _e; generalize x 45 = _y at _e hK ⊢; subst _e
      go_simp
      exact hK.out _ _ rfl (Below.refl _ _)
    refine StepsF.cons (fun x V hV hp K hK => ?_) ?_
    · have _e := depsAll_get hp 46 (by kernel_rfl); change x 46 = _ at _e; generalize x 46 = _y at _e hK ⊢; subst _e
      go_simp
      exact hK.out _ _ rfl (Below.refl _ _)
    refine StepsF.cons (fun x V hV hp K hK => ?_) ?_
    · have _e := depsAll_get hp 47 (by kernel_rfl); change x 47 = _ at _e; generalize x 47 = _y at _e hK ⊢; subst _e
      go_simp
      exact hK.out _ _ rfl (Below.refl _ _)
    refine StepsF.cons (fun x V hV hp K hK => ?_) ?_
    · have _e := depsAll_get hp 47 (by kernel_rfl); change x 47 = _ at _e; generalize x 47 = _y at _e hK ⊢; subst _e
      have _e := depsAll_get hp 48 (by kernel_rfl); change x 48 = _ at _e; generalize x 48 = _y at _e hK ⊢; subst _e
      go_simp
      exact hK.out _ _ rfl (Below.refl _ _)
    refine StepsF.cons (fun x V hV hp K hK => ?_) ?_
    · have _e := depsAll_get hp 47 (by kernel_rfl); change x 47 = _ at _e; generalize x 47 = _y at _e hK ⊢; subst _e
      have _e := depsAll_get hp 49 (by kernel_rfl); change x 49 = _ at _e; generalize x 49 = _y at _e hK ⊢; subst _e
      go_simp
      exact hK.out _ _ rfl (Below.refl _ _)
    refine StepsF.cons (fun x V hV hp K hK => ?_) ?_
    · have _e := depsAll_get hp 50 (by kernel_rfl); change x 50 = _ at _e; generalize x 50 = _y at _e hK ⊢; subst _e
      go_simp
      exact hK.out _ _ rfl (Below.refl _ _)
    exact StepsF.nil
  intro x v15 hV hall
  have _e := hall 51 (by decide)
  change x 51 = _ at _e
  generalize x 51 = _y at _e ⊢
  subst _e
  clear hall
  go_wp2_with fail
  go_ret
  exact ⟨rfl, hbW.trans ((g12.trans (hV.mono g12.size)).mono hbW.size)⟩
end Go.Proofs.Ytigpefjeelgfdaa
