/-
  A part of the texts that the claim builds on: see the last one.
-/
import Derived.Test.YtigpefjeelgfdaaDf3
import Derived.RangeFuncNested
import Derived.RangeFuncBound
import Derived.RangeFuncCalls
import Derived.RangeFuncLeaves
import Derived.OwnWalkIn
import Derived.TacticsInMore
import Derived.LoopNIn
import Derived.LoopIn
import Derived.DeepKeys4
import Derived.WideKeyEntry
import Derived.Maps.OwnSet
import Derived.Maps.RangeWalk
import Derived.Shelf.Abstract
set_option linter.unusedSimpArgs false
set_option linter.unusedVariables false
/-
  A loop over a function that keeps a variable of its own in a cell: the first block that the function makes. No program is named here.
-/
namespace Go.Proofs.Ytigpefjeelgfdaa
open Go.RowKit

section
variable {F : Fence} {n : Nat} {P : Program}
/-- What a round leaves alone. -/
structure Spared (p : Nat → Prop) (W W' : World) : Prop where
  size : W.heap.size ≤ W'.heap.size
  same : ∀ i, p i → W'.heap[i]? = W.heap[i]?
/-- What the function must be: whatever J says of the worlds behind k rounds, as long as its own first block does not matter to J, and each round goes on. -/
def SeqRuns (F : Fence) (n : Nat) (P : Program) (gf : Nat) (lb : Array Value) (h : Nat → Value) (N n₀ lo : Nat) (w : World) : Prop :=
  ∀ (l : Nat) (J : Nat → World → Prop) (W : World), Below w.heap.size w W → (∀ k A B row, J k A → A.grownBy B row → (∀ r, row = some r → r = W.heap.size) → J k B) →
    (∀ k W1, J k W1 → k < N → W.heap.size < W1.heap.size → YieldAt F (n - 1) P l #[h k] W1 fun e W' => e = .returned (.bool true) ∧ J (k + 1) W' ∧ Spared (fun i => i < n₀ ∨ (lo ≤ i ∧ i < w.heap.size) ∨ i = W.heap.size) W1 W') →
    J 0 W → CallsIn F n P gf (#[.func (.yield l) #[] #[]] ++ lb) W fun e W' => (∃ v, e = .returned v) ∧ J N W'

theorem wpIn_over {g : Operand} {ps : Array Tmp} {assign body : Code} {Q : Exit → Act → World → Prop} {a : Act} {w : World}
    (hro : F.round = none) (h1 : 1 ≤ n) {gf : Nat} {lb : Array Value} (hg : a.eval g = .func (.func gf) #[] lb) (hFg : F.fn gf) (eg : ∀ args w, (callFunc gf args).run P w = .ok (.enter gf args) w)
    {h : Nat → Value} {N n₀ lo : Nat} (hn₀ : n₀ ≤ w.heap.size) (hlo : lo ≤ w.heap.size) (hseq : SeqRuns F (n - 1) P gf lb h N n₀ lo w) (hps : ps.size = 1)
    (I : Nat → World → Prop) (hI : ∀ k A B row, I k A → A.grownBy B row → (∀ r, row = some r → w.heap.size ≤ r ∧ r ≤ w.heap.size + 2) → I k B) (h0 : I 0 w) (a₁ : Nat → Act)
    (hassign : ∀ (l k : Nat) (W : World) (K : Act → World → Prop), K (a₁ k) W →
      assign.wpIn (F.inRound l) (n - 1 - 1) P (Exit.then K (fun _ _ _ => False)) { tmps := (ps.zip #[h k]).foldl (fun t (p, v) => t.setIfInBounds p v) a.tmps, defers := [] } W)
    (hbody : ∀ (l k : Nat) (W : World), I k W → k < N → w.heap.size + 2 < W.heap.size → body.wpIn (F.inRound l) (n - 1 - 1) P (fun e _ W' => e = .normal ∧ Spared (fun i => i < n₀ ∨ (lo ≤ i ∧ i ≤ w.heap.size + 2)) W W' ∧ I (k + 1) W') (a₁ k) W)
    (hdone : ∀ (D : Nat) (W : World), w.heap.size ≤ D → I N W → W.heap[D]? = some (.deferred (some [])) → Q .normal { a with defers := { target := .collected D, args := #[] } :: a.defers } W) :
    (Code.rangeFunc g ps assign body).wpIn F n P Q a w := by
  refine wpIn_rangeFunc ?_
  intro fn hfn
  rw [hro]
  obtain ⟨rec, hrec⟩ : ∃ rec : LoopState → Option Code → Loop, rec = fun st pe => { state := st, pending := pe, fn, tmps := a.tmps, params := ps, assign, body, defers := w.heap.size } := ⟨_, rfl⟩
  obtain ⟨V, hV⟩ : ∃ V, (w.alloc (.deferred (some []))).alloc (.loop (rec .ready none)) = V := ⟨_, rfl⟩
  have hVs : V.heap.size = w.heap.size + 2 := by rw [← hV]; simp
  have hVb : Below w.heap.size w V := by rw [← hV]; exact ((Below.refl _ w).alloc (Nat.le_refl _) _).alloc (by simp) _
  have hVl : V.heap[w.heap.size + 1]? = some (.loop (rec .ready none)) := by
    rw [← hV]
    have := World.alloc_heap_new (w.alloc (.deferred (some []))) (.loop (rec .ready none))
    rwa [World.size_alloc] at this
  have hVd : V.heap[w.heap.size]? = some (.deferred (some [])) := by
    rw [← hV]
    exact (Below.heap_alloc _ _ _ (by simp)).trans (World.alloc_heap_new w _)
  have hput : ∀ k W o, I k W → I k (W.putObj (w.heap.size + 1) o) := fun k W o hi => hI k _ _ (some (w.heap.size + 1)) hi (grownBy_putObj' W _ o) (fun r e => by cases e; omega)
  refine ⟨w.heap.size + 1, [{ target := .collected w.heap.size, args := #[] }], V, { target := .fn (.func gf) lb, args := #[.func (.yield (w.heap.size + 1)) #[] #[]] }, V, gf,
    #[.func (.yield (w.heap.size + 1)) #[] #[]] ++ lb, V, ?_, ?_, ?_, ?_, fun _ => h1, ?_⟩
  · rw [← hV, hrec]; exact run_enterLoop_outer _ _ _ _ _
  · simp only [resolve, hg]
    simp [go_sem]
  · intro f' hf'
    simp [Target.leads] at hf'
    subst hf'
    exact hFg
  · simp [invoke, go_sem, eg]
  · refine (hseq (w.heap.size + 1) (fun k W => I k W ∧ W.heap[w.heap.size + 1]? = some (.loop (rec .ready none)) ∧ W.heap[w.heap.size]? = some (.deferred (some []))) V hVb ?_ ?_ ⟨?_, hVl, hVd⟩).mono ?_
    · rintro k A B row ⟨hi, hl, hd⟩ hgr hr
      have hsz : w.heap.size + 1 < A.heap.size := (Array.getElem?_eq_some_iff.1 hl).1
      refine ⟨hI k A B row hi hgr (fun r e => by have := hr r e; omega), ?_, ?_⟩
      · exact (hgr.block _ hsz (fun e => by have := hr _ e.symm; omega)).trans hl
      · exact (hgr.block _ (by omega) (fun e => by have := hr _ e.symm; omega)).trans hd
    · rintro k W ⟨hi, hl, hd⟩ hkN hsz
      rw [hVs] at hsz
      have hy := run_yield (P := P) (args := #[h k]) hl (by rw [hrec]; simp [hps])
      rw [hrec] at hy
      refine ⟨fn, _, assign, body, hy, roundIn_of_wpIn hfn (hassign _ k W _ ⟨_, run_beginRound hl (by rw [hrec]), ?_⟩)⟩
      have hlt : w.heap.size + 1 < W.heap.size := by omega
      have hl2 : (W.putObj (w.heap.size + 1) (.loop { rec .ready none with state := .busy })).heap[w.heap.size + 1]? = some (.loop { rec .ready none with state := .busy }) := World.putObj_heap_same hlt
      have hd2 : (W.putObj (w.heap.size + 1) (.loop { rec .ready none with state := .busy })).heap[w.heap.size]? = some (.deferred (some [])) := (World.putObj_heap_other (by omega)).trans hd
      have hs2 : (W.putObj (w.heap.size + 1) (.loop { rec .ready none with state := .busy })).heap.size = W.heap.size := by simp
      refine wpIn_mono (hbody _ k _ (hput _ _ _ hi) hkN (by rw [hs2]; omega)) ?_
      rintro e a3 W3 ⟨rfl, hsp, hi3⟩
      have hl3 := (hsp.same _ (Or.inr ⟨by omega, by omega⟩)).trans hl2
      have hd3 := (hsp.same w.heap.size (Or.inr ⟨by omega, by omega⟩)).trans hd2
      have hz3 : W.heap.size ≤ W3.heap.size := by have := hsp.size; simpa using this
      have hr := run_endRound (P := P) none hl3
      rw [hrec] at hr
      refine ⟨_, _, hr, rfl, ⟨hput _ _ _ hi3, ?_, ?_⟩, ⟨?_, ?_⟩⟩
      · rw [hrec]
        exact World.putObj_heap_same (by omega)
      · exact (World.putObj_heap_other (by omega)).trans hd3
      · simp; omega
      · intro i hi'
        rw [hVs] at hi'
        have h3 : i ≠ w.heap.size + 1 := by omega
        rw [World.putObj_heap_other h3, hsp.same i (by omega), World.putObj_heap_other h3]
    · exact hI 0 w V none h0 ⟨hVb.os, hVb.tape, hVb.output, hVb.size, fun i hi _ => hVb.block i hi⟩ (fun r e => by cases e)
    · rintro e W2 ⟨⟨v, rfl⟩, hi, hl, hd⟩
      refine ⟨none, _, by have := run_endLoop (P := P) hl (by rw [hrec]; simp); rw [hrec] at this; exact this, hdone _ _ (Nat.le_refl _) (hput _ _ _ hi) ((World.putObj_heap_other (by omega)).trans hd)⟩
end
end Go.Proofs.Ytigpefjeelgfdaa

/-
  Walks of layer 1: one history, step by step.
-/
namespace Go.Proofs.Ytigpefjeelgfdaa
open Go.RowKit

/-- The least place of the range that is set, or -1, reckoned. -/
def firstOf (p : Nat → Bool) (lo hi : Nat) : Int :=
  match (List.range (hi + 1)).find? (fun j => decide (lo ≤ j) && p j) with
  | some j => j
  | none => -1
theorem FirstIs.one {p : Nat → Bool} {lo hi : Nat} {r r' : Int} (h : FirstIs p lo hi r) (h' : FirstIs p lo hi r') : r = r' := by
  rcases h with ⟨rfl, h⟩ | ⟨j, rfl, h1, h2, h3, h4⟩
  · rcases h' with ⟨rfl, _⟩ | ⟨j', rfl, g1, g2, g3, _⟩
    · rfl
    · rw [h j' g1 g2] at g3; cases g3
  · rcases h' with ⟨rfl, g⟩ | ⟨j', rfl, g1, g2, g3, g4⟩
    · rw [g j h1 h2] at h3; cases h3
    · rcases Nat.lt_trichotomy j j' with h | h | h
      · rw [g4 j h1 h] at h3; cases h3
      · rw [h]
      · rw [h4 j' g1 h] at g3; cases g3
theorem firstOf_is (p : Nat → Bool) (lo hi : Nat) : FirstIs p lo hi (firstOf p lo hi) := by
  unfold firstOf
  cases h : (List.range (hi + 1)).find? (fun j => decide (lo ≤ j) && p j) with
  | none =>
    refine .inl ⟨rfl, fun j h1 h2 => ?_⟩
    have := List.find?_eq_none.1 h j (List.mem_range.2 (by omega))
    simpa [h1] using this
  | some j =>
    obtain ⟨h1, us, vs, h2, h3⟩ := List.find?_eq_some_iff_append.1 h
    simp only [Bool.and_eq_true, decide_eq_true_eq] at h1
    have hm : j ∈ List.range (hi + 1) := List.mem_of_find?_eq_some h
    have hj := List.mem_range.1 hm
    refine .inr ⟨j, rfl, h1.1, by omega, h1.2, fun i g1 g2 => ?_⟩
    have hlen : us.length = j := by
      have e := congrArg (fun l => l[us.length]?) h2
      simp only [List.getElem?_append_right (Nat.le_refl _), Nat.sub_self, List.getElem?_cons_zero] at e
      have hlt : us.length < hi + 1 := by
        have := congrArg List.length h2
        simp at this; omega
      rw [List.getElem?_range hlt] at e
      simpa using e
    have hi' : i ∈ us := by
      have e := congrArg (fun l => l[i]?) h2
      simp only [List.getElem?_append_left (show i < us.length by omega)] at e
      rw [List.getElem?_range (by omega)] at e
      exact List.mem_of_getElem? e.symm
    have := h3 i hi'
    simpa [g1] using this
/-- In which range the hardness number k is looked for; and it. -/
def winN (x : Works) (m : Nat) (ways : List Int) (R : Nat → Nat → Bool) : Nat → Rg
  | 0 => rgAt x.bars m
  | k + 1 => aft (wayOf x ways k) (firstOf (R k) (winN x m ways R k).1.toNat (winN x m ways R k).2.toNat)
def histN (x : Works) (m : Nat) (ways : List Int) (R : Nat → Nat → Bool) (k : Nat) : Int := firstOf (R k) (winN x m ways R k).1.toNat (winN x m ways R k).2.toNat
theorem aftTo_val {ks : List Kink} (h : KinksVal ks) (h0 : 0 < ks.length) (n : Int) : ∀ k, k ≤ ks.length → 0 ≤ (aftTo ks n k).1 ∧ (aftTo ks n k).1 ≤ (aftTo ks n k).2 ∧ (aftTo ks n k).2 ≤ 1000
  | 0, _ => by
    have hx : ks[0]? = some ks[0] := List.getElem?_eq_getElem h0
    rw [aftTo_zero, kFst_of (Lib.hid hx)]
    have := h 0 _ hx
    simp only; omega
  | k + 1, hk => by
    have hx : ks[k]? = some ks[k] := List.getElem?_eq_getElem (by omega)
    by_cases hl : ks[k].frm ≤ n
    · rw [aftTo_yes (Lib.hid hx) hl]
      have := h k _ hx
      simp only; omega
    · rw [aftTo_no (Lib.hid hx) hl]
      exact aftTo_val h h0 n k (by omega)
theorem winN_val {x : Works} {m : Nat} {ways : List Int} (ok : RecOk x m ways) (R : Nat → Nat → Bool) : ∀ k, k ≤ x.steps.length → 0 ≤ (winN x m ways R k).1 ∧ (winN x m ways R k).1 ≤ (winN x m ways R k).2 ∧ (winN x m ways R k).2 ≤ 1000
  | 0, _ => by
    have hmb : m < x.bars.length := by have := ok.bar1; omega
    have hx : x.bars[m]? = some x.bars[m] := List.getElem?_eq_getElem hmb
    have := bar_of ok.works hx
    rw [winN, rgAt_of (Lib.hid hx)]
    exact this
  | k + 1, hk => by
    have hw := way_ok (wayOf_err ok (show k < x.steps.length by omega))
    rw [winN, aft]
    exact aftTo_val (kinksVal_of hw.2.2.1) hw.1 _ _ (Nat.le_refl _)

theorem first_val (b off : Nat) (p : Nat → Bool) (lo hi : Nat) (w : World) (h : RowAt w b off p) (hb : b < w.heap.size) (h1 : hi ≤ 1000) :
    Calls Try.prog 99 #[.pointer (some ⟨b, off, none⟩), .agg #[.int .i64 lo, .int .i64 hi]] w fun e w' => e = .returned (.int .i64 (firstOf p lo hi)) ∧ Below w.heap.size w w' := by
  refine (first_any b off p lo hi w h hb h1).mono ?_
  rintro e w' ⟨r, rfl, hr, hb'⟩
  exact ⟨by rw [hr.one (firstOf_is p lo hi)], hb'⟩
theorem In.same {w w' : World} {B : Nat} {Ab As Ar : Option Addr} {cb cs cr : Nat} {x : Works} {ways : List Int} (h : In w B Ab As Ar cb cs cr x ways) (hs : Same B w w') (hz : w.heap.size ≤ w'.heap.size) : In w' B Ab As Ar cb cs cr x ways :=
  ⟨SLa.keep h.bars (Nat.le_refl _) fun _ _ _ hb hx => RgAt.keep hx hs hb, SLa.keep h.steps (Nat.le_refl _) fun _ _ _ hlt ⟨u, h1, h2⟩ => ⟨u, (hs.cell hlt _).trans h1, h2.keep hs (Nat.le_refl _)⟩,
    SLa.keep h.rways (Nat.le_refl _) fun _ _ _ hb hx => IntAt.keep hx hs hb, h.cb1, h.cb2, h.cs1, h.cs2, h.cr1, h.cr2, Nat.le_trans h.le hz⟩
attribute [local go_sem] Oper.semAt_some

set_option maxRecDepth 100000 in
set_option maxHeartbeats 2000000 in
theorem hist1_runs (n Bn c g cap : Nat) (Ab As Ar : Option Addr) (cb cs cr : Nat) (x : Works) (m : Nat) (ways : List Int) (B n₀ lo0 : Nat) (R : Nat → Nat → Bool) (w : World) (hn : 1 ≤ n) (h : In w B Ab As Ar cb cs cr x ways) (ok : RecOk x m ways)
    (hc : Course w c Ab As Ar cb cs cr x m ways (.slice (some ⟨g, 0, none⟩) (x.steps.length + 1) cap)) (hrow : ∀ i, i ≤ x.steps.length → RowAt w g (i * 1001) (R i)) (hbn : w.cell? ⟨Bn, 0, none⟩ = some (.pointer (some ⟨c, 0, none⟩)))
    (hB : B ≤ n₀) (hcn : c < n₀) (hgn : g < n₀) (hnw : n₀ ≤ w.heap.size) (hl1 : lo0 ≤ Bn) (hl2 : Bn < w.heap.size) :
    SeqRuns Fence.wide n Try.prog 98 #[.pointer (some ⟨Bn, 0, none⟩)] (fun k => .int .i64 (histN x m ways R k)) (x.steps.length + 1) n₀ lo0 w := by
  intro l J W hW hJ hY h0
  have hWs := hW.size
  have hWk : ∀ i, (i < n₀ ∨ i = Bn) → W.heap[i]? = w.heap[i]? := fun i hi => hW.block i (by omega)
  have hcW : Course W c Ab As Ar cb cs cr x m ways (.slice (some ⟨g, 0, none⟩) (x.steps.length + 1) cap) := Box.below hc hW (by omega)
  have hbW : W.cell? ⟨Bn, 0, none⟩ = some (.pointer (some ⟨c, 0, none⟩)) := (hW.cell (p := ⟨Bn, 0, none⟩) hl2).trans hbn
  obtain ⟨u0, u1, u2, u3, u4, u5⟩ := hcW.cells
  have hmb : m < x.bars.length := by have := ok.bar1; omega
  obtain ⟨b0, o0, lo, hi, rfl, hb0, hx0, e0, e1⟩ := rgsA h.bars hmb
  have hmb' : (m : Int) < (x.bars.length : Int) := by omega
  have hbw0 : b0 < W.heap.size := by omega
  have e0' := (hW.cell (p := ⟨b0, o0 + m * 2, none⟩) (by show b0 < _; omega)).trans e0
  have e1' := (hW.cell (p := ⟨b0, o0 + m * 2 + 1, none⟩) (by show b0 < _; omega)).trans e1
  have hs6 := steps_few ok.works
  have hz1 : c < W.heap.size := by omega
  have hz2 : Bn < W.heap.size := by omega
  refine callsIn_of_wp Try.func98 rfl trivial ?_ rfl
  simp only [Try.ntmps98, List.size_toArray, List.length_cons, List.length_nil, Nat.reduceAdd, Nat.reduceSub, Array.replicate_succ, Array.replicate_zero, List.push_toArray, List.append_toArray, List.nil_append, List.cons_append]
  gi_wp2
  refine wpIn_wide.2 ?_
  go_region
  have hx00 : winN x m ways R 0 = (lo, hi) := by rw [winN, rgAt_of hx0]
  have hg0 : W.grownBy (W.alloc (.cells #[.int .i64 lo, .int .i64 hi] 33)).drew none := gb_drew (gb_alloc (gb_refl W none) _)
  have hJ0 : J 0 (W.alloc (.cells #[.int .i64 lo, .int .i64 hi] 33)).drew := hJ 0 _ _ none h0 hg0 (fun r e => by cases e)
  have hx0b : Box (W.alloc (.cells #[.int .i64 lo, .int .i64 hi] 33)).drew W.heap.size 33 #[.int .i64 (winN x m ways R 0).1, .int .i64 (winN x m ways R 0).2] := by rw [hx00]; exact Box.drew (Box.new _ _ _)
  have hk0 : ∀ i, (i < n₀ ∨ i = Bn) → (W.alloc (.cells #[.int .i64 lo, .int .i64 hi] 33)).drew.heap[i]? = W.heap[i]? := fun i hi => hg0.block i (by omega) (by simp)
  have hs0 : W.heap.size < (W.alloc (.cells #[.int .i64 lo, .int .i64 hi] 33)).drew.heap.size := hx0b.lt
  have hBW : B ≤ W.heap.size := by omega
  generalize (W.alloc (.cells #[.int .i64 lo, .int .i64 hi] 33)).drew = W0 at hJ0 hx0b hk0 hs0 ⊢
  clear u0 u1 u2 u3 u4 u5 hg0
  have hc0 : Course W0 c _ As Ar cb cs cr x m ways (.slice (some ⟨g, 0, none⟩) (x.steps.length + 1) cap) := (hk0 c (by omega)).trans hcW
  obtain ⟨u0, u1, u2, u3, u4, u5⟩ := hc0.cells
  have t0 : W0.cell? ⟨Bn, 0, none⟩ = some (.pointer (some ⟨c, 0, none⟩)) := (World.cell?_of_block (w := W) (a := ⟨Bn, 0, none⟩) (hk0 Bn (Or.inr rfl))).trans hbW
  gi_wp2
  clear u0 u1 u2 u3 u4 u5 t0
  gi_loopw [23] (fun i wr => ∃ (k : Nat), k ≤ x.steps.length + 1 ∧ i = .int .i64 k ∧ J k wr ∧ (k ≤ x.steps.length → Box wr W.heap.size 33 #[.int .i64 (winN x m ways R k).1, .int .i64 (winN x m ways R k).2]) ∧ W.heap.size < wr.heap.size ∧
      (∀ i, (i < n₀ ∨ i = Bn) → wr.heap[i]? = W.heap[i]?))
    (fun i _ => x.steps.length + 1 - (intOf i).toNat)
  case atStart =>
    exact ⟨0, by omega, rfl, hJ0, fun _ => hx0b, hs0, hk0⟩
  case round =>
    obtain ⟨k, hk, rfl, hJk, hbx, hsz, hkp⟩ := hrel
    by_cases hlt : k < x.steps.length + 1
    · have hlt' : (k : Int) < ((x.steps.length + 1 : Nat) : Int) := by omega
      have hbx' := hbx (by omega)
      obtain ⟨q1, q2, q3⟩ := winN_val ok R k (by omega)
      obtain ⟨wl, hwl⟩ := Int.eq_ofNat_of_zero_le q1
      obtain ⟨wh, hwh⟩ := Int.eq_ofNat_of_zero_le (show 0 ≤ (winN x m ways R k).2 by omega)
      have hH : histN x m ways R k = firstOf (R k) wl wh := by unfold histN; rw [hwl, hwh]; rfl
      rw [hwl, hwh] at hbx'
      have hcr : Course wr c _ As Ar cb cs cr x m ways (.slice (some ⟨g, 0, none⟩) (x.steps.length + 1) cap) := (hkp c (by omega)).trans hcW
      obtain ⟨u0, u1, u2, u3, u4, u5⟩ := hcr.cells
      have t0 : wr.cell? ⟨Bn, 0, none⟩ = some (.pointer (some ⟨c, 0, none⟩)) := (World.cell?_of_block (w := W) (a := ⟨Bn, 0, none⟩) (hkp Bn (Or.inr rfl))).trans hbW
      have v0 : wr.cell? ⟨W.heap.size, 0, none⟩ = some (.int .i64 (wl : Int)) := hbx'.cell 0
      have v1 : wr.cell? ⟨W.heap.size, 0 + 1, none⟩ = some (.int .i64 (wh : Int)) := hbx'.cell 1
      have hrk : RowAt wr g (k * 1001) (R k) := fun j hj => by
        rw [← hrow k (by omega) j hj]
        exact World.cell?_of_block (w := w) (a := ⟨g, k * 1001 + j, none⟩) ((hkp g (by omega)).trans (hWk g (Or.inl hgn)))
      have z1 : c < wr.heap.size := by omega
      have z2 : Bn < wr.heap.size := by omega
      have z3 : g < wr.heap.size := by omega
      gi_wp2
      refine wpIn_wide.2 ?_
      refine wp_region_later (by kernel_rfl) (by kernel_rfl) ?_; have _hl := later_reads (wr); (repeat (go_big_quiet_step ((go_at_call 99; exact LaterW.callsB (fun V hV => first_val g (k * 1001) (R k) wl wh V (hrk.on hV z3) (by have := hV.size; omega) (by omega)))))); refine wpQuiet_nil ?_; intro w2 hw'; have hb_w2 := later_below hw'; clear hw' _hl
      have hz2 := hb_w2.size
      obtain ⟨fn, tm, asg, bod, hy, hR⟩ := hY k w2 (hJ k wr w2 none hJk (gb_of_below hb_w2 none) (fun r e => by cases e)) hlt (by omega)
      try dsimp only at hy
      rw [hH] at hy
      clear u0 u1 u2 u3 u4 u5 t0 v0 v1
      gi_wp2
      refine hR.mono ?_
      rintro e w5 ⟨rfl, hJ5, hsp⟩
      have hz5 := hsp.size
      have hkp5 : ∀ i, (i < n₀ ∨ i = Bn) → w5.heap[i]? = W.heap[i]? := fun i hi => (hsp.same i (by omega)).trans ((hb_w2.block i (by omega)).trans (hkp i hi))
      have hbx5 : Box w5 W.heap.size 33 #[.int .i64 (wl : Int), .int .i64 (wh : Int)] := (hsp.same W.heap.size (by omega)).trans ((hb_w2.block _ hsz).trans hbx')
      have hc5 : Course w5 c _ As Ar cb cs cr x m ways (.slice (some ⟨g, 0, none⟩) (x.steps.length + 1) cap) := (hkp5 c (by omega)).trans hcW
      obtain ⟨u0, u1, u2, u3, u4, u5⟩ := hc5.cells
      have t0 : w5.cell? ⟨Bn, 0, none⟩ = some (.pointer (some ⟨c, 0, none⟩)) := (World.cell?_of_block (w := W) (a := ⟨Bn, 0, none⟩) (hkp5 Bn (Or.inr rfl))).trans hbW
      by_cases hls : k < x.steps.length
      · have hls' : (k : Int) < (x.steps.length : Int) := by omega
        have hin5 : In w5 B _ As Ar cb cs cr x ways := h.same (fun i hi => (hkp5 i (by omega)).trans (hWk i (by omega))) (by omega)
        have hwok := way_ok (wayOf_err ok hls)
        gi_wp2_with (first | (refine ⟨trivial, ?_⟩; gi_at_call 90; refine (callsIn_wide.2 (way_any c _ As Ar cb cs cr x m ways _ B k w5 hin5 ok hc5 hls)).mono ?_; rintro e w6 ⟨A6, k6, rfl, hk6, hl6, hm6, he6, hb6⟩) | (refine ⟨trivial, ?_⟩; gi_at_call 54; refine (callsIn_wide.2 (heatAfter_any A6 k6 (wayOf x ways k) _ B w6 (kinks_on hk6 hb6 (by omega)) hl6 hm6 (by have := hb6.size; omega) hwok.1)).mono ?_; rintro e w7 ⟨rfl, hb7⟩; have hbx7 : Box w7 W.heap.size 33 _ := Box.below (Box.below hbx5 hb6 (by omega)) hb7 (by have := hb6.size; omega); obtain ⟨p0, p1, p2, p3⟩ := hbx7.two))
        have hwn : winN x m ways R (k + 1) = aft (wayOf x ways k) (firstOf (R k) wl wh) := by rw [winN, hwl, hwh]; rfl
        have hz6 := hb6.size
        have hz7 := hb7.size
        have hg57 : w5.grownBy w7 (some W.heap.size) := gb_of_below (hb6.trans (hb7.mono hz6)) _
        generalize hA : aft (wayOf x ways k) (firstOf (R k) wl wh) = A at hwn ⊢
        have hgs : w5.grownBy ((w7.setCell ⟨W.heap.size, 0, none⟩ (.int .i64 A.1)).setCell ⟨W.heap.size, 1, none⟩ (.int .i64 A.2)) (some W.heap.size) := gb_set (gb_set hg57 (Or.inl rfl) _) (Or.inl rfl) _
        have hbs : Box ((w7.setCell ⟨W.heap.size, 0, none⟩ (.int .i64 A.1)).setCell ⟨W.heap.size, 1, none⟩ (.int .i64 A.2)) W.heap.size 33 #[.int .i64 A.1, .int .i64 A.2] := Box.set_ (Box.set_ hbx7 0 _) 1 _
        refine ⟨⟨k + 1, hlt, by go_num, hJ (k + 1) w5 _ (some W.heap.size) hJ5 hgs (fun r e => by injection e with e; exact e.symm), fun _ => by rw [hwn]; exact hbs, hbs.lt, fun i hi => (hgs.block i (by omega) (by simp; omega)).trans (hkp5 i hi)⟩, ?_⟩
        simp only [intOf]
        omega
      · obtain rfl : k = x.steps.length := by omega
        gi_wp2
        refine ⟨⟨x.steps.length + 1, by omega, by go_num, hJ5, fun h => absurd h (by omega), by omega, hkp5⟩, ?_⟩
        simp only [intOf]
        omega
    · obtain rfl : k = x.steps.length + 1 := by omega
      gi_wp2
      go_end0
      exact ⟨⟨_, rfl⟩, hJk⟩
end Go.Proofs.Ytigpefjeelgfdaa

/-
  The places of a works as keys of a map of the call's own.
-/
namespace Go.Proofs.Ytigpefjeelgfdaa
open Go.RowKit
open Go.Maps (Keyed)
open Go.ChangeMaps (setBlock heap_setBlock_same heap_setBlock_other)

theorem keyTy : Try.prog.keyType 150 = true := by kernel_rfl
theorem wideKey : (match Try.prog.underlying 150 with | some (.array _ _) | some (.struct _) => true | _ => false) = true := by rw [Try.underlying150]
theorem rowKey : 150 < Try.prog.types.size := by
  have h : decide (150 < Try.prog.types.size) = true := by kernel_rfl
  exact of_decide_eq_true h
theorem laidOut : laidOutB Try.prog = true := by kernel_rfl
theorem deepKey : Try.prog.keyTypeAt 2 150 = true := by kernel_rfl
set_option maxRecDepth 100000 in
theorem lawKey : WideMaps.KeyLaw Try.prog 150 := deep_law_laid laidOut (m := 2) (by omega) rowKey deepKey wideKey
theorem keyed : Keyed Try.prog 150 := Keyed.of_law lawKey
theorem zeroInt (w : World) : (zeroValue 3).run Try.prog w = .ok (.int .i64 0) w := by kernel_rfl
/-- A place as a value. -/
def plV (s i : Int) : Value := .agg #[.int .i64 s, .int .i64 i]
theorem cellsKey : Try.prog.cellsOf 150 = 2 := by kernel_rfl
theorem cellsI : Try.prog.cellsOf 3 = 1 := by kernel_rfl
theorem litsInt {d : Nat} {n : Int} (h : (Lit.int .i64 n).wf = true) : Try.prog.keyLits (d + 1) 3 [.int .i64 n] = some [.int .i64 n] := by
  unfold Program.keyLits
  rw [Try.underlying3]
  simp [h]
theorem sizeKey : ∃ d, Try.prog.types.size = d + 1 := by
  have h : decide (0 < Try.prog.types.size) = true := by kernel_rfl
  exact ⟨Try.prog.types.size - 1, by have := of_decide_eq_true h; omega⟩
theorem key_ex {s i : Int} (hs : (Lit.int .i64 s).wf = true) (hi : (Lit.int .i64 i).wf = true) : ∃ kl, keyOf Try.prog 150 (plV s i) = some kl := by
  have hf : (plV s i).formed Try.prog 150 = true := by unfold plV Value.formed; rw [Try.underlying150]; simp [cellsKey]
  obtain ⟨d, hd⟩ := sizeKey
  have h1 : ∀ n : Int, (Lit.int .i64 n).wf = true → Try.prog.keyLits Try.prog.types.size 3 [.int .i64 n] = some [.int .i64 n] := fun n h => by rw [hd]; exact litsInt h
  have hl : Try.prog.keyLits (Try.prog.types.size + 1) 150 [.int .i64 s, .int .i64 i] = some [.int .i64 s, .int .i64 i] := by
    generalize Try.prog.types.size = z at h1
    unfold Program.keyLits
    rw [Try.underlying150]
    simp [cellsKey, cellsI, h1 _ hs, h1 _ hi]
  unfold keyOf
  rw [Try.underlying150]
  simp only [keyTy, hf]
  have hc : (plV s i).cells.toList = [.int .i64 s, .int .i64 i] := rfl
  rw [hc, hl]
  exact ⟨_, rfl⟩
/-- The key of a place. -/
noncomputable def plKey (s i : Int) : Lit := (keyOf Try.prog 150 (plV s i)).getD (.bool true)
theorem wfI {n : Int} (h1 : -1000 ≤ n) (h2 : n ≤ 1000000000) : (Lit.int .i64 n).wf = true := WalkArith.wf_i64 (by omega)
theorem key_of {s i : Int} (hs : -1000 ≤ s) (hs' : s ≤ 1000000000) (hi : -1000 ≤ i) (hi' : i ≤ 1000000000) : keyOf Try.prog 150 (plV s i) = some (plKey s i) := by
  obtain ⟨kl, h⟩ := key_ex (wfI hs hs') (wfI hi hi')
  simp [plKey, h]
theorem key_ne {s i s' i' : Int} (hs : -1000 ≤ s) (hs' : s ≤ 1000000000) (hi : -1000 ≤ i) (hi' : i ≤ 1000000000) (ht : -1000 ≤ s') (ht' : s' ≤ 1000000000) (hj : -1000 ≤ i') (hj' : i' ≤ 1000000000) (h : ¬ (s = s' ∧ i = i')) : plKey s i ≠ plKey s' i' := by
  intro e
  have h1 := key_of hs hs' hi hi'
  have h2 := key_of ht ht' hj hj'
  rw [e] at h1
  have := lawKey.inj h1 h2
  simp [plV] at this
  exact h this

/-! ### '+=' at an entry -/
section
variable {H : Type} {w : World} {b n : Nat} {D : DataW H}
theorem run_entry (h : w.ownsMap Try.prog 150 (plainElem (H := H) Try.prog 3) b n D) {key : Value} {kl : Lit} (hkey : keyOf Try.prog 150 key = some kl) :
    ∃ (v0 : Value) (st : Nat) (w1 : World), (Instr.mapEntry 120 (.map (some b)) key).run Try.prog w = .ok (.tuple #[v0, goInt st]) w1 ∧
      (Instr.mapUpdate 120 (.map (some b)) key v0).run Try.prog w = .ok () w1 ∧ (Instr.lookup 120 (.map (some b)) key false).run Try.prog w = .ok v0 w := by
  obtain ⟨es, clock, hb, F, hs, hD⟩ := h
  have ht := Try.underlying120
  rcases lawKey.find w hkey es.toList F.keys with ⟨h1, h2⟩ | ⟨j, e0, h1, h2, h3⟩
  · refine ⟨.int .i64 0, clock, setBlock w b (.map (es.push ⟨key, .int .i64 0, clock⟩) (clock + 1)), ?_, ?_, ?_⟩
    · simp [Instr.mapEntry, run_underlying ht, MapKept.run_getObj_map hb, lawKey.check w false hkey, h1, zeroInt, MapKept.run_setObj_map _ hb, Result.andThen, setBlock]
    · simp [Instr.mapUpdate, run_underlying ht, MapKept.run_getObj_map hb, lawKey.check w false hkey, h1, MapKept.run_setObj_map _ hb, Result.andThen, setBlock]
    · simp [Instr.lookup, run_underlying ht, MapKept.run_getObj_map hb, lawKey.check w _ hkey, h1, zeroInt, Result.andThen]
  · have hj : es[j]? = some e0 := by simpa using h2
    refine ⟨e0.val, e0.born, setBlock w b (.map (es.modify j fun e => { e with key := key, val := e0.val }) clock), ?_, ?_, ?_⟩
    · have hsame : es.modify j (fun e => { e with key := key }) = es.modify j fun e => { e with key := key, val := e0.val } := by
        apply Array.ext_getElem?
        intro i
        rw [Array.getElem?_modify, Array.getElem?_modify]
        split
        · rename_i hij
          subst hij
          rw [hj]
          rfl
        · rfl
      simp [Instr.mapEntry, run_underlying ht, MapKept.run_getObj_map hb, lawKey.check w false hkey, h1, hj, h3, lawKey.stays w hkey, hsame, MapKept.run_setObj_map _ hb, Result.andThen, setBlock]
    · simp [Instr.mapUpdate, run_underlying ht, MapKept.run_getObj_map hb, lawKey.check w false hkey, h1, hj, h3, lawKey.stays w hkey, MapKept.run_setObj_map _ hb, Result.andThen, setBlock]
    · simp [Instr.lookup, run_underlying ht, MapKept.run_getObj_map hb, lawKey.check w _ hkey, h1, Result.andThen]
theorem setBlock_twice (o o' : Obj) : setBlock (setBlock w b o) b o' = setBlock w b o' := by simp [setBlock]
/-- What the entry for '+=' leaves, and what the store behind it does. -/
theorem own_entry (h : w.ownsMap Try.prog 150 (plainElem Try.prog 3) b n D) (hn : n < maxLen) {key : Value} {kl : Lit} (hkey : keyOf Try.prog 150 key = some kl) {c : Int} (hc : D.atKey kl (.lit (.int .i64 0)) = .lit (.int .i64 c)) :
    ∃ (st : Nat) (w1 : World), (Instr.mapEntry 120 (.map (some b)) key).run Try.prog w = .ok (.tuple #[.int .i64 c, goInt st]) w1 ∧ w.grownBy w1 (some b) ∧
      (Instr.lookup 120 (.map (some b)) key false).run Try.prog w1 = .ok (.int .i64 c) w1 ∧
      ∀ d : Int, (Lit.int .i64 d).wf = true → ∃ w2, (Instr.entryStore 120 (.map (some b)) (goInt st) (.int .i64 d)).run Try.prog w1 = .ok () w2 ∧ w1.grownBy w2 (some b) ∧
        w2.ownsMap Try.prog 150 (plainElem Try.prog 3) b (n + 1) (D.put kl (.lit (.int .i64 d))) := by
  have ht := Try.underlying120
  have he := Try.underlying3
  obtain ⟨v0, st, w1, hE, hU, hL⟩ := run_entry h hkey
  obtain ⟨c', hL', hc', hwc⟩ := h.lookup_int keyed ht he (zeroInt w) hkey
  rw [hL] at hL'
  injection hL' with hv _
  subst hv
  rw [hc] at hc'
  obtain rfl : c = c' := by simpa using hc'
  obtain ⟨w1', hU', ho1, hg1⟩ := h.update keyed ht hn hkey (plainElem_int he hwc)
  rw [hU] at hU'
  injection hU' with _ hw
  subst hw
  refine ⟨st, w1, hE, hg1, ?_, fun d hd => ?_⟩
  · obtain ⟨c2, hL2, hc2, _⟩ := ho1.lookup_int keyed ht he (zeroInt w1) hkey
    rw [Maps.atKey_put_same h.isMap (keyed.key hkey)] at hc2
    obtain rfl : c = c2 := by simpa using hc2
    exact hL2
  · have h0 := h
    obtain ⟨es, clock, hb, F, hs, hD⟩ := h0
    obtain ⟨v0', st', es1, clock1, hE', _, hS⟩ := WideElems.entry_then_store (w := w) lawKey ht (z := .int .i64 0) (fun u => zeroInt u) hb F hkey
    rw [hE] at hE'
    injection hE' with hp hw1
    obtain rfl : st = st' := by simp [goInt] at hp; omega
    subst hw1
    obtain ⟨es', clock', hS1, hS2⟩ := hS (setBlock w b (.map es1 clock1)) (.int .i64 d) (heap_setBlock_same hb _)
    obtain ⟨w2, hU2, ho2, hg2⟩ := h.update keyed ht hn hkey (plainElem_int he hd)
    rw [hS2] at hU2
    injection hU2 with _ hw2
    subst hw2
    rw [setBlock_twice] at hS1
    refine ⟨_, hS1, ?_, ho2⟩
    have : World.mapTurned (setBlock w b (.map es1 clock1)) (setBlock w b (.map es' clock')) b := ⟨es1, clock1, es', clock', heap_setBlock_same hb _, (setBlock_twice _ _).symm⟩
    exact this.grown
end
end Go.Proofs.Ytigpefjeelgfdaa

/-
  Walks of layer 1: what comes out of a range.
-/
namespace Go.Proofs.Ytigpefjeelgfdaa
open Go.RowKit

theorem wpQuiet_field {P : Program} {ops : Array Oper} {C : World → Prop} {Q : Act → Prop} {rest : List Oper} {a : Act} {d : Tmp} {st t : TypeId} {x : Operand} {i : Nat} {pos : String} {af : Array Edge}
    (u v : Value) (hx : a.eval x = u) (hr : ∀ W, (Instr.field st u i).run P W = .ok v W) (h : wpQuiet P ops C Q rest (a.put (some d) v)) : wpQuiet P ops C Q (⟨some d, .field st x i, t, pos, af, none⟩ :: rest) a :=
  wpQuiet_step fun K hK => by
    rw [if_pos (by simp [Region.wanted])]
    refine ⟨v, fun W _ => ?_, hK _ h⟩
    unfold Oper.quietAt
    simp only [execOp, hx, Sem.run_bind, hr, Result.andThen_ok, Sem.run_pure]
    exact ⟨rfl, by simp⟩
theorem run_field_lo (x y : Int) (W : World) : (Instr.field 33 (.agg #[.int .i64 x, .int .i64 y]) 0).run Try.prog W = .ok (.int .i64 x) W := by
  simp [Instr.field, run_underlying Try.underlying33, part, asAgg, isAgg, run_underlying Try.underlying2]
theorem run_field_hi (x y : Int) (W : World) : (Instr.field 33 (.agg #[.int .i64 x, .int .i64 y]) 1).run Try.prog W = .ok (.int .i64 y) W := by
  simp [Instr.field, run_underlying Try.underlying33, part, asAgg, isAgg, run_underlying Try.underlying2]
/-- What comes out of a range, by its ends. -/
def thr (ks : List Kink) (lo hi : Int) : Rg := ((aft ks lo).1, (aft ks hi).2)

set_option maxHeartbeats 1000000 in
set_option maxRecDepth 100000 in
theorem through_any (A : Option Addr) (c : Nat) (ks : List Kink) (lo hi : Int) (B : Nat) (w : World) (h : KinksA w B A ks) (hc : ks.length ≤ c) (hm : c ≤ 9223372036854775807) (hB : B ≤ w.heap.size) (h0 : 0 < ks.length) :
    Calls Try.prog 107 #[.agg #[.slice A ks.length c], .agg #[.int .i64 lo, .int .i64 hi]] w fun e w' => e = .returned (.agg #[.int .i64 (thr ks lo hi).1, .int .i64 (thr ks lo hi).2]) ∧ Below w.heap.size w w' := by
  go_enter Try.func107, Try.ntmps107
  go_wp2_with fail
  generalize hW : ((w.alloc (.cells #[.slice A ks.length c] 28)).alloc (.cells #[.int .i64 lo, .int .i64 hi] 33)).alloc (.cells #[.int .i64 0, .int .i64 0] 33) = W0
  have hb0 : Below w.heap.size w W0 := by rw [← hW]; exact bel
  have b1 : Box W0 w.heap.size 28 #[.slice A ks.length c] := by rw [← hW]; exact bxt
  have b2 : Box W0 (w.heap.size + 1) 33 #[.int .i64 lo, .int .i64 hi] := by rw [← hW]; exact bxt
  have b3 : Box W0 (w.heap.size + 1 + 1) 33 #[.int .i64 0, .int .i64 0] := by rw [← hW]; exact bxt
  clear hW
  obtain ⟨u1, u2⟩ := b1.one
  obtain ⟨t1, t2, t3, t4⟩ := b2.two
  have z1 := b1.lt
  have z2 := b2.lt
  have z3 := b3.lt
  have hk : ∀ W : World, Below W0.heap.size W0 W → KinksA W B A ks := fun W hW => kinks_on h (hb0.trans (hW.mono hb0.size)) hB
  have hkl : ∀ n : Int, ∀ W : World, Below W0.heap.size W0 W → Calls Try.prog 54 #[.agg #[.slice A ks.length c], .int .i64 n] W fun e w' => e = .returned (.agg #[.int .i64 (aft ks n).1, .int .i64 (aft ks n).2]) ∧ Below W.heap.size W w' := fun n W hW => heatAfter_any A c ks n B W (hk W hW) hc hm (by have := hW.size; have := hb0.size; omega) h0
  obtain ⟨a1, a2, hal⟩ : ∃ a1 a2, aft ks lo = (a1, a2) := ⟨_, _, rfl⟩
  obtain ⟨e1, e2, hah⟩ : ∃ a1 a2, aft ks hi = (a1, a2) := ⟨_, _, rfl⟩
  have h1 := hkl lo
  have h2 := hkl hi
  rw [hal] at h1
  rw [hah] at h2
  have H1 := Lib.hid h1
  have H2 := Lib.hid h2
  have HA := Lib.hid hal
  have HE := Lib.hid hah
  clear hk hkl h1 h2 hal hah
  refine wp_region_later_tail 11 (by kernel_rfl) (by kernel_rfl) ?_
  simp only [List.take_succ_cons, List.take_zero, List.drop_succ_cons, List.drop_zero]
  have _hl := later_reads W0
  (repeat (go_big_quiet_step ((go_at_call 54; exact LaterW.callsB (fun W hW => H1.out W hW)))))
  refine wpQuiet_field (.agg #[.int .i64 a1, .int .i64 a2]) (.int .i64 a1) rfl (run_field_lo a1 a2) ?_
  simp only [Act.put, List.setIfInBounds_toArray, List.set_cons_zero, List.set_cons_succ]
  (repeat (go_big_quiet_step ((go_at_call 54; exact LaterW.callsB (fun W hW => H2.out W hW)))))
  refine wpQuiet_field (.agg #[.int .i64 e1, .int .i64 e2]) (.int .i64 e2) rfl (run_field_hi e1 e2) ?_
  simp only [Act.put, List.setIfInBounds_toArray, List.set_cons_zero, List.set_cons_succ]
  (repeat (go_big_quiet_step ((go_at_call 54; exact LaterW.callsB (fun W hW => H2.out W hW)))))
  refine wpQuiet_nil ?_
  intro W1 hw'
  have hb_W1 := later_below hw'
  clear hw' _hl
  have c3 : Box W1 (w.heap.size + 1 + 1) 33 #[.int .i64 0, .int .i64 0] := Box.below b3 hb_W1 z3
  obtain ⟨p1, p2, p3, p4⟩ := c3.two
  have hb1 : Below w.heap.size w W1 := hb0.trans (hb_W1.mono hb0.size)
  clear u1 u2 t1 t2 t3 t4
  go_wp2_with fail
  refine bodyPost_ret (v := .agg #[.int .i64 a1, .int .i64 e2]) (by simp [results, Try.results107, go_sem, *]) rfl ?_
  exact ⟨by simp only [thr, HA.out, HE.out], bel⟩
end Go.Proofs.Ytigpefjeelgfdaa

/-
  Walks of layer 1: how many recipes can have made a blade, and the places that they have.
-/
namespace Go.Proofs.Ytigpefjeelgfdaa
open Go.RowKit
open Go.Maps (Keyed)

def sumTo (f : Nat → Nat) : Nat → Nat
  | 0 => 0
  | k + 1 => sumTo f k + f k
theorem sumTo_le {f : Nat → Nat} {c : Nat} : ∀ k, (∀ i, i < k → f i ≤ c) → sumTo f k ≤ k * c
  | 0, _ => by simp [sumTo]
  | k + 1, h => by
    have h1 := sumTo_le k (fun i hi => h i (by omega))
    have h2 := h k (by omega)
    rw [sumTo, Nat.succ_mul]
    omega
def thrAt (x : Works) (s i : Nat) (lo hi : Int) : Rg := thr (kinksAt (stepAt x.steps s) i) lo hi
/-- How many choices of ways, from step s on, d steps, lead from a range to what was measured. -/
def cntN (x : Works) (mlo mhi : Int) : Nat → Nat → Int → Int → Nat
  | 0, _, lo, hi => if lo ≤ mhi ∧ mlo ≤ hi then 1 else 0
  | d + 1, s, lo, hi => sumTo (fun i => cntN x mlo mhi d (s + 1) (thrAt x s i lo hi).1 (thrAt x s i lo hi).2) (stepAt x.steps s).length
/-- How many of them have the way j at step t. -/
def addN (x : Works) (mlo mhi : Int) : Nat → Nat → Int → Int → Int → Int → Nat
  | 0, _, _, _, _, _ => 0
  | d + 1, s, lo, hi, t, j =>
    (if t = s ∧ 0 ≤ j ∧ j < ((stepAt x.steps s).length : Int) then cntN x mlo mhi d (s + 1) (thrAt x s j.toNat lo hi).1 (thrAt x s j.toNat lo hi).2 else 0) +
      sumTo (fun i => addN x mlo mhi d (s + 1) (thrAt x s i lo hi).1 (thrAt x s i lo hi).2 t j) (stepAt x.steps s).length
def addTo (x : Works) (mlo mhi : Int) (d s : Nat) (lo hi : Int) (k : Nat) (t j : Int) : Nat :=
  (if t = s ∧ 0 ≤ j ∧ j < (k : Int) then cntN x mlo mhi d (s + 1) (thrAt x s j.toNat lo hi).1 (thrAt x s j.toNat lo hi).2 else 0) +
    sumTo (fun i => addN x mlo mhi d (s + 1) (thrAt x s i lo hi).1 (thrAt x s i lo hi).2 t j) k
theorem addTo_succ (x : Works) (mlo mhi : Int) (d s : Nat) (lo hi : Int) (k : Nat) (t j : Int) :
    addTo x mlo mhi d s lo hi (k + 1) t j = addTo x mlo mhi d s lo hi k t j + addN x mlo mhi d (s + 1) (thrAt x s k lo hi).1 (thrAt x s k lo hi).2 t j +
      if t = s ∧ j = k then cntN x mlo mhi d (s + 1) (thrAt x s k lo hi).1 (thrAt x s k lo hi).2 else 0 := by
  unfold addTo
  rw [sumTo]
  by_cases ht : t = s ∧ j = k
  · obtain ⟨rfl, rfl⟩ := ht
    have h1 : ((s : Int) = s ∧ 0 ≤ (k : Int) ∧ (k : Int) < ((k + 1 : Nat) : Int)) := ⟨rfl, by omega, by omega⟩
    have h2 : ¬ ((s : Int) = s ∧ 0 ≤ (k : Int) ∧ (k : Int) < (k : Int)) := by omega
    rw [if_pos h1, if_neg h2, if_pos ⟨rfl, rfl⟩, Int.toNat_natCast]
    omega
  · rw [if_neg ht]
    by_cases h1 : t = s ∧ 0 ≤ j ∧ j < (k : Int)
    · rw [if_pos h1, if_pos ⟨h1.1, h1.2.1, by omega⟩]; omega
    · rw [if_neg h1, if_neg (by omega)]; omega
def Z : Nat → Nat
  | 0 => 1
  | d + 1 => 6 * Z d
theorem Z_pos : ∀ d, 1 ≤ Z d
  | 0 => by simp [Z]
  | d + 1 => by have := Z_pos d; rw [Z]; omega
theorem ways_few {x : Works} (h : worksErr x = 0) (s : Nat) : (stepAt x.steps s).length ≤ 5 := by
  rcases hs : x.steps[s]? with _ | ws
  · simp [stepAt, List.getD, hs]
  · have h1 := (worksOk_iff.1 h).1
    simp only [manyOk, Bool.and_eq_true] at h1
    have := List.all_eq_true.1 h1.2 ws (List.mem_of_getElem? hs)
    simp only [waysMany, Bool.not_eq_true', decide_eq_false_iff_not] at this
    rw [stepAt_of (Lib.hid hs)]
    omega
theorem cntN_le {x : Works} (h : worksErr x = 0) (mlo mhi : Int) : ∀ d s lo hi, cntN x mlo mhi d s lo hi ≤ Z d
  | 0, s, lo, hi => by unfold cntN Z; split <;> omega
  | d + 1, s, lo, hi => by
    have h1 := sumTo_le (c := Z d) (stepAt x.steps s).length (f := fun i => cntN x mlo mhi d (s + 1) (thrAt x s i lo hi).1 (thrAt x s i lo hi).2) (fun i _ => cntN_le h mlo mhi d _ _ _)
    have h2 : (stepAt x.steps s).length * Z d ≤ 5 * Z d := Nat.mul_le_mul_right _ (ways_few h s)
    rw [cntN, Z]
    omega
theorem addN_le {x : Works} (h : worksErr x = 0) (mlo mhi : Int) : ∀ d s lo hi t j, addN x mlo mhi d s lo hi t j ≤ Z d
  | 0, _, _, _, _, _ => by simp [addN]
  | d + 1, s, lo, hi, t, j => by
    have h1 := sumTo_le (c := Z d) (stepAt x.steps s).length (f := fun i => addN x mlo mhi d (s + 1) (thrAt x s i lo hi).1 (thrAt x s i lo hi).2 t j) (fun i _ => addN_le h mlo mhi d _ _ _ _ _)
    have h2 : (stepAt x.steps s).length * Z d ≤ 5 * Z d := Nat.mul_le_mul_right _ (ways_few h s)
    have h3 := cntN_le h mlo mhi d (s + 1) (thrAt x s j.toNat lo hi).1 (thrAt x s j.toNat lo hi).2
    rw [addN, Z]
    split <;> omega
theorem addTo_le {x : Works} (h : worksErr x = 0) (mlo mhi : Int) (d s : Nat) (lo hi : Int) (k : Nat) (t j : Int) : addTo x mlo mhi d s lo hi k t j ≤ (k + 1) * Z d := by
  have h1 := sumTo_le (c := Z d) k (f := fun i => addN x mlo mhi d (s + 1) (thrAt x s i lo hi).1 (thrAt x s i lo hi).2 t j) (fun i _ => addN_le h mlo mhi d _ _ _ _ _)
  have h3 := cntN_le h mlo mhi d (s + 1) (thrAt x s j.toNat lo hi).1 (thrAt x s j.toNat lo hi).2
  rw [addTo, Nat.succ_mul]
  split <;> omega
theorem sumTo_cnt_le {x : Works} (h : worksErr x = 0) (mlo mhi : Int) (d s : Nat) (lo hi : Int) (k : Nat) : sumTo (fun i => cntN x mlo mhi d (s + 1) (thrAt x s i lo hi).1 (thrAt x s i lo hi).2) k ≤ k * Z d :=
  sumTo_le k fun i _ => cntN_le h mlo mhi d _ _ _

/-! ### the map of places -/
abbrev MapD := DataW Unit
/-- The map holds f at all places. -/
def MapIs (D : MapD) (f : Int → Int → Nat) : Prop := ∀ t j : Int, -1 ≤ t → t ≤ 1000 → 0 ≤ j → j ≤ 1000 → D.atKey (plKey t j) (.lit (.int .i64 0)) = .lit (.int .i64 (f t j : Int))
/-- Block b is such a map, of at most n entries. -/
def Places (w : World) (b n : Nat) (f : Int → Int → Nat) : Prop := ∃ D : MapD, w.ownsMap Try.prog 150 (plainElem Try.prog 3) b n D ∧ MapIs D f
theorem MapIs.congr {D : MapD} {f g : Int → Int → Nat} (h : MapIs D f) (e : ∀ t j, f t j = g t j) : MapIs D g := fun t j a b c d => by rw [h t j a b c d, e]
theorem Places.congr {w : World} {b n : Nat} {f g : Int → Int → Nat} (h : Places w b n f) (e : ∀ t j, f t j = g t j) : Places w b n g := by
  obtain ⟨D, h1, h2⟩ := h
  exact ⟨D, h1, h2.congr e⟩
theorem Places.gb {w w' : World} {b n : Nat} {f : Int → Int → Nat} (h : Places w b n f) {row : Option Nat} (k : w.grownBy w' row) (hne : some b ≠ row) : Places w' b n f := by
  obtain ⟨D, h1, h2⟩ := h
  exact ⟨D, h1.kept k hne, h2⟩
theorem Places.lt {w : World} {b n : Nat} {f : Int → Int → Nat} (h : Places w b n f) : b < w.heap.size := by
  obtain ⟨D, h1, h2⟩ := h
  exact h1.lt
theorem isKey {v : Value} {kl : Lit} (h : keyOf Try.prog 150 v = some kl) : WideAt.IsKeyLit kl := keyed.key h
/-- '+=' at a place, piece by piece: the look-up, the entry, the look-up behind it, the store. -/
theorem Places.plus {w : World} {b n : Nat} {f : Int → Int → Nat} (h : Places w b n f) (hn : n ≤ 100000000) {t j : Int} (ht : -1 ≤ t) (ht' : t ≤ 1000) (hj : 0 ≤ j) (hj' : j ≤ 1000) :
    (Instr.lookup 120 (.map (some b)) (.agg #[.int .i64 t, .int .i64 j]) false).run Try.prog w = .ok (.int .i64 (f t j : Int)) w ∧
    ∃ (st : Int) (w1 : World), (Instr.mapEntry 120 (.map (some b)) (.agg #[.int .i64 t, .int .i64 j])).run Try.prog w = .ok (.tuple #[.int .i64 (f t j : Int), .int .i64 st]) w1 ∧ w.grownBy w1 (some b) ∧
      (Instr.lookup 120 (.map (some b)) (.agg #[.int .i64 t, .int .i64 j]) false).run Try.prog w1 = .ok (.int .i64 (f t j : Int)) w1 ∧
      ∀ (y : Int) (c : Nat), y = ((f t j + c : Nat) : Int) → f t j + c ≤ 1000000000 → ∃ w2, (Instr.entryStore 120 (.map (some b)) (.int .i64 st) (.int .i64 y)).run Try.prog w1 = .ok () w2 ∧ w1.grownBy w2 (some b) ∧
        Places w2 b (n + 1) (fun t' j' => f t' j' + if t' = t ∧ j' = j then c else 0) := by
  obtain ⟨D, h1, h2⟩ := h
  have hkey := key_of (s := t) (i := j) (by omega) (by omega) (by omega) (by omega)
  have hc := h2 t j ht ht' hj hj'
  obtain ⟨kl, hkl⟩ : ∃ kl, plKey t j = kl := ⟨_, rfl⟩
  rw [hkl] at hkey hc
  have hik := isKey hkey
  obtain ⟨c', hL, hc', _⟩ := h1.lookup_int keyed Try.underlying120 Try.underlying3 (zeroInt w) hkey
  rw [hc] at hc'
  obtain rfl : ((f t j : Nat) : Int) = c' := by simpa using hc'
  obtain ⟨st, w1, hE, hg1, hL1, hS⟩ := own_entry h1 (by simp only [maxLen]; omega) hkey hc
  refine ⟨hL, st, w1, hE, hg1, hL1, fun y c hy hb => ?_⟩
  subst hy
  obtain ⟨w2, hS2, hg2, ho2⟩ := hS ((f t j + c : Nat) : Int) (wfI (by omega) (by omega))
  refine ⟨w2, hS2, hg2, _, ho2, fun t' j' a1 a2 a3 a4 => ?_⟩
  show _ = DataW.lit (Lit.int .i64 ((f t' j' + (if t' = t ∧ j' = j then c else 0) : Nat) : Int))
  by_cases e : t' = t ∧ j' = j
  · obtain ⟨rfl, rfl⟩ := e
    rw [hkl]
    refine (Maps.atKey_put_same h1.isMap hik _ _).trans ?_
    have e2 : (if t' = t' ∧ j' = j' then c else 0) = c := if_pos ⟨rfl, rfl⟩
    rw [e2]
  · have hne : plKey t' j' ≠ kl := by
      rw [← hkl]
      exact key_ne (by omega) (by omega) (by omega) (by omega) (by omega) (by omega) (by omega) (by omega) e
    rw [Maps.atKey_put_other hne, h2 t' j' a1 a2 a3 a4, if_neg e, Nat.add_zero]

/-- The block of makers: bars, steps, what was measured, how many, the places. -/
def Makers (w : World) (c : Nat) (Ab As : Option Addr) (cb cs : Nat) (x : Works) (mlo mhi tot : Int) (b : Nat) : Prop :=
  Box w c 122 #[.slice Ab x.bars.length cb, .slice As x.steps.length cs, .int .i64 mlo, .int .i64 mhi, .int .i64 tot, .map (some b)]
theorem Makers.cells {w : World} {c : Nat} {Ab As : Option Addr} {cb cs : Nat} {x : Works} {mlo mhi tot : Int} {b : Nat} (h : Makers w c Ab As cb cs x mlo mhi tot b) :
    w.cell? ⟨c, 0, none⟩ = some (.slice Ab x.bars.length cb) ∧ w.cell? ⟨c, 1, none⟩ = some (.slice As x.steps.length cs) ∧ w.cell? ⟨c, 2, none⟩ = some (.int .i64 mlo) ∧ w.cell? ⟨c, 2 + 1, none⟩ = some (.int .i64 mhi) ∧
      w.cell? ⟨c, 4, none⟩ = some (.int .i64 tot) ∧ w.cell? ⟨c, 5, none⟩ = some (.map (some b)) ∧ w.frozen? ⟨c, 4, none⟩ = false := ⟨Box.cell h 0, Box.cell h 1, Box.cell h 2, Box.cell h 3, Box.cell h 4, Box.cell h 5, Box.frozen h 4⟩
end Go.Proofs.Ytigpefjeelgfdaa

/-
  Walks of layer 1: count.
-/
namespace Go.Proofs.Ytigpefjeelgfdaa
open Go.RowKit
open Go.Maps (Keyed)

def RetCount (x : Works) (mlo mhi lo hi : Int) (d s b n : Nat) (f : Int → Int → Nat) (w : World) (e : Ending) (w' : World) : Prop :=
  e = .returned (.int .i64 (cntN x mlo mhi d s lo hi : Int)) ∧ w.grownBy w' (some b) ∧ ∃ n', Hid (n' + 1 ≤ n + Z d) ∧ Places w' b n' (fun t j => f t j + addN x mlo mhi d s lo hi t j)

set_option maxHeartbeats 1000000 in
theorem count_zero (c b : Nat) (Ab As : Option Addr) (cb cs : Nat) (x : Works) (mlo mhi tot lo hi : Int) (n : Nat) (f : Int → Int → Nat) (w : World) (hm : Makers w c Ab As cb cs x mlo mhi tot b) (hp : Places w b n f) :
    Calls Try.prog 103 #[.pointer (some ⟨c, 0, none⟩), .int .i64 x.steps.length, .agg #[.int .i64 lo, .int .i64 hi]] w (RetCount x mlo mhi lo hi 0 x.steps.length b n f w) := by
  have hz := Box.lt hm
  have hzb := hp.lt
  obtain ⟨u0, u1, u2, u3, u4, u5, u6⟩ := hm.cells
  have hret : ∀ (r : Int) (w' : World), r = (cntN x mlo mhi 0 x.steps.length lo hi : Int) → w.grownBy w' none → RetCount x mlo mhi lo hi 0 x.steps.length b n f w (.returned (.int .i64 r)) w' := by
    intro r w' hr hg
    refine ⟨by rw [hr], ⟨hg.os, hg.tape, hg.output, hg.size, fun i hi _ => hg.block i hi (by simp)⟩, n, Lib.hid (by simp [Z]), (hp.gb hg (by simp)).congr fun t j => by simp [addN]⟩
  have HR := Lib.hid hret
  clear hret
  by_cases h1 : lo ≤ mhi
  · by_cases h2 : mlo ≤ hi
    · have hc : (cntN x mlo mhi 0 x.steps.length lo hi : Int) = 1 := by unfold cntN; rw [if_pos ⟨h1, h2⟩]; rfl
      have HC := Lib.hid hc
      clear hc
      go_enter Try.func103, Try.ntmps103
      go_wp2_with fail
      go_quiet (fail)
      go_wp2_with fail
      go_ret
      exact HR.out 1 _ HC.out.symm (gb_drewN (gb_alloc (gb_refl w _) _) _)
    · have hc : (cntN x mlo mhi 0 x.steps.length lo hi : Int) = 0 := by unfold cntN; rw [if_neg (fun h => h2 h.2)]; rfl
      have HC := Lib.hid hc
      clear hc
      go_enter Try.func103, Try.ntmps103
      go_wp2_with fail
      go_quiet (fail)
      go_wp2_with fail
      go_ret
      exact HR.out 0 _ HC.out.symm (gb_drewN (gb_alloc (gb_refl w _) _) _)
  · have hc : (cntN x mlo mhi 0 x.steps.length lo hi : Int) = 0 := by unfold cntN; rw [if_neg (fun h => h1 h.1)]; rfl
    have HC := Lib.hid hc
    clear hc
    have hdec : decide (lo ≤ mhi) = false := decide_eq_false h1
    go_enter Try.func103, Try.ntmps103
    go_wp2_with fail
    go_quiet (fail)
    go_wp2_with fail
    go_ret
    exact HR.out 0 _ HC.out.symm (gb_drewN (gb_alloc (gb_refl w _) _) _)

set_option maxRecDepth 100000 in
set_option maxHeartbeats 2000000 in
theorem count_any (c b : Nat) (Ab As : Option Addr) (cb cs : Nat) (x : Works) (mlo mhi tot : Int) (B : Nat) (hok : worksErr x = 0) (hBb : B ≤ b) (hcb : c ≠ b) :
    ∀ (d s : Nat) (lo hi : Int) (n M : Nat) (f : Int → Int → Nat) (w : World), s + d = x.steps.length → In w B Ab As none cb cs 0 x [] → Makers w c Ab As cb cs x mlo mhi tot b → Places w b n f →
      Hid (n + Z d ≤ 100000000) → Hid (M + Z d ≤ 100000000) → Hid (∀ t j, f t j ≤ M) →
      Calls Try.prog 103 #[.pointer (some ⟨c, 0, none⟩), .int .i64 s, .agg #[.int .i64 lo, .int .i64 hi]] w (RetCount x mlo mhi lo hi d s b n f w) := by
  intro d
  induction d with
  | zero =>
    intro s lo hi n M f w hs _ hm hp _ _ _
    obtain rfl : s = x.steps.length := by omega
    exact count_zero c b Ab As cb cs x mlo mhi tot lo hi n f w hm hp
  | succ d ih =>
    intro s lo hi n M f w hs h hm hp hn hM hf
    have IH := Lib.hid ih
    clear ih
    have hsl : s < x.steps.length := by omega
    have hs6 := steps_few hok
    obtain ⟨b1, o1, A1, c1, ws, rfl, hb1, hws, d1, l1, l2, hwsA⟩ := stepsA h.steps hsl
    have hwl : Hid ((stepAt x.steps s).length = ws.length) := by rw [stepAt_of hws]; exact rfl
    have hw5 : ws.length ≤ 5 := by have := ways_few hok s; rw [hwl.out] at this; exact this
    have hB := h.le
    have hz := Box.lt hm
    have hzb := hp.lt
    have hbw : b1 < w.heap.size := by omega
    obtain ⟨u0, u1, u2, u3, u4, u5, u6⟩ := hm.cells
    have hne : ((s : Int) == (x.steps.length : Int)) = false := by simp; omega
    have hsI : (s : Int) < (x.steps.length : Int) := by omega
    have Z1 := Z_pos d
    have hZ : Hid (Z (d + 1) = 6 * Z d) := rfl
    have HS := Lib.hid hs
    clear hs
    go_enter Try.func103, Try.ntmps103
    go_wp2_with fail
    clear u0 u1 u2 u3 u4 u5 u6
    go_loopw [7, 47] (fun v i wr => ∃ (k nk : Nat) (T : Int), k ≤ ws.length ∧ i = .int .i64 k ∧ v = .int .i64 T ∧ Hid (T = (sumTo (fun i => cntN x mlo mhi d (s + 1) (thrAt x s i lo hi).1 (thrAt x s i lo hi).2) k : Int)) ∧
        w.grownBy wr (some b) ∧ Box wr w.heap.size 33 #[.int .i64 lo, .int .i64 hi] ∧ Hid (nk ≤ n + k * Z d) ∧ Places wr b nk (fun t j => f t j + addTo x mlo mhi d s lo hi k t j))
      (fun _ i _ => ws.length - (intOf i).toNat)
    case atStart =>
      refine ⟨0, n, 0, by omega, rfl, rfl, Lib.hid (by simp [sumTo]), gb_alloc (gb_refl w _) _, Box.new _ _ _, Lib.hid (by simp), ?_⟩
      exact (hp.gb (gb_alloc (gb_refl w none) _) (by simp)).congr fun t j => by
        have : ¬ (t = s ∧ 0 ≤ j ∧ j < ((0 : Nat) : Int)) := by omega
        simp only [addTo, sumTo, if_neg this, Nat.add_zero]
    case round =>
      obtain ⟨k, nk, T, hk, rfl, rfl, hT, hg, hbx, hnk, hpk⟩ := hrel
      have hz2 := hbx.lt
      have hbz := hpk.lt
      have hgs := hg.size
      by_cases hlt : k < ws.length
      · have hlt' : (k : Int) < (ws.length : Int) := by omega
        have hbel : Below B w wr := gb_to_below hg hB (by simp; omega)
        obtain ⟨b2, o2, A2, c2, ks, rfl, hb2, hks, e1, l3, l4, hksA⟩ := waysA (ways_on hwsA hbel (Nat.le_refl _)) hlt
        have hbw2 : b2 < wr.heap.size := by omega
        have hmr : Makers wr c Ab _ cb cs x mlo mhi tot b := Box.gb hm hg (by simpa using hcb)
        obtain ⟨t1, t2, t3, t4⟩ := hbx.two
        have hk0 : KinksA (wr.alloc (.cells #[.slice A2 ks.length c2] 28)) B A2 ks := kinks_on hksA (n := wr.heap.size) ((Below.refl _ _).alloc (Nat.le_refl _) _) (by omega)
        have hk9 : 0 < ks.length := (way_ok (wayErr_of hok hws.out hks.out)).1
        have hth : thrAt x s k lo hi = thr ks lo hi := by unfold thrAt; rw [stepAt_of hws, kinksAt_of hks]
        obtain ⟨r1, r2, hr⟩ : ∃ r1 r2, thr ks lo hi = (r1, r2) := ⟨_, _, rfl⟩
        rw [hr] at hth
        have HTH := Lib.hid hth
        have HR := Lib.hid hr
        clear hth hr
        have hg0 : w.grownBy (wr.alloc (.cells #[.slice A2 ks.length c2] 28)) (some b) := gb_alloc hg _
        have hm0 : Makers (wr.alloc (.cells #[.slice A2 ks.length c2] 28)) c Ab _ cb cs x mlo mhi tot b := Box.alloc hmr _
        have hp0 : Places (wr.alloc (.cells #[.slice A2 ks.length c2] 28)) b nk _ := hpk.gb (gb_alloc (gb_refl wr none) _) (by simp)
        have hbx0 : Box (wr.alloc (.cells #[.slice A2 ks.length c2] 28)) w.heap.size 33 #[.int .i64 lo, .int .i64 hi] := Box.alloc hbx _
        obtain ⟨N, hN⟩ : ∃ N, Hid (cntN x mlo mhi d (s + 1) r1 r2 = N) := ⟨_, rfl⟩
        have hkZ : Hid ((k + 2) * Z d ≤ 6 * Z d) := Lib.hid (Nat.mul_le_mul_right _ (by omega))
        have hkZ' : Hid (k * Z d + 2 * Z d = (k + 2) * Z d) := Lib.hid (by rw [Nat.add_mul])
        have hrec : ∀ W, Below (wr.alloc (.cells #[.slice A2 ks.length c2] 28)).heap.size (wr.alloc (.cells #[.slice A2 ks.length c2] 28)) W →
            Calls Try.prog 103 #[.pointer (some ⟨c, 0, none⟩), .int .i64 ((s : Int) + 1), .agg #[.int .i64 r1, .int .i64 r2]] W (fun e w' => e = .returned (.int .i64 (N : Int)) ∧ W.grownBy w' (some b) ∧ ∃ n', Hid (n' + 1 ≤ nk + Z d) ∧ Places w' b n' (fun t j => addTo x mlo mhi d s lo hi k t j + f t j + addN x mlo mhi d (s + 1) r1 r2 t j)) := by
          intro W hW
          have hWs := hW.size
          have hgW := gb_of_below hW none
          have := IH.out (s + 1) r1 r2 nk (M + (k + 1) * Z d) (fun t j => f t j + addTo x mlo mhi d s lo hi k t j) W (by have := HS.out; omega) (h.on (n := B) (gb_to_below (gb_below hg0 hW) hB (by simp; omega)) (Nat.le_refl _)) (Box.gb hm0 hgW (by simp)) (hp0.gb hgW (by simp))
            (by have h1 := hnk.out; have h2 := hn.out; have h3 := hkZ.out; have h4 := hkZ'.out; rw [hZ.out] at h2; exact Lib.hid (by omega))
            (by have h2 := hM.out; have h3 := hkZ.out; have h5 : (k + 1) * Z d + Z d = (k + 2) * Z d := (by rw [← Nat.succ_mul]); rw [hZ.out] at h2; exact Lib.hid (by omega))
            (Lib.hid fun t j => by have h1 := hf.out t j; have h2 := addTo_le hok mlo mhi d s lo hi k t j; exact Nat.add_le_add h1 h2)
          have e1 : ((s + 1 : Nat) : Int) = (s : Int) + 1 := by omega
          rw [e1] at this
          refine this.mono ?_
          rintro e w' ⟨rfl, hg', n', hn', hp'⟩
          exact ⟨by rw [hN.out], hg', n', hn', hp'.congr fun t j => by show f t j + addTo x mlo mhi d s lo hi k t j + _ = _; omega⟩
        have HREC := Lib.hid hrec
        clear hrec
        go_wp2_with (first | (go_at_call 107; refine (through_any A2 c2 ks lo hi B _ hk0 l3 l4 (by simp; omega) hk9).mono ?_; rintro e w2 ⟨rfl, hb2'⟩; rw [HR.out]) | (go_at_call 103; refine (HREC.out w2 hb2').mono ?_; rintro e w3 ⟨rfl, hg3, n3, hn3, hp3⟩))
        have hbz3 := hp3.lt
        have hz23 := hb2'.size
        have hm3 : Makers w3 c Ab _ cb cs x mlo mhi tot b := Box.gb (Box.below hm0 hb2' hm0.lt) hg3 (by simpa using hcb)
        have hbx3 : Box w3 w.heap.size 33 #[.int .i64 lo, .int .i64 hi] := Box.gb (Box.below hbx0 hb2' hbx0.lt) hg3 (by simp; omega)
        have hg03 : w.grownBy w3 (some b) := gb_trans (gb_below hg0 hb2') hg3 (Or.inl rfl)
        have hN1 : N ≤ Z d := by rw [← hN.out]; exact cntN_le hok mlo mhi d _ _ _
        have hfs : f s k ≤ M := hf.out s k
        have has : addTo x mlo mhi d s lo hi k s k ≤ (k + 1) * Z d := addTo_le hok mlo mhi d s lo hi k s k
        have hbs : addN x mlo mhi d (s + 1) r1 r2 s k ≤ Z d := addN_le hok mlo mhi d _ _ _ _ _
        have hn3' : n3 ≤ 100000000 := by have h1 := hnk.out; have h2 := hn.out; have h3 := hkZ.out; have h4 := hkZ'.out; have h5 := hn3.out; rw [hZ.out] at h2; omega
        have hsum : addTo x mlo mhi d s lo hi k s k + f s k + addN x mlo mhi d (s + 1) r1 r2 s k + N ≤ 1000000000 := by have h2 := hM.out; have h3 := hkZ.out; have h6 : (k + 1) * Z d + Z d = (k + 2) * Z d := (by rw [← Nat.succ_mul]); rw [hZ.out] at h2; omega
        have hp3d : Places w3.drew b n3 (fun t j => addTo x mlo mhi d s lo hi k t j + f t j + addN x mlo mhi d (s + 1) r1 r2 t j) := hp3
        obtain ⟨hLk, st, w4, hE, hg4, hLk4, hst⟩ := hp3d.plus hn3' (t := s) (j := k) (by omega) (by omega) (by omega) (by omega)
        obtain ⟨C, hC⟩ : ∃ C : Int, ((addTo x mlo mhi d s lo hi k s k + f s k + addN x mlo mhi d (s + 1) r1 r2 s k : Nat) : Int) = C := ⟨_, rfl⟩
        rw [hC] at hLk hE hLk4
        obtain ⟨w5, hS5, hg5, hp5⟩ := hst (IntKind.i64.wrap (C + (N : Int))) N (by rw [← hC, IntKind.wrap_i64]; omega) hsum
        have HC := Lib.hid hC
        clear hst hfs has hbs hn3' hsum hC hp3d
        have HN1 := Lib.hid hN1
        clear hN1
        have hT' : Hid (wrap64 (T + (N : Int)) = (sumTo (fun i => cntN x mlo mhi d (s + 1) (thrAt x s i lo hi).1 (thrAt x s i lo hi).2) (k + 1) : Int)) := by
          have h1 := sumTo_cnt_le hok mlo mhi d s lo hi k
          have h2 := hn.out
          have h3 := hkZ.out
          have h4 := hkZ'.out
          have h5 := HN1.out
          rw [hZ.out] at h2
          rw [hT.out]
          simp only [sumTo, HTH.out, hN.out]
          show wrap64 _ = _
          unfold wrap64
          refine Lib.hid ?_
          omega
        have hn5 : Hid (n3 + 1 ≤ n + (k + 1) * Z d) := by
          have h1 := hnk.out
          have h2 := hn3.out
          have h3 : (k + 1) * Z d = k * Z d + Z d := Nat.succ_mul _ _
          exact Lib.hid (by omega)
        have hp5' : Places w5 b (n3 + 1) (fun t j => f t j + addTo x mlo mhi d s lo hi (k + 1) t j) := hp5.congr fun t j => by
          have := addTo_succ x mlo mhi d s lo hi k t j
          rw [HTH.out] at this
          dsimp only at this
          rw [hN.out] at this
          rw [this]
          show addTo x mlo mhi d s lo hi k t j + f t j + addN x mlo mhi d (s + 1) r1 r2 t j + _ = _
          omega
        have hg5' : w.grownBy w5 (some b) := gb_trans (gb_trans (gb_drew hg03) hg4 (Or.inl rfl)) hg5 (Or.inl rfl)
        have hbx5 : Box w5 w.heap.size 33 #[.int .i64 lo, .int .i64 hi] := Box.gb (Box.gb (Box.drew hbx3) hg4 (by simp; omega)) hg5 (by simp; omega)
        have H5 : Hid (ws.length ≤ 1000) := Lib.hid (by omega)
        clear hp5
        obtain ⟨v0, v1, v2, v3, v4, v5, v6⟩ := hm3.cells
        refine wp_region_held_drew (S := fun _ => True) (by kernel_rfl) trivial (fun _ => ?_)
        refine wpAnyH_take (i := 0) (v := ?_) rfl (by kernel_rfl) (by kernel_rfl) (by kernel_rfl) (fun _ _ _ h => h) (Or.inl ⟨by rfl, ?_⟩) (by assumption) ?_; rotate_left; (focus (intro _w _hSw; clear _hSw; (try simp only [Array.getInternal_eq_getElem, List.getElem_toArray, List.getElem_cons_zero, List.getElem_cons_succ]); go_simp; (try with_reducible rfl))); simp only [Array.getInternal_eq_getElem, List.getElem_toArray, List.getElem_cons_zero, List.getElem_cons_succ, Act.put, List.setIfInBounds_toArray, List.set_cons_zero, List.set_cons_succ]
        refine wpAnyH_take (i := 1) (v := ?_) rfl (by kernel_rfl) (by kernel_rfl) (by kernel_rfl) (fun _ _ _ h => h) (Or.inl ⟨by rfl, ?_⟩) (by assumption) ?_; rotate_left; (focus (intro _w _hSw; clear _hSw; (try simp only [Array.getInternal_eq_getElem, List.getElem_toArray, List.getElem_cons_zero, List.getElem_cons_succ]); go_simp; (try with_reducible rfl))); simp only [Array.getInternal_eq_getElem, List.getElem_toArray, List.getElem_cons_zero, List.getElem_cons_succ, Act.put, List.setIfInBounds_toArray, List.set_cons_zero, List.set_cons_succ]
        refine wpAnyH_take (i := 2) (v := ?_) rfl (by kernel_rfl) (by kernel_rfl) (by kernel_rfl) (fun _ _ _ h => h) (Or.inl ⟨by rfl, ?_⟩) (by assumption) ?_; rotate_left; (focus (intro _w _hSw; clear _hSw; (try simp only [Array.getInternal_eq_getElem, List.getElem_toArray, List.getElem_cons_zero, List.getElem_cons_succ]); go_simp; (try with_reducible rfl))); simp only [Array.getInternal_eq_getElem, List.getElem_toArray, List.getElem_cons_zero, List.getElem_cons_succ, Act.put, List.setIfInBounds_toArray, List.set_cons_zero, List.set_cons_succ]
        refine wpAnyH_take (i := 4) (v := ?_) rfl (by kernel_rfl) (by kernel_rfl) (by kernel_rfl) (fun _ _ _ h => h) (Or.inl ⟨by rfl, ?_⟩) (by assumption) ?_; rotate_left; (focus (intro _w _hSw; clear _hSw; (try simp only [Array.getInternal_eq_getElem, List.getElem_toArray, List.getElem_cons_zero, List.getElem_cons_succ]); go_simp; (try with_reducible rfl))); simp only [Array.getInternal_eq_getElem, List.getElem_toArray, List.getElem_cons_zero, List.getElem_cons_succ, Act.put, List.setIfInBounds_toArray, List.set_cons_zero, List.set_cons_succ]
        refine wpAnyH_take (i := 5) (v := ?_) rfl (by kernel_rfl) (by kernel_rfl) (by kernel_rfl) (fun _ _ _ h => h) (Or.inl ⟨by rfl, ?_⟩) (by assumption) ?_; rotate_left; (focus (intro _w _hSw; clear _hSw; (try simp only [Array.getInternal_eq_getElem, List.getElem_toArray, List.getElem_cons_zero, List.getElem_cons_succ]); go_simp; (try with_reducible rfl))); simp only [Array.getInternal_eq_getElem, List.getElem_toArray, List.getElem_cons_zero, List.getElem_cons_succ, Act.put, List.setIfInBounds_toArray, List.set_cons_zero, List.set_cons_succ]
        refine wpAnyH_take (i := 6) (v := ?_) rfl (by kernel_rfl) (by kernel_rfl) (by kernel_rfl) (fun _ _ _ h => h) (Or.inl ⟨by rfl, ?_⟩) (by assumption) ?_; rotate_left; (focus (intro _w _hSw; clear _hSw; (try simp only [Array.getInternal_eq_getElem, List.getElem_toArray, List.getElem_cons_zero, List.getElem_cons_succ]); go_simp; (try with_reducible rfl))); simp only [Array.getInternal_eq_getElem, List.getElem_toArray, List.getElem_cons_zero, List.getElem_cons_succ, Act.put, List.setIfInBounds_toArray, List.set_cons_zero, List.set_cons_succ]
        refine wpAnyH_take (i := 8) (v := ?_) rfl (by kernel_rfl) (by kernel_rfl) (by kernel_rfl) (fun _ _ _ h => h) (Or.inl ⟨by rfl, ?_⟩) (by assumption) ?_; rotate_left; (focus (intro _w _hSw; clear _hSw; (try simp only [Array.getInternal_eq_getElem, List.getElem_toArray, List.getElem_cons_zero, List.getElem_cons_succ]); go_simp; (try with_reducible rfl))); simp only [Array.getInternal_eq_getElem, List.getElem_toArray, List.getElem_cons_zero, List.getElem_cons_succ, Act.put, List.setIfInBounds_toArray, List.set_cons_zero, List.set_cons_succ]
        refine wpAnyH_ready (rs := [3]) (by kernel_rfl) (by simp) ?_; refine AllReadyH.cons rfl (fun K hK => ?_) AllReadyH.nil; (try simp only [Array.getInternal_eq_getElem, List.getElem_toArray, List.getElem_cons_zero, List.getElem_cons_succ])
        go_simp
        refine hK.out _ _ trivial (fun _ => ?_)
        clear hK
        try simp only [Act.put, List.setIfInBounds_toArray, List.set_cons_zero, List.set_cons_succ]
        refine wpAnyH_ready (rs := [7, 10]) (by kernel_rfl) (by simp) ?_
        refine AllReadyH.cons rfl (fun K hK => ?_) (AllReadyH.cons rfl (fun K hK => ?_) AllReadyH.nil)
        · try simp only [Array.getInternal_eq_getElem, List.getElem_toArray, List.getElem_cons_zero, List.getElem_cons_succ]
          go_simp
          refine hK.out _ _ trivial (fun _ => ?_)
          clear hK
          try simp only [Act.put, List.setIfInBounds_toArray, List.set_cons_zero, List.set_cons_succ]
          refine wpAnyH_take (i := 9) (v := ?_) rfl (by kernel_rfl) (by kernel_rfl) (by kernel_rfl) (fun _ _ _ h => h) (Or.inl ⟨by rfl, ?_⟩) (by assumption) ?_; rotate_left; (focus (intro _w _hSw; clear _hSw; (try simp only [Array.getInternal_eq_getElem, List.getElem_toArray, List.getElem_cons_zero, List.getElem_cons_succ]); go_simp; (try with_reducible rfl))); simp only [Array.getInternal_eq_getElem, List.getElem_toArray, List.getElem_cons_zero, List.getElem_cons_succ, Act.put, List.setIfInBounds_toArray, List.set_cons_zero, List.set_cons_succ]
          refine wpAnyH_ready (rs := [10]) (by kernel_rfl) (by simp) ?_; refine AllReadyH.cons rfl (fun K hK => ?_) AllReadyH.nil; (try simp only [Array.getInternal_eq_getElem, List.getElem_toArray, List.getElem_cons_zero, List.getElem_cons_succ])
          go_simp
          refine hK.out _ _ trivial (fun _ => ?_)
          clear hK
          try simp only [Act.put, List.setIfInBounds_toArray, List.set_cons_zero, List.set_cons_succ]
          refine wpAnyH_take (i := 11) (v := ?_) rfl (by kernel_rfl) (by kernel_rfl) (by kernel_rfl) (fun _ _ _ h => h) (Or.inl ⟨by rfl, ?_⟩) (by assumption) ?_; rotate_left; (focus (intro _w _hSw; clear _hSw; (try simp only [Array.getInternal_eq_getElem, List.getElem_toArray, List.getElem_cons_zero, List.getElem_cons_succ]); go_simp; (try with_reducible rfl))); simp only [Array.getInternal_eq_getElem, List.getElem_toArray, List.getElem_cons_zero, List.getElem_cons_succ, Act.put, List.setIfInBounds_toArray, List.set_cons_zero, List.set_cons_succ]
          refine wpAnyH_ready (rs := [12]) (by kernel_rfl) (by simp) ?_; refine AllReadyH.cons rfl (fun K hK => ?_) AllReadyH.nil; (try simp only [Array.getInternal_eq_getElem, List.getElem_toArray, List.getElem_cons_zero, List.getElem_cons_succ])
          go_simp
          refine hK.out _ _ trivial (fun _ => ?_)
          clear hK
          try simp only [Act.put, List.setIfInBounds_toArray, List.set_cons_zero, List.set_cons_succ]
          refine wpAnyH_done (by kernel_rfl) ?_ _
          clear v0 v1 v2 v3 v4 v5 v6 hE hLk hLk4 hS5
          go_wp2_with fail
          go_roundw
          case rel => exact ⟨k + 1, n3 + 1, _, hlt, by go_num, rfl, hT', hg5', hbx5, hn5, hp5'⟩
          case measure => simp only [intOf]; omega
        · try simp only [Array.getInternal_eq_getElem, List.getElem_toArray, List.getElem_cons_zero, List.getElem_cons_succ]
          go_simp
          refine hK.out _ _ trivial (fun _ => ?_)
          clear hK
          try simp only [Act.put, List.setIfInBounds_toArray, List.set_cons_zero, List.set_cons_succ]
          refine wpAnyH_take (i := 11) (v := ?_) rfl (by kernel_rfl) (by kernel_rfl) (by kernel_rfl) (fun _ _ _ h => h) (Or.inl ⟨by rfl, ?_⟩) (by assumption) ?_; rotate_left; (focus (intro _w _hSw; clear _hSw; (try simp only [Array.getInternal_eq_getElem, List.getElem_toArray, List.getElem_cons_zero, List.getElem_cons_succ]); go_simp; (try with_reducible rfl))); simp only [Array.getInternal_eq_getElem, List.getElem_toArray, List.getElem_cons_zero, List.getElem_cons_succ, Act.put, List.setIfInBounds_toArray, List.set_cons_zero, List.set_cons_succ]
          refine wpAnyH_ready (rs := [7]) (by kernel_rfl) (by simp) ?_; refine AllReadyH.cons rfl (fun K hK => ?_) AllReadyH.nil; (try simp only [Array.getInternal_eq_getElem, List.getElem_toArray, List.getElem_cons_zero, List.getElem_cons_succ])
          go_simp
          refine hK.out _ _ trivial (fun _ => ?_)
          clear hK
          try simp only [Act.put, List.setIfInBounds_toArray, List.set_cons_zero, List.set_cons_succ]
          refine wpAnyH_take (i := 9) (v := ?_) rfl (by kernel_rfl) (by kernel_rfl) (by kernel_rfl) (fun _ _ _ h => h) (Or.inl ⟨by rfl, ?_⟩) (by assumption) ?_; rotate_left; (focus (intro _w _hSw; clear _hSw; (try simp only [Array.getInternal_eq_getElem, List.getElem_toArray, List.getElem_cons_zero, List.getElem_cons_succ]); go_simp; (try with_reducible rfl))); simp only [Array.getInternal_eq_getElem, List.getElem_toArray, List.getElem_cons_zero, List.getElem_cons_succ, Act.put, List.setIfInBounds_toArray, List.set_cons_zero, List.set_cons_succ]
          refine wpAnyH_ready (rs := [12]) (by kernel_rfl) (by simp) ?_; refine AllReadyH.cons rfl (fun K hK => ?_) AllReadyH.nil; (try simp only [Array.getInternal_eq_getElem, List.getElem_toArray, List.getElem_cons_zero, List.getElem_cons_succ])
          go_simp
          refine hK.out _ _ trivial (fun _ => ?_)
          clear hK
          try simp only [Act.put, List.setIfInBounds_toArray, List.set_cons_zero, List.set_cons_succ]
          refine wpAnyH_done (by kernel_rfl) ?_ _
          clear v0 v1 v2 v3 v4 v5 v6 hE hLk hLk4 hS5
          go_wp2_with fail
          go_roundw
          case rel => exact ⟨k + 1, n3 + 1, _, hlt, by go_num, rfl, hT', hg5', hbx5, hn5, hp5'⟩
          case measure => simp only [intOf]; omega
      · obtain rfl : k = ws.length := by omega
        go_wp2_with fail
        go_ret
        refine ⟨ret_int (by rw [cntN, hwl.out]; exact hT.out), hg, nk, ?_, hpk.congr fun t j => ?_⟩
        · have := hnk.out
          have h5 : ws.length * Z d ≤ 5 * Z d := Nat.mul_le_mul_right _ hw5
          exact Lib.hid (by rw [hZ.out]; omega)
        · rw [addN, addTo, hwl.out]
end Go.Proofs.Ytigpefjeelgfdaa

/-
  Walks of layer 1: allMakers.
-/
namespace Go.Proofs.Ytigpefjeelgfdaa
open Go.RowKit
open Go.Maps (Keyed)

/-- How many recipes of bar i can have made the blade. -/
def cntBar (x : Works) (mlo mhi : Int) (i : Nat) : Nat := cntN x mlo mhi x.steps.length 0 (rgAt x.bars i).1 (rgAt x.bars i).2
def totTo (x : Works) (mlo mhi : Int) (k : Nat) (t j : Int) : Nat :=
  (if t = -1 ∧ 0 ≤ j ∧ j < (k : Int) then cntBar x mlo mhi j.toNat else 0) + sumTo (fun i => addN x mlo mhi x.steps.length 0 (rgAt x.bars i).1 (rgAt x.bars i).2 t j) k
theorem totTo_succ (x : Works) (mlo mhi : Int) (k : Nat) (t j : Int) :
    totTo x mlo mhi (k + 1) t j = totTo x mlo mhi k t j + addN x mlo mhi x.steps.length 0 (rgAt x.bars k).1 (rgAt x.bars k).2 t j + if t = -1 ∧ j = k then cntBar x mlo mhi k else 0 := by
  unfold totTo
  rw [sumTo]
  by_cases ht : t = -1 ∧ j = k
  · obtain ⟨rfl, rfl⟩ := ht
    have h1 : ((-1 : Int) = -1 ∧ 0 ≤ (k : Int) ∧ (k : Int) < ((k + 1 : Nat) : Int)) := ⟨rfl, by omega, by omega⟩
    have h2 : ¬ ((-1 : Int) = -1 ∧ 0 ≤ (k : Int) ∧ (k : Int) < (k : Int)) := by omega
    rw [if_pos h1, if_neg h2, if_pos ⟨rfl, rfl⟩, Int.toNat_natCast]
    omega
  · rw [if_neg ht]
    by_cases h1 : t = -1 ∧ 0 ≤ j ∧ j < (k : Int)
    · rw [if_pos h1, if_pos ⟨h1.1, h1.2.1, by omega⟩]; omega
    · rw [if_neg h1, if_neg (by omega)]; omega
theorem Z_six {n : Nat} (h : n ≤ 6) : Z n ≤ 46656 := by
  have hm : ∀ k, Z n ≤ Z (n + k) := by
    intro k
    induction k with
    | zero => exact Nat.le_refl _
    | succ k ih => rw [← Nat.add_assoc, Z]; omega
  have := hm (6 - n)
  rw [show n + (6 - n) = 6 by omega] at this
  have e : Z 6 = 46656 := by decide
  omega
/-- What allMakers says, and has. -/
def makErr (x : Works) (mlo mhi : Int) : Int := if worksErr x ≠ 0 then worksErr x else if isHardB mlo mhi = false then 2 else 0
def totN (x : Works) (mlo mhi : Int) : Nat := sumTo (cntBar x mlo mhi) x.bars.length
def plcN (x : Works) (mlo mhi : Int) (t j : Int) : Nat := totTo x mlo mhi x.bars.length t j
/-- Block b holds f at all places, and those alone that are not 0. -/
def Done (w : World) (b : Nat) (f : Int → Int → Nat) : Prop :=
  ∃ (D : MapD) (n : Nat), w.ownsMap Try.prog 150 (plainElem Try.prog 3) b n D ∧ MapIs D f ∧ ∀ t j : Int, -1 ≤ t → t ≤ 1000 → 0 ≤ j → j ≤ 1000 → Maps.has D (plKey t j) = decide (f t j ≠ 0)
theorem Done.gb {w w' : World} {b : Nat} {f : Int → Int → Nat} (h : Done w b f) {row : Option Nat} (k : w.grownBy w' row) (hne : some b ≠ row) : Done w' b f := by
  obtain ⟨D, n, h1, h2, h3⟩ := h
  exact ⟨D, n, h1.kept k hne, h2, h3⟩
def RetMakers (Ab As : Option Addr) (cb cs : Nat) (x : Works) (mlo mhi : Int) (w : World) (e : Ending) (w' : World) : Prop :=
  ∃ p, e = .returned (.tuple #[.pointer p, .int .i64 (makErr x mlo mhi)]) ∧ Below w.heap.size w w' ∧
    (makErr x mlo mhi = 0 → ∃ c b, p = some ⟨c, 0, none⟩ ∧ w.heap.size ≤ b ∧ c ≠ b ∧ w.heap.size ≤ c ∧ Makers w' c Ab As cb cs x mlo mhi (totN x mlo mhi) b ∧ Done w' b (plcN x mlo mhi))

set_option maxRecDepth 100000 in
/-- Every key is a place. -/
theorem key_inv {key : Value} {kl : Lit} (h : keyOf Try.prog 150 key = some kl) : ∃ x : Int × Int, key = plV x.1 x.2 := by
  unfold keyOf at h
  rw [Try.underlying150] at h
  simp only [keyTy, Bool.true_and] at h
  split at h
  · rename_i hf
    obtain ⟨ls, hls, _⟩ := Option.map_eq_some_iff.1 h
    obtain ⟨d, hd⟩ := sizeKey
    have hx : ∃ xs, key = .agg xs ∧ xs.size = 2 := by
      unfold Value.formed at hf
      rw [Try.underlying150] at hf
      cases key <;> simp [cellsKey] at hf
      exact ⟨_, rfl, hf⟩
    obtain ⟨xs, rfl, hxs⟩ := hx
    obtain ⟨a, b, rfl⟩ : ∃ a b, xs = #[a, b] := by
      obtain ⟨l⟩ := xs
      simp at hxs
      match l, hxs with
      | [a, b], _ => exact ⟨a, b, rfl⟩
    have hc : (Value.agg #[a, b]).cells.toList = [a, b] := rfl
    rw [hc] at hls
    have hI : ∀ v l, Try.prog.keyLits Try.prog.types.size 3 [v] = some l → ∃ n, v = .int .i64 n := by
      intro v l hv
      rw [hd] at hv
      unfold Program.keyLits at hv
      rw [Try.underlying3] at hv
      cases v <;> simp at hv
      obtain ⟨⟨rfl, _⟩, _⟩ := hv
      exact ⟨_, rfl⟩
    generalize Try.prog.types.size = z at hls hI
    unfold Program.keyLits at hls
    rw [Try.underlying150] at hls
    simp [cellsKey, cellsI] at hls
    cases ha : Try.prog.keyLits z 3 [a] with
    | none => rw [ha] at hls; cases hls
    | some la =>
      cases hb : Try.prog.keyLits z 3 [b] with
      | none => rw [ha, hb] at hls; cases hls
      | some lb =>
        obtain ⟨m, rfl⟩ := hI _ _ ha
        obtain ⟨n, rfl⟩ := hI _ _ hb
        exact ⟨(m, n), rfl⟩
  · cases h

theorem elem_inv (v : Value) (y : MapD × List MemPlace) (h : plainElem Try.prog 3 v = some y) : ∃ c : Int, v = .int .i64 c := by
  obtain ⟨c, rfl, _⟩ := plainElem_int_inv Try.underlying3 h
  exact ⟨c, rfl⟩
theorem elem_lit {c : Int} {y : MapD × List MemPlace} (h : plainElem Try.prog 3 (.int .i64 c) = some y) : y.1 = .lit (.int .i64 c) := by
  obtain ⟨c', e, hy, _⟩ := plainElem_int_inv Try.underlying3 h
  cases e
  rw [hy]
/-- While the map is ranged over: it reads as it did, and what is not 0 or is still to come is there. -/
def Sifted (D0 D : MapD) (left : Lit → Bool) : Prop :=
  (∀ kl, D.atKey kl (.lit (.int .i64 0)) = D0.atKey kl (.lit (.int .i64 0))) ∧ ∀ kl, Maps.has D kl = true → left kl = true ∨ D0.atKey kl (.lit (.int .i64 0)) ≠ .lit (.int .i64 0)
theorem Sifted.start (D : MapD) : Sifted D D (Maps.has D) := ⟨fun _ => rfl, fun _ h => .inl h⟩
theorem Sifted.stay {D0 D : MapD} {left : Lit → Bool} (h : Sifted D0 D left) {kl : Lit} {c : Int} (hc : c ≠ 0) (hat : ∀ zd, D.atKey kl zd = .lit (.int .i64 c)) : Sifted D0 D (fun z => left z && !z.sameKey kl) := by
  refine ⟨h.1, fun kl' hk => ?_⟩
  by_cases e : kl' = kl
  · subst e
    right
    rw [← h.1, hat]
    simp [hc]
  · rcases h.2 kl' hk with h1 | h1
    · left
      simp [h1, Maps.sameKey_ne e]
    · exact .inr h1
theorem Sifted.drop {D0 D : MapD} {left : Lit → Bool} (h : Sifted D0 D left) {kl : Lit} (hat : ∀ zd, D.atKey kl zd = .lit (.int .i64 0)) : Sifted D0 (D.del kl) (fun z => left z && !z.sameKey kl) := by
  refine ⟨fun kl' => ?_, fun kl' hk => ?_⟩
  · by_cases e : kl' = kl
    · subst e
      rw [Maps.atKey_del_same, ← h.1, hat]
    · rw [Maps.atKey_del_other e, h.1]
  · by_cases e : kl' = kl
    · subst e
      rw [Maps.has_del_same] at hk
      cases hk
    · rw [Maps.has_del_other e] at hk
      rcases h.2 kl' hk with h1 | h1
      · left
        simp [h1, Maps.sameKey_ne e]
      · exact .inr h1
theorem Sifted.done {D0 D : MapD} {left : Lit → Bool} (h : Sifted D0 D left) (hl : ∀ kl, left kl = false) {f : Int → Int → Nat} (hf : MapIs D0 f) : MapIs D f ∧ ∀ t j : Int, -1 ≤ t → t ≤ 1000 → 0 ≤ j → j ≤ 1000 → Maps.has D (plKey t j) = decide (f t j ≠ 0) := by
  have hm : MapIs D f := fun t j a b c d => (h.1 _).trans (hf t j a b c d)
  refine ⟨hm, fun t j a b c d => ?_⟩
  have h0 := hf t j a b c d
  generalize plKey t j = kl at h0
  cases hk : Maps.has D kl
  · have := h.1 kl
    rw [Maps.atKey_of_not_has hk, h0] at this
    have e : (f t j : Int) = 0 := by simpa using this.symm
    have e' : f t j = 0 := by omega
    simp [e']
  · rcases h.2 kl hk with h1 | h1
    · rw [hl] at h1; cases h1
    · rw [h0] at h1
      have e : f t j ≠ 0 := fun e => h1 (by rw [e]; rfl)
      simp [e]

theorem count_all (c b : Nat) (Ab As : Option Addr) (cb cs : Nat) (x : Works) (mlo mhi tot : Int) (B : Nat) (hok : worksErr x = 0) (hBb : B ≤ b) (hcb : c ≠ b) (lo hi : Int) (n : Nat) (f : Int → Int → Nat) (w : World)
    (h : In w B Ab As none cb cs 0 x []) (hm : Makers w c Ab As cb cs x mlo mhi tot b) (hp : Places w b n f) (hn : Hid (n ≤ 1000000)) (hf : Hid (∀ t j, f t j ≤ 1000000)) :
    Calls Try.prog 103 #[.pointer (some ⟨c, 0, none⟩), .int .i64 0, .agg #[.int .i64 lo, .int .i64 hi]] w (RetCount x mlo mhi lo hi x.steps.length 0 b n f w) := by
  have hz := Z_six (steps_few hok)
  exact count_any c b Ab As cb cs x mlo mhi tot B hok hBb hcb x.steps.length 0 lo hi n 1000000 f w (by omega) h hm hp (Lib.hid (by have := hn.out; omega)) (Lib.hid (by omega)) hf
theorem totTo_le {x : Works} (h : worksErr x = 0) (mlo mhi : Int) (k : Nat) (hk : k ≤ 6) (t j : Int) : totTo x mlo mhi k t j ≤ 400000 := by
  have hz := Z_six (steps_few h)
  have h1 := sumTo_le (c := 46656) k (f := fun i => addN x mlo mhi x.steps.length 0 (rgAt x.bars i).1 (rgAt x.bars i).2 t j) (fun i _ => by have := addN_le h mlo mhi x.steps.length 0 (rgAt x.bars i).1 (rgAt x.bars i).2 t j; omega)
  have h2 : cntBar x mlo mhi j.toNat ≤ 46656 := by have := cntN_le h mlo mhi x.steps.length 0 (rgAt x.bars j.toNat).1 (rgAt x.bars j.toNat).2; unfold cntBar; omega
  unfold totTo
  split <;> omega
theorem totN_le {x : Works} (h : worksErr x = 0) (mlo mhi : Int) (k : Nat) (hk : k ≤ 6) : sumTo (cntBar x mlo mhi) k ≤ 400000 := by
  have hz := Z_six (steps_few h)
  have h1 := sumTo_le (c := 46656) k (f := cntBar x mlo mhi) (fun i _ => by have := cntN_le h mlo mhi x.steps.length 0 (rgAt x.bars i).1 (rgAt x.bars i).2; unfold cntBar; omega)
  omega
end Go.Proofs.Ytigpefjeelgfdaa

/-
  Walks of layer 1: allMakers, walked.
-/
namespace Go.Proofs.Ytigpefjeelgfdaa
open Go.RowKit
open Go.Maps (Keyed)

theorem size150 : (Try.prog.info? 150).map (·.size) = some (#[Value.int .i64 0, Value.int .i64 0] : Array Value).size := by kernel_rfl
set_option maxRecDepth 100000 in
set_option maxHeartbeats 2000000 in
theorem allMakers_any (Ab As : Option Addr) (cb cs : Nat) (x : Works) (mlo mhi : Int) (B : Nat) (w : World) (h : In w B Ab As none cb cs 0 x []) :
    Calls Try.prog 80 #[.agg #[.slice Ab x.bars.length cb, .slice As x.steps.length cs], .agg #[.int .i64 mlo, .int .i64 mhi]] w (RetMakers Ab As cb cs x mlo mhi w) := by
  have hB := h.le
  have hcw : ∀ W, Below w.heap.size w W → Calls Try.prog 21 #[.agg #[.slice Ab x.bars.length cb, .slice As x.steps.length cs]] W fun e w' => e = .returned (.int .i64 (worksErr x)) ∧ Below W.heap.size W w' := fun W hW =>
    heatCheckWorks_any Ab As cb cs x B W (h.on hW hB).bars (h.on hW hB).steps h.cs1 h.cs2 h.cb1 h.cb2 (h.on hW hB).le
  by_cases g1 : worksErr x = 0
  · cases g2 : isHardB mlo mhi
    · have E : Hid (makErr x mlo mhi = 2) := by simp only [Hid, makErr]; rw [if_neg (by simpa using g1), if_pos g2]
      have G := Lib.hid g1
      have G2 := Lib.hid g2
      have HCW := Lib.hid hcw
      clear g1 g2 hcw
      go_enter Try.func80, Try.ntmps80
      go_wp2_with (first
        | (go_at_call 21; refine (HCW.out _ bel).mono ?_; rintro e w1 ⟨rfl, hb1⟩; rw [G.out]; obtain ⟨_hr1, _hr2⟩ := below_reads hb1; have _hz := Below.size hb1; (try simp only [World.size_alloc, World.size_setCell, World.size_drew, World.heap_drewN] at _hz); obtain ⟨_hr3, _hr4⟩ := below_reads (show Below w.heap.size w w1 from bel); have _q0 : w.heap.size < w1.heap.size := (by omega); have _q1 : w.heap.size + 1 < w1.heap.size := (by omega))
        | (go_at_call 59; refine (isHardRange_any mlo mhi _).mono ?_; rintro e w2 ⟨rfl, hb2⟩; rw [G2.out]; obtain ⟨_hr1, _hr2⟩ := below_reads hb2; have _hz := Below.size hb2; (try simp only [World.size_alloc, World.size_setCell, World.size_drew, World.heap_drewN] at _hz); obtain ⟨_hr3, _hr4⟩ := below_reads (show Below w.heap.size w w2 from bel); have _q0 : w.heap.size < w2.heap.size := (by omega); have _q1 : w.heap.size + 1 < w2.heap.size := (by omega)))
      refine bodyPost_ret (v := .tuple #[.pointer none, .int .i64 2]) (by simp [results, Try.results80, go_sem, *]) rfl ?_
      exact ⟨none, by rw [E.out], bel, fun h => absurd (E.out.symm.trans h) (by decide)⟩
    · have E : Hid (makErr x mlo mhi = 0) := by simp only [Hid, makErr]; rw [if_neg (by simpa using g1), if_neg (by simp [g2])]
      have G := Lib.hid g1
      have G2 := Lib.hid g2
      have HCW := Lib.hid hcw
      have hmm := @run_makeMap Try.prog
      have hbl : x.bars.length ≤ 6 := by
        have h1 := (worksOk_iff.1 g1).1
        simp only [manyOk, Bool.and_eq_true, Bool.not_eq_true', decide_eq_false_iff_not] at h1
        omega
      clear g1 g2 hcw
      go_enter Try.func80, Try.ntmps80
      go_wp2_with (first
        | (go_at_call 21; refine (HCW.out _ bel).mono ?_; rintro e w1 ⟨rfl, hb1⟩; rw [G.out]; obtain ⟨_hr1, _hr2⟩ := below_reads hb1; have _hz := Below.size hb1; (try simp only [World.size_alloc, World.size_setCell, World.size_drew, World.heap_drewN] at _hz); obtain ⟨_hr3, _hr4⟩ := below_reads (show Below w.heap.size w w1 from bel); have _q0 : w.heap.size < w1.heap.size := (by omega); have _q1 : w.heap.size + 1 < w1.heap.size := (by omega))
        | (go_at_call 59; refine (isHardRange_any mlo mhi _).mono ?_; rintro e w2 ⟨rfl, hb2⟩; rw [G2.out]; obtain ⟨_hr1, _hr2⟩ := below_reads hb2; have _hz := Below.size hb2; (try simp only [World.size_alloc, World.size_setCell, World.size_drew, World.heap_drewN] at _hz); obtain ⟨_hr3, _hr4⟩ := below_reads (show Below w.heap.size w w2 from bel); have _q0 : w.heap.size < w2.heap.size := (by omega); have _q1 : w.heap.size + 1 < w2.heap.size := (by omega)))
      have hb0 : Below w.heap.size w ((w2.alloc (.map #[] 0)).alloc (.cells #[.slice Ab x.bars.length cb, .slice As x.steps.length cs, .int .i64 mlo, .int .i64 mhi, .int .i64 0, .map (some w2.heap.size)] 122)) := bel
      have hm0 : Makers ((w2.alloc (.map #[] 0)).alloc (.cells #[.slice Ab x.bars.length cb, .slice As x.steps.length cs, .int .i64 mlo, .int .i64 mhi, .int .i64 0, .map (some w2.heap.size)] 122)) (w2.heap.size + 1) Ab As cb cs x mlo mhi 0 w2.heap.size := Box.new' (by simp)
      have hp0 : Places ((w2.alloc (.map #[] 0)).alloc (.cells #[.slice Ab x.bars.length cb, .slice As x.steps.length cs, .int .i64 mlo, .int .i64 mhi, .int .i64 0, .map (some w2.heap.size)] 122)) w2.heap.size 0 (fun t j => totTo x mlo mhi 0 t j) := by
        refine Places.gb (w := w2.alloc (.map #[] 0)) ⟨.map [], World.ownsMap_made _ _ _ _, fun t j _ _ _ _ => ?_⟩ (gb_alloc (gb_refl _ none) _) (by simp)
        have : ¬ (t = -1 ∧ 0 ≤ j ∧ j < ((0 : Nat) : Int)) := by omega
        simp only [totTo, sumTo, if_neg this, Nat.add_zero]
        rfl
      have z2 : w.heap.size ≤ w2.heap.size := by omega
      generalize (w2.alloc (.map #[] 0)).alloc (.cells #[.slice Ab x.bars.length cb, .slice As x.steps.length cs, .int .i64 mlo, .int .i64 mhi, .int .i64 0, .map (some w2.heap.size)] 122) = W0 at hb0 hm0 hp0 ⊢
      go_loopw [32] (fun i wr => ∃ (k nk : Nat) (T : Int), k ≤ x.bars.length ∧ i = .int .i64 k ∧ Makers wr (w2.heap.size + 1) Ab As cb cs x mlo mhi T w2.heap.size ∧ Hid (T = (sumTo (cntBar x mlo mhi) k : Int)) ∧
          Below w.heap.size w wr ∧ Hid (nk ≤ 50000 * k) ∧ Places wr w2.heap.size nk (fun t j => totTo x mlo mhi k t j))
        (fun i _ => x.bars.length - (intOf i).toNat)
      case atStart =>
        exact ⟨0, 0, 0, by omega, rfl, hm0, Lib.hid (by simp [sumTo]), hb0, Lib.hid (by omega), hp0⟩
      case round =>
        obtain ⟨k, nk, T, hk, rfl, hm, hT, hb, hnk, hpk⟩ := hrel
        have hz := Box.lt hm
        have hzb := hpk.lt
        by_cases hlt : k < x.bars.length
        · have hlt' : (k : Int) < (x.bars.length : Int) := by omega
          obtain ⟨bb, bo, lo, hi, rfl, hbb, hx, d0, d1⟩ := rgsA (rgs_on h.bars hb hB) hlt
          have hbbw : bb < wr.heap.size := by have := hb.size; omega
          have hg0 : wr.grownBy (wr.alloc (.cells #[.int .i64 lo, .int .i64 hi] 33)) none := gb_alloc (gb_refl _ _) _
          have hcl := count_all (w2.heap.size + 1) w2.heap.size _ As cb cs x mlo mhi T B G.out (by omega) (by omega) lo hi nk _ (wr.alloc (.cells #[.int .i64 lo, .int .i64 hi] 33)) (h.on (n := w.heap.size) (hb.trans ((gb_to_below hg0 (by have := hb.size; omega) (by simp)))) hB) (Box.alloc hm _) (hpk.gb hg0 (by simp))
            (by have := hnk.out; exact Lib.hid (by omega)) (Lib.hid fun t j => by have := totTo_le G.out mlo mhi k (by omega) t j; omega)
          obtain ⟨N, hN⟩ : ∃ N, Hid (cntBar x mlo mhi k = N) := ⟨_, rfl⟩
          have hcb' : cntN x mlo mhi x.steps.length 0 lo hi = N := by rw [← hN.out, cntBar, rgAt_of hx]
          have HCL := Lib.hid hcl
          clear hcl
          go_wp2_with (go_at_call 103; refine (HCL.out).mono ?_; rintro e w3 ⟨rfl, hg3, n3, hn3, hp3⟩; rw [hcb'])
          have hbz3 := hp3.lt
          have hm3 : Makers w3 (w2.heap.size + 1) _ As cb cs x mlo mhi T w2.heap.size := Box.gb (Box.alloc hm _) hg3 (by simp)
          have hN1 : N ≤ 46656 := by have hz6 := Z_six (steps_few G.out); have := cntN_le G.out mlo mhi x.steps.length 0 lo hi; rw [hcb'] at this; omega
          have hfs := totTo_le G.out mlo mhi k (by omega) (-1) k
          have has : addN x mlo mhi x.steps.length 0 lo hi (-1) k ≤ 46656 := by have hz6 := Z_six (steps_few G.out); have := addN_le G.out mlo mhi x.steps.length 0 lo hi (-1) k; omega
          have hz6 := Z_six (steps_few G.out)
          have hn3' : n3 ≤ 100000000 := by have h1 := hnk.out; have h2 := hn3.out; omega
          have hp3d : Places w3.drew w2.heap.size n3 (fun t j => totTo x mlo mhi k t j + addN x mlo mhi x.steps.length 0 lo hi t j) := hp3
          obtain ⟨hLk, st, w4, hE, hg4, hLk4, hst⟩ := hp3d.plus hn3' (t := -1) (j := k) (by omega) (by omega) (by omega) (by omega)
          obtain ⟨C, hC⟩ : ∃ C : Int, ((totTo x mlo mhi k (-1) k + addN x mlo mhi x.steps.length 0 lo hi (-1) k : Nat) : Int) = C := ⟨_, rfl⟩
          rw [hC] at hLk hE hLk4
          obtain ⟨w5, hS5, hg5, hp5⟩ := hst (IntKind.i64.wrap (C + (N : Int))) N (by rw [← hC, IntKind.wrap_i64]; omega) (by omega)
          have HC := Lib.hid hC
          have hT' : Hid (wrap64 (T + (N : Int)) = (sumTo (cntBar x mlo mhi) (k + 1) : Int)) := by
            have h1 := totN_le G.out mlo mhi k (by omega)
            rw [hT.out]
            simp only [sumTo, hN.out]
            show wrap64 _ = _
            unfold wrap64
            refine Lib.hid ?_
            omega
          have hn5 : Hid (n3 + 1 ≤ 50000 * (k + 1)) := by
            have h1 := hnk.out
            have h2 := hn3.out
            exact Lib.hid (by omega)
          have hp5' : Places w5 w2.heap.size (n3 + 1) (fun t j => totTo x mlo mhi (k + 1) t j) := hp5.congr fun t j => by
            have := totTo_succ x mlo mhi k t j
            rw [rgAt_of hx, hN.out] at this
            exact this.symm
          have hb5 : Below w.heap.size w w5 := by
            have hbz := hb.size
            have x1 : Below w.heap.size w w3 := hb.trans ((gb_to_below (B := w.heap.size) hg0 hbz (by simp)).trans (gb_to_below hg3 (by simp; omega) (by simp; omega)))
            exact x1.drew.trans ((gb_to_below (B := w.heap.size) hg4 x1.size (by simp; omega)).trans (gb_to_below hg5 (by have q1 : w3.heap.size ≤ w4.heap.size := hg4.size; have q2 := x1.size; omega) (by simp; omega)))
          have hm5 : Makers w5 (w2.heap.size + 1) _ As cb cs x mlo mhi T w2.heap.size := Box.gb (Box.gb (Box.drew hm3) hg4 (by simp)) hg5 (by simp)
          have H5 := hm5.lt
          clear hp5 hst hfs has hn3' hC hp3d hN1 hcb'
          obtain ⟨v0, v1, v2, v3, v4, v5, v6⟩ := hm3.cells
          refine wp_region_held_drew (S := fun _ => True) (by kernel_rfl) trivial (fun _ => ?_)
          refine wpAnyH_take (i := 0) (v := ?_) rfl (by kernel_rfl) (by kernel_rfl) (by kernel_rfl) (fun _ _ _ h => h) (Or.inl ⟨by rfl, ?_⟩) (by assumption) ?_; rotate_left; (focus (intro _w _hSw; clear _hSw; (try simp only [Array.getInternal_eq_getElem, List.getElem_toArray, List.getElem_cons_zero, List.getElem_cons_succ]); go_simp; (try with_reducible rfl))); simp only [Array.getInternal_eq_getElem, List.getElem_toArray, List.getElem_cons_zero, List.getElem_cons_succ, Act.put, List.setIfInBounds_toArray, List.set_cons_zero, List.set_cons_succ]
          refine wpAnyH_take (i := 1) (v := ?_) rfl (by kernel_rfl) (by kernel_rfl) (by kernel_rfl) (fun _ _ _ h => h) (Or.inl ⟨by rfl, ?_⟩) (by assumption) ?_; rotate_left; (focus (intro _w _hSw; clear _hSw; (try simp only [Array.getInternal_eq_getElem, List.getElem_toArray, List.getElem_cons_zero, List.getElem_cons_succ]); go_simp; (try with_reducible rfl))); simp only [Array.getInternal_eq_getElem, List.getElem_toArray, List.getElem_cons_zero, List.getElem_cons_succ, Act.put, List.setIfInBounds_toArray, List.set_cons_zero, List.set_cons_succ]
          refine wpAnyH_take (i := 2) (v := ?_) rfl (by kernel_rfl) (by kernel_rfl) (by kernel_rfl) (fun _ _ _ h => h) (Or.inl ⟨by rfl, ?_⟩) (by assumption) ?_; rotate_left; (focus (intro _w _hSw; clear _hSw; (try simp only [Array.getInternal_eq_getElem, List.getElem_toArray, List.getElem_cons_zero, List.getElem_cons_succ]); go_simp; (try with_reducible rfl))); simp only [Array.getInternal_eq_getElem, List.getElem_toArray, List.getElem_cons_zero, List.getElem_cons_succ, Act.put, List.setIfInBounds_toArray, List.set_cons_zero, List.set_cons_succ]
          refine wpAnyH_take (i := 4) (v := ?_) rfl (by kernel_rfl) (by kernel_rfl) (by kernel_rfl) (fun _ _ _ h => h) (Or.inl ⟨by rfl, ?_⟩) (by assumption) ?_; rotate_left; (focus (intro _w _hSw; clear _hSw; (try simp only [Array.getInternal_eq_getElem, List.getElem_toArray, List.getElem_cons_zero, List.getElem_cons_succ]); go_simp; (try with_reducible rfl))); simp only [Array.getInternal_eq_getElem, List.getElem_toArray, List.getElem_cons_zero, List.getElem_cons_succ, Act.put, List.setIfInBounds_toArray, List.set_cons_zero, List.set_cons_succ]
          refine wpAnyH_take (i := 5) (v := ?_) rfl (by kernel_rfl) (by kernel_rfl) (by kernel_rfl) (fun _ _ _ h => h) (Or.inl ⟨by rfl, ?_⟩) (by assumption) ?_; rotate_left; (focus (intro _w _hSw; clear _hSw; (try simp only [Array.getInternal_eq_getElem, List.getElem_toArray, List.getElem_cons_zero, List.getElem_cons_succ]); go_simp; (try with_reducible rfl))); simp only [Array.getInternal_eq_getElem, List.getElem_toArray, List.getElem_cons_zero, List.getElem_cons_succ, Act.put, List.setIfInBounds_toArray, List.set_cons_zero, List.set_cons_succ]
          refine wpAnyH_take (i := 7) (v := ?_) rfl (by kernel_rfl) (by kernel_rfl) (by kernel_rfl) (fun _ _ _ h => h) (Or.inl ⟨by rfl, ?_⟩) (by assumption) ?_; rotate_left; (focus (intro _w _hSw; clear _hSw; (try simp only [Array.getInternal_eq_getElem, List.getElem_toArray, List.getElem_cons_zero, List.getElem_cons_succ]); go_simp; (try with_reducible rfl))); simp only [Array.getInternal_eq_getElem, List.getElem_toArray, List.getElem_cons_zero, List.getElem_cons_succ, Act.put, List.setIfInBounds_toArray, List.set_cons_zero, List.set_cons_succ]
          refine wpAnyH_ready (rs := [3]) (by kernel_rfl) (by simp) ?_; refine AllReadyH.cons rfl (fun K hK => ?_) AllReadyH.nil; (try simp only [Array.getInternal_eq_getElem, List.getElem_toArray, List.getElem_cons_zero, List.getElem_cons_succ])
          go_simp
          refine hK.out _ _ trivial (fun _ => ?_)
          clear hK
          try simp only [Act.put, List.setIfInBounds_toArray, List.set_cons_zero, List.set_cons_succ]
          refine wpAnyH_ready (rs := [6, 9]) (by kernel_rfl) (by simp) ?_
          refine AllReadyH.cons rfl (fun K hK => ?_) (AllReadyH.cons rfl (fun K hK => ?_) AllReadyH.nil)
          · try simp only [Array.getInternal_eq_getElem, List.getElem_toArray, List.getElem_cons_zero, List.getElem_cons_succ]
            go_simp
            refine hK.out _ _ trivial (fun _ => ?_)
            clear hK
            try simp only [Act.put, List.setIfInBounds_toArray, List.set_cons_zero, List.set_cons_succ]
            refine wpAnyH_take (i := 8) (v := ?_) rfl (by kernel_rfl) (by kernel_rfl) (by kernel_rfl) (fun _ _ _ h => h) (Or.inl ⟨by rfl, ?_⟩) (by assumption) ?_; rotate_left; (focus (intro _w _hSw; clear _hSw; (try simp only [Array.getInternal_eq_getElem, List.getElem_toArray, List.getElem_cons_zero, List.getElem_cons_succ]); go_simp; (try with_reducible rfl))); simp only [Array.getInternal_eq_getElem, List.getElem_toArray, List.getElem_cons_zero, List.getElem_cons_succ, Act.put, List.setIfInBounds_toArray, List.set_cons_zero, List.set_cons_succ]
            refine wpAnyH_ready (rs := [9]) (by kernel_rfl) (by simp) ?_; refine AllReadyH.cons rfl (fun K hK => ?_) AllReadyH.nil; (try simp only [Array.getInternal_eq_getElem, List.getElem_toArray, List.getElem_cons_zero, List.getElem_cons_succ])
            go_simp
            refine hK.out _ _ trivial (fun _ => ?_)
            clear hK
            try simp only [Act.put, List.setIfInBounds_toArray, List.set_cons_zero, List.set_cons_succ]
            refine wpAnyH_take (i := 10) (v := ?_) rfl (by kernel_rfl) (by kernel_rfl) (by kernel_rfl) (fun _ _ _ h => h) (Or.inl ⟨by rfl, ?_⟩) (by assumption) ?_; rotate_left; (focus (intro _w _hSw; clear _hSw; (try simp only [Array.getInternal_eq_getElem, List.getElem_toArray, List.getElem_cons_zero, List.getElem_cons_succ]); go_simp; (try with_reducible rfl))); simp only [Array.getInternal_eq_getElem, List.getElem_toArray, List.getElem_cons_zero, List.getElem_cons_succ, Act.put, List.setIfInBounds_toArray, List.set_cons_zero, List.set_cons_succ]
            refine wpAnyH_ready (rs := [11]) (by kernel_rfl) (by simp) ?_; refine AllReadyH.cons rfl (fun K hK => ?_) AllReadyH.nil; (try simp only [Array.getInternal_eq_getElem, List.getElem_toArray, List.getElem_cons_zero, List.getElem_cons_succ])
            go_simp
            refine hK.out _ _ trivial (fun _ => ?_)
            clear hK
            try simp only [Act.put, List.setIfInBounds_toArray, List.set_cons_zero, List.set_cons_succ]
            refine wpAnyH_done (by kernel_rfl) ?_ _
            clear v0 v1 v2 v3 v4 v5 v6 hE hLk hLk4 hS5
            obtain ⟨v0, v1, v2, v3, v4, v5, v6⟩ := hm5.cells
            go_wp2_with fail
            go_roundw
            case rel =>
              refine ⟨k + 1, n3 + 1, _, hlt, by go_num, Box.set_ hm5 4 _, hT', bel, hn5, hp5'.gb (gb_set (g := w2.heap.size + 1) (gb_refl w5 _) (Or.inl rfl) _) (by simp)⟩
            case measure => simp only [intOf]; omega
          · try simp only [Array.getInternal_eq_getElem, List.getElem_toArray, List.getElem_cons_zero, List.getElem_cons_succ]
            go_simp
            refine hK.out _ _ trivial (fun _ => ?_)
            clear hK
            try simp only [Act.put, List.setIfInBounds_toArray, List.set_cons_zero, List.set_cons_succ]
            refine wpAnyH_take (i := 10) (v := ?_) rfl (by kernel_rfl) (by kernel_rfl) (by kernel_rfl) (fun _ _ _ h => h) (Or.inl ⟨by rfl, ?_⟩) (by assumption) ?_; rotate_left; (focus (intro _w _hSw; clear _hSw; (try simp only [Array.getInternal_eq_getElem, List.getElem_toArray, List.getElem_cons_zero, List.getElem_cons_succ]); go_simp; (try with_reducible rfl))); simp only [Array.getInternal_eq_getElem, List.getElem_toArray, List.getElem_cons_zero, List.getElem_cons_succ, Act.put, List.setIfInBounds_toArray, List.set_cons_zero, List.set_cons_succ]
            refine wpAnyH_ready (rs := [6]) (by kernel_rfl) (by simp) ?_; refine AllReadyH.cons rfl (fun K hK => ?_) AllReadyH.nil; (try simp only [Array.getInternal_eq_getElem, List.getElem_toArray, List.getElem_cons_zero, List.getElem_cons_succ])
            go_simp
            refine hK.out _ _ trivial (fun _ => ?_)
            clear hK
            try simp only [Act.put, List.setIfInBounds_toArray, List.set_cons_zero, List.set_cons_succ]
            refine wpAnyH_take (i := 8) (v := ?_) rfl (by kernel_rfl) (by kernel_rfl) (by kernel_rfl) (fun _ _ _ h => h) (Or.inl ⟨by rfl, ?_⟩) (by assumption) ?_; rotate_left; (focus (intro _w _hSw; clear _hSw; (try simp only [Array.getInternal_eq_getElem, List.getElem_toArray, List.getElem_cons_zero, List.getElem_cons_succ]); go_simp; (try with_reducible rfl))); simp only [Array.getInternal_eq_getElem, List.getElem_toArray, List.getElem_cons_zero, List.getElem_cons_succ, Act.put, List.setIfInBounds_toArray, List.set_cons_zero, List.set_cons_succ]
            refine wpAnyH_ready (rs := [11]) (by kernel_rfl) (by simp) ?_; refine AllReadyH.cons rfl (fun K hK => ?_) AllReadyH.nil; (try simp only [Array.getInternal_eq_getElem, List.getElem_toArray, List.getElem_cons_zero, List.getElem_cons_succ])
            go_simp
            refine hK.out _ _ trivial (fun _ => ?_)
            clear hK
            try simp only [Act.put, List.setIfInBounds_toArray, List.set_cons_zero, List.set_cons_succ]
            refine wpAnyH_done (by kernel_rfl) ?_ _
            clear v0 v1 v2 v3 v4 v5 v6 hE hLk hLk4 hS5
            obtain ⟨v0, v1, v2, v3, v4, v5, v6⟩ := hm5.cells
            go_wp2_with fail
            go_roundw
            case rel =>
              refine ⟨k + 1, n3 + 1, _, hlt, by go_num, Box.set_ hm5 4 _, hT', bel, hn5, hp5'.gb (gb_set (g := w2.heap.size + 1) (gb_refl w5 _) (Or.inl rfl) _) (by simp)⟩
            case measure => simp only [intOf]; omega
        · obtain rfl : k = x.bars.length := by omega
          obtain ⟨v0, v1, v2, v3, v4, v5, v6⟩ := hm.cells
          obtain ⟨D0, hown, hD0⟩ := hpk
          go_wp2_with (at_range; refine wpList_range_own _ rfl _ 120 rfl 150 3 keyed Try.underlying120 _ w2.heap.size nk D0 rfl hown ?_; intro w3 hrg3 hg3 hs3)
          go_frame
          have hbs := hb.size
          have hm3 : Makers w3 (w2.heap.size + 1) Ab As cb cs x mlo mhi T w2.heap.size := Box.gb hm hg3 (by simp)
          have hb3 : Below w.heap.size w w3 := hb.trans (gb_to_below hg3 hbs (by simp))
          have hrN : Hid (wr.heap.size = wr.heap.size) := rfl
          generalize hr : wr.heap.size = r at hrg3 hz hzb hbs hs3 ⊢
          clear v0 v1 v2 v3 v4 v5 v6 hg3 hr hrN
          go_loopw [12] (fun _ wi => ∃ (D : MapD) (left : Lit → Bool) (cnt : Nat), wi.ranges Try.prog 150 (plainElem Try.prog 3) w2.heap.size r nk D left cnt ∧ Sifted D0 D left ∧ Makers wi (w2.heap.size + 1) Ab As cb cs x mlo mhi T w2.heap.size ∧ Below w.heap.size w wi)
            (fun _ wi => wi.rangeLeft w2.heap.size r)
          case atStart =>
            exact ⟨D0, _, _, hrg3, Sifted.start D0, hm3, hb3⟩
          case round =>
            obtain ⟨D, left, cnt, hrg, hsf, hmi, hbi⟩ := hrel
            go_wp2_with (at_next; refine wpList_next_ranges _ rfl _ rfl 150 keyed (plainElem Try.prog 3) (fun y : Int × Int => .agg #[.int .i64 y.1, .int .i64 y.2]) (fun c : Int => .int .i64 c) (fun _ _ hk => key_inv hk) elem_inv w2.heap.size r nk D left cnt rfl hrg ?_ ?_)
            · intro hc0 hl0
              go_wp2_with fail
              refine bodyPost_ret (v := .tuple #[.pointer (some ⟨w2.heap.size + 1, 0, none⟩), .int .i64 0]) (by simp [results, Try.results80, go_sem, *]) rfl ?_
              refine ⟨_, by rw [E.out], hbi, fun _ => ⟨w2.heap.size + 1, w2.heap.size, rfl, by omega, by omega, by omega, ?_, ?_⟩⟩
              · rw [hT.out] at hmi
                exact hmi
              · obtain ⟨q1, q2⟩ := hsf.done hl0 hD0
                exact ⟨D, nk, hrg.owns, q1, q2⟩
            · intro y1 y2 c kl ya yb wj cnt1 hkey hlk hRv hat hrg1 hltc hg1 hs1 hen
              clear hs1
              have hy := elem_lit hRv
              dsimp only at hy
              rw [hy] at hat
              have hmj : Makers wj (w2.heap.size + 1) Ab As cb cs x mlo mhi T w2.heap.size := Box.gb hmi hg1 (by simp; omega)
              have hbj : Below w.heap.size w wj := hbi.trans (gb_to_below hg1 hbi.size (by simp; omega))
              have hkey' := hkey
              by_cases hc : c = 0
              · subst hc
                go_wp2_with fail
                have hrk : (wj.alloc (.cells #[.int .i64 y1, .int .i64 y2] 150)).ranges Try.prog 150 (plainElem Try.prog 3) w2.heap.size r nk D (fun z => left z && !z.sameKey kl) cnt1 := hrg1.alloc _
                have hmk : Makers (wj.alloc (.cells #[.int .i64 y1, .int .i64 y2] 150)) (w2.heap.size + 1) Ab As cb cs x mlo mhi T w2.heap.size := Box.alloc hmj _
                have hbk : Below w.heap.size w (wj.alloc (.cells #[.int .i64 y1, .int .i64 y2] 150)) := hbj.alloc hbj.size _
                have hbx : Box (wj.alloc (.cells #[.int .i64 y1, .int .i64 y2] 150)) wj.heap.size 150 #[.int .i64 y1, .int .i64 y2] := Box.new _ _ _
                generalize wj.alloc (.cells #[.int .i64 y1, .int .i64 y2] 150) = wk at hrk hmk hbk hbx ⊢
                obtain ⟨v0, v1, v2, v3, v4, v5, v6⟩ := hmk.cells
                have t1 : wk.cell? ⟨wj.heap.size, 0, none⟩ = some (.int .i64 y1) := hbx.cell 0
                have t2 : wk.cell? ⟨wj.heap.size, 0 + 1, none⟩ = some (.int .i64 y2) := hbx.cell 1
                have q1 := hmk.lt
                have q2 := hbx.lt
                refine wp_region_later_tail 5 (by kernel_rfl) (by kernel_rfl) ?_; simp only [List.take_succ_cons, List.take_zero, List.drop_succ_cons, List.drop_zero]; have _hl := later_reads (wk); (repeat (first | (refine (wpQuiet_load_row (ty := 150) (x := .tmp 11) wj.heap.size 0 #[.int .i64 y1, .int .i64 y2] _ rfl (range_later hbx) Try.underlying150 rfl size150) ?_; simp only [Act.put, List.setIfInBounds_toArray, List.set_cons_zero, List.set_cons_succ]) | go_big_quiet_step (fail))); refine wpQuiet_nil ?_; intro wm hw'; have hb_wm := later_below hw'; clear hw' _hl
                have hrm := hrk.kept (gb_of_below hb_wm none) (by simp) (by simp)
                have hmm' : Makers wm (w2.heap.size + 1) Ab As cb cs x mlo mhi T w2.heap.size := Box.below hmk hb_wm q1
                have hbm : Below w.heap.size w wm := hbk.trans (hb_wm.mono hbk.size)
                clear v0 v1 v2 v3 v4 v5 v6 t1 t2
                go_wp2_with (at_delete; refine wpList_delete_ranges _ rfl _ _ 120 150 rfl 3 keyed Try.underlying120 _ w2.heap.size r nk D _ cnt1 rfl hrm _ kl rfl hkey' ?_; intro wn cnt2 hrn hle hturn)
                rw [Maps.strike_twice] at hrn
                go_frame
                go_roundw
                case rel => exact ⟨D.del kl, _, cnt2, hrn, hsf.drop hat, Box.gb hmm' hturn.grown (by simp), hbm.trans (gb_to_below hturn.grown hbm.size (by simp; omega))⟩
                case measure =>
                  rw [hrn.left_eq, hrg.left_eq]
                  omega
              · have hc' : (c == 0) = false := by simp [hc]
                go_wp2_with fail
                refine ⟨⟨D, _, cnt1, hrg1.alloc _, hsf.stay hc hat, Box.alloc hmj _, hbj.alloc hbj.size _⟩, ?_⟩
                rw [(hrg1.alloc _).left_eq, hrg.left_eq]
                exact hltc
  · have E : Hid (makErr x mlo mhi = worksErr x) := by simp only [Hid, makErr]; rw [if_pos g1]
    have g1' : (worksErr x != 0) = true := by simp [g1]
    have G := Lib.hid g1
    have HCW := Lib.hid hcw
    clear g1 hcw
    go_enter Try.func80, Try.ntmps80
    go_wp2_with (go_at_call 21; refine (HCW.out _ bel).mono ?_; rintro e w1 ⟨rfl, hb1⟩; obtain ⟨_hr1, _hr2⟩ := below_reads hb1; have _hz := Below.size hb1; (try simp only [World.size_alloc, World.size_setCell, World.size_drew, World.heap_drewN] at _hz); obtain ⟨_hr3, _hr4⟩ := below_reads (show Below w.heap.size w w1 from bel); have _q0 : w.heap.size < w1.heap.size := (by omega); have _q1 : w.heap.size + 1 < w1.heap.size := (by omega))
    refine bodyPost_ret (v := .tuple #[.pointer none, .int .i64 (worksErr x)]) (by simp [results, Try.results80, go_sem, *]) rfl ?_
    exact ⟨none, by rw [E.out], bel, fun h => absurd (E.out.symm.trans h) G.out⟩
end Go.Proofs.Ytigpefjeelgfdaa

/-
  Walks of layer 1: someMakers, choices, left, worst.
-/
namespace Go.Proofs.Ytigpefjeelgfdaa
open Go.RowKit
open Go.Maps (Keyed)

def someErr (x : Works) (mlo mhi : Int) : Int := if makErr x mlo mhi ≠ 0 then makErr x mlo mhi else if totN x mlo mhi = 0 then 17 else 0
def RetSome (Ab As : Option Addr) (cb cs : Nat) (x : Works) (mlo mhi : Int) (w : World) (e : Ending) (w' : World) : Prop :=
  ∃ p, e = .returned (.tuple #[.pointer p, .int .i64 (someErr x mlo mhi)]) ∧ Below w.heap.size w w' ∧
    (someErr x mlo mhi = 0 → ∃ c b, p = some ⟨c, 0, none⟩ ∧ w.heap.size ≤ b ∧ c ≠ b ∧ w.heap.size ≤ c ∧ Makers w' c Ab As cb cs x mlo mhi (totN x mlo mhi) b ∧ Done w' b (plcN x mlo mhi))

set_option maxHeartbeats 1000000 in
theorem someMakers_any (Ab As : Option Addr) (cb cs : Nat) (x : Works) (mlo mhi : Int) (B : Nat) (w : World) (h : In w B Ab As none cb cs 0 x []) :
    Calls Try.prog 72 #[.agg #[.slice Ab x.bars.length cb, .slice As x.steps.length cs], .agg #[.int .i64 mlo, .int .i64 mhi]] w (RetSome Ab As cb cs x mlo mhi w) := by
  have hB := h.le
  by_cases g1 : makErr x mlo mhi = 0
  · have G := Lib.hid g1
    by_cases g2 : totN x mlo mhi = 0
    · have E : Hid (someErr x mlo mhi = 17) := by simp only [Hid, someErr]; rw [if_neg (by simpa using g1), if_pos g2]
      have G2 := Lib.hid g2
      clear g1 g2
      go_enter Try.func72, Try.ntmps72
      go_wp2_with (go_at_call 80; refine (allMakers_any Ab As cb cs x mlo mhi B _ (h.on (n := w.heap.size) bel hB)).mono ?_; rintro e w1 ⟨p, rfl, hb1, hr⟩; obtain ⟨c, b, rfl, hb0, hcb, hc0, hm, hd⟩ := hr G.out; rw [G.out]; rw [G2.out] at hm; obtain ⟨_hr1, _hr2⟩ := below_reads hb1; have _hz := Below.size hb1; (try simp only [World.size_alloc, World.size_setCell, World.size_drew, World.heap_drewN] at _hz); obtain ⟨_hr3, _hr4⟩ := below_reads (show Below w.heap.size w w1 from bel); have _q0 : w.heap.size < w1.heap.size := (by omega); have _q1 : w.heap.size + 1 < w1.heap.size := (by omega); obtain ⟨v0, v1, v2, v3, v4, v5, v6⟩ := hm.cells)
      refine bodyPost_ret (v := .tuple #[.pointer none, .int .i64 17]) (by simp [results, Try.results72, go_sem, *]) rfl ?_
      exact ⟨none, by rw [E.out], bel, fun h => absurd (E.out.symm.trans h) (by decide)⟩
    · have E : Hid (someErr x mlo mhi = 0) := by simp only [Hid, someErr]; rw [if_neg (by simpa using g1), if_neg g2]
      have hne : ((totN x mlo mhi : Int) == 0) = false := by simp; omega
      clear g1 g2
      go_enter Try.func72, Try.ntmps72
      go_wp2_with (go_at_call 80; refine (allMakers_any Ab As cb cs x mlo mhi B _ (h.on (n := w.heap.size) bel hB)).mono ?_; rintro e w1 ⟨p, rfl, hb1, hr⟩; obtain ⟨c, b, rfl, hb0, hcb, hc0, hm, hd⟩ := hr G.out; rw [G.out]; simp only [World.size_alloc] at hb0 hc0; obtain ⟨_hr1, _hr2⟩ := below_reads hb1; have _hz := Below.size hb1; (try simp only [World.size_alloc, World.size_setCell, World.size_drew, World.heap_drewN] at _hz); obtain ⟨_hr3, _hr4⟩ := below_reads (show Below w.heap.size w w1 from bel); have _q0 : w.heap.size < w1.heap.size := (by omega); have _q1 : w.heap.size + 1 < w1.heap.size := (by omega); obtain ⟨v0, v1, v2, v3, v4, v5, v6⟩ := hm.cells)
      refine bodyPost_ret (v := .tuple #[.pointer (some ⟨c, 0, none⟩), .int .i64 0]) (by simp [results, Try.results72, go_sem, *]) rfl ?_
      exact ⟨_, by rw [E.out], bel, fun _ => ⟨c, b, rfl, by omega, hcb, by omega, hm, hd⟩⟩
  · have E : Hid (someErr x mlo mhi = makErr x mlo mhi) := by simp only [Hid, someErr]; rw [if_pos g1]
    have g1' : (makErr x mlo mhi != 0) = true := by simp [g1]
    have G := Lib.hid g1
    clear g1
    go_enter Try.func72, Try.ntmps72
    go_wp2_with (go_at_call 80; refine (allMakers_any Ab As cb cs x mlo mhi B _ (h.on (n := w.heap.size) bel hB)).mono ?_; rintro e w1 ⟨p, rfl, hb1, hr⟩; obtain ⟨_hr1, _hr2⟩ := below_reads hb1; have _hz := Below.size hb1; (try simp only [World.size_alloc, World.size_setCell, World.size_drew, World.heap_drewN] at _hz); obtain ⟨_hr3, _hr4⟩ := below_reads (show Below w.heap.size w w1 from bel); have _q0 : w.heap.size < w1.heap.size := (by omega); have _q1 : w.heap.size + 1 < w1.heap.size := (by omega))
    refine bodyPost_ret (v := .tuple #[.pointer none, .int .i64 (makErr x mlo mhi)]) (by simp [results, Try.results72, go_sem, *]) rfl ?_
    exact ⟨none, by rw [E.out], bel, fun h => absurd (E.out.symm.trans h) G.out⟩

/-- How many ways there are for step t, or how many bars (-1). -/
def nCh (x : Works) (t : Int) : Nat := if t = -1 then x.bars.length else (stepAt x.steps t.toNat).length
set_option maxHeartbeats 1000000 in
theorem choices_any (c : Nat) (Ab As : Option Addr) (cb cs : Nat) (x : Works) (mlo mhi tot : Int) (b B : Nat) (t : Int) (w : World) (h : In w B Ab As none cb cs 0 x []) (hm : Makers w c Ab As cb cs x mlo mhi tot b) (h1 : -1 ≤ t) (h2 : t < x.steps.length) :
    Calls Try.prog 100 #[.pointer (some ⟨c, 0, none⟩), .int .i64 t] w fun e w' => e = .returned (.int .i64 (nCh x t : Int)) ∧ w = w' := by
  obtain ⟨v0, v1, v2, v3, v4, v5, v6⟩ := hm.cells
  have hz := hm.lt
  by_cases ht : t = -1
  · subst ht
    go_enter Try.func100, Try.ntmps100
    go_wp2
    go_ret
    exact ⟨ret_int (by simp [nCh]), rfl⟩
  · obtain ⟨s, rfl⟩ := Int.eq_ofNat_of_zero_le (show 0 ≤ t by omega)
    have hs : s < x.steps.length := by omega
    have hne : ((s : Int) == -1) = false := by (try simp); (try omega)
    obtain ⟨b1, o1, A1, c1, ws, rfl, hb1, hws, d1, l1, l2, hwsA⟩ := stepsA h.steps hs
    have hbw : b1 < w.heap.size := by have := h.le; omega
    have hl : Hid ((nCh x s : Int) = ws.length) := by
      have : ¬ (s : Int) = -1 := by omega
      simp only [Hid, nCh, if_neg this, Int.toNat_natCast, stepAt_of hws]
    clear ht h1
    go_enter Try.func100, Try.ntmps100
    go_wp2
    go_ret
    exact ⟨ret_int hl.out.symm, rfl⟩

/-- The numbers below k of what has been counted. -/
def leftTo (f : Int → Int → Nat) (t : Int) : Nat → List Int
  | 0 => []
  | k + 1 => if f t k = 0 then leftTo f t k else leftTo f t k ++ [(k : Int)]
theorem leftTo_length (f : Int → Int → Nat) (t : Int) : ∀ k, (leftTo f t k).length ≤ k
  | 0 => by simp [leftTo]
  | k + 1 => by
    have := leftTo_length f t k
    unfold leftTo
    split
    · omega
    · rw [List.length_append]; simp; omega
def intVals (l : List Int) : List Value := l.map (Value.int .i64)
theorem intVals_one (l : List Int) : ∀ u ∈ intVals l, u.oneCell' = true := by
  intro u hu
  obtain ⟨n, _, rfl⟩ := List.mem_map.1 hu
  rfl
theorem nCh_few {x : Works} (h : worksErr x = 0) (t : Int) : nCh x t ≤ 6 := by
  unfold nCh
  split
  · have h1 := (worksOk_iff.1 h).1
    simp only [manyOk, Bool.and_eq_true, Bool.not_eq_true', decide_eq_false_iff_not] at h1
    omega
  · have := ways_few h t.toNat; omega
/-- A look-up with 'ok'. -/
theorem Done.look {w : World} {b : Nat} {f : Int → Int → Nat} (h : Done w b f) {t j : Int} (h1 : -1 ≤ t) (h2 : t ≤ 1000) (h3 : 0 ≤ j) (h4 : j ≤ 1000) :
    (Instr.lookup 120 (.map (some b)) (.agg #[.int .i64 t, .int .i64 j]) true).run Try.prog w = .ok (.tuple #[.int .i64 (f t j : Int), .bool (decide (f t j ≠ 0))]) w ∧
    (Instr.lookup 120 (.map (some b)) (.agg #[.int .i64 t, .int .i64 j]) false).run Try.prog w = .ok (.int .i64 (f t j : Int)) w := by
  obtain ⟨D, n, hown, hD, hh⟩ := h
  have hkey := key_of (s := t) (i := j) (by omega) (by omega) (by omega) (by omega)
  have hat := hD t j h1 h2 h3 h4
  have hha := hh t j h1 h2 h3 h4
  constructor
  · obtain ⟨v, ps, hrun, hv⟩ := hown.look_ok keyed Try.underlying120 (zeroInt w) (plainElem_int (H := Unit) Try.underlying3 (a := 0) (by decide)) hkey
    rw [hat] at hv
    obtain ⟨c, rfl, hc, _⟩ := plainElem_int_inv Try.underlying3 hv
    obtain rfl : ((f t j : Nat) : Int) = c := by simpa using congrArg Prod.fst hc
    rw [hha] at hrun
    exact hrun
  · obtain ⟨c, hL, hc, _⟩ := hown.lookup_int keyed Try.underlying120 Try.underlying3 (zeroInt w) hkey
    rw [hat] at hc
    obtain rfl : ((f t j : Nat) : Int) = c := by simpa using hc
    exact hL

set_option maxHeartbeats 1000000 in
theorem left_any (c : Nat) (Ab As : Option Addr) (cb cs : Nat) (x : Works) (mlo mhi tot : Int) (b B : Nat) (f : Int → Int → Nat) (t : Int) (w : World) (h : In w B Ab As none cb cs 0 x []) (hok : worksErr x = 0) (hm : Makers w c Ab As cb cs x mlo mhi tot b) (hd : Done w b f) (h1 : -1 ≤ t) (h2 : t < x.steps.length) :
    Calls Try.prog 73 #[.pointer (some ⟨c, 0, none⟩), .int .i64 t] w (RetGrown 3 1 (leftTo f t (nCh x t)).length (intVals (leftTo f t (nCh x t))) w) := by
  have hz := hm.lt
  have hn6 := nCh_few hok t
  have hs6 := steps_few hok
  go_enter Try.func73, Try.ntmps73
  go_wp2_with (go_at_call 100; refine (choices_any c Ab As cb cs x mlo mhi tot b B t _ h hm h1 h2).mono ?_; rintro e w1 ⟨rfl, rfl⟩)
  generalize hN : nCh x t = N at hn6 ⊢
  have HNN := Lib.hid hN
  clear hN
  go_loopw [5, 12] (fun v i wr => ∃ (k : Nat), k ≤ N ∧ i = .int .i64 k ∧ Hid (wr.ownsRow w.heap.size 3 1 v (leftTo f t k).length (intVals (leftTo f t k))) ∧ Below w.heap.size w wr)
    (fun _ i _ => N - (intOf i).toNat)
  case atStart =>
    exact ⟨0, by omega, rfl, Lib.hid (World.ownsRow_nil _ _ _ _), Below.refl _ _⟩
  case round =>
    obtain ⟨k, hk, rfl, ho, hb⟩ := hrel
    have hbs := hb.size
    have hgb := gb_of_below hb none
    by_cases hlt : k < N
    · have hlt' : (k : Int) < (N : Int) := by omega
      obtain ⟨v0, v1, v2, v3, v4, v5, v6⟩ := Makers.cells (Box.below hm hb hz)
      obtain ⟨hl1, hl2⟩ := (hd.gb hgb (by simp)).look h1 (by omega) (show 0 ≤ (k : Int) by omega) (by omega)
      have hlen := leftTo_length f t k
      by_cases hf : f t k = 0
      · have e : leftTo f t (k + 1) = leftTo f t k := by rw [leftTo, if_pos hf]
        rw [hf] at hl1
        simp at hl1
        go_wp2_with fail
        go_roundw
        case rel => exact ⟨k + 1, hlt, by go_num, by rw [e]; exact ho, hb⟩
        case measure => simp only [intOf]; omega
      · have e : leftTo f t (k + 1) = leftTo f t k ++ [(k : Int)] := by rw [leftTo, if_neg hf]
        simp [hf] at hl1
        go_wp2_with (go_at_call 81; refine (grownInt_any w.heap.size _ _ _ k _ ho.out (Lib.hid (by omega))).mono ?_; rintro e w2 ⟨v2, rfl, ho2, hb2⟩; have HO2 := Lib.hid ho2; clear ho2)
        go_roundw
        case rel =>
          refine ⟨k + 1, hlt, by go_num, ?_, hb.trans (hb2.mono hbs)⟩
          rw [e, List.length_append, intVals, List.map_append]
          exact Lib.hid (own_mono HO2.out hbs)
        case measure => simp only [intOf]; omega
    · obtain rfl : k = N := by omega
      have hlen := leftTo_length f t k
      go_wp2_with (go_at_call 101; refine (takenInt_any w.heap.size _ _ _ wr ho.out (Lib.hid (by omega)) (Lib.hid (intVals_one _))).mono ?_; rintro e w2 ⟨v2, rfl, ho2, hb2⟩; have HO2 := Lib.hid ho2; clear ho2)
      go_ret
      rw [HNN.out]
      exact ⟨v2, rfl, own_mono HO2.out hbs, hb.trans (hb2.mono hbs)⟩

/-- The greatest of what has been counted below k. -/
def worstTo (f : Int → Int → Nat) (t : Int) : Nat → Nat
  | 0 => 0
  | k + 1 => max (worstTo f t k) (f t k)
set_option maxHeartbeats 1000000 in
theorem worst_any (c : Nat) (Ab As : Option Addr) (cb cs : Nat) (x : Works) (mlo mhi tot : Int) (b B : Nat) (f : Int → Int → Nat) (t : Int) (w : World) (h : In w B Ab As none cb cs 0 x []) (hok : worksErr x = 0) (hm : Makers w c Ab As cb cs x mlo mhi tot b) (hd : Done w b f) (h1 : -1 ≤ t) (h2 : t < x.steps.length) :
    Calls Try.prog 82 #[.pointer (some ⟨c, 0, none⟩), .int .i64 t] w fun e w' => e = .returned (.int .i64 (worstTo f t (nCh x t) : Int)) ∧ Below w.heap.size w w' := by
  have hz := hm.lt
  have hn6 := nCh_few hok t
  have hs6 := steps_few hok
  go_enter Try.func82, Try.ntmps82
  go_wp2_with (go_at_call 100; refine (choices_any c Ab As cb cs x mlo mhi tot b B t _ h hm h1 h2).mono ?_; rintro e w1 ⟨rfl, rfl⟩)
  generalize hN : nCh x t = N at hn6 ⊢
  have HNN := Lib.hid hN
  clear hN
  obtain ⟨v0, v1, v2, v3, v4, v5, v6⟩ := hm.cells
  go_loopw [5, 10] (fun v i wr => ∃ (k : Nat), k ≤ N ∧ i = .int .i64 k ∧ v = .int .i64 (worstTo f t k : Int) ∧ w = wr)
    (fun _ i _ => N - (intOf i).toNat)
  case atStart =>
    exact ⟨0, by omega, rfl, rfl, rfl⟩
  case round =>
    obtain ⟨k, hk, rfl, rfl, rfl⟩ := hrel
    by_cases hlt : k < N
    · have hlt' : (k : Int) < (N : Int) := by omega
      obtain ⟨hl1, hl2⟩ := hd.look h1 (by omega) (show 0 ≤ (k : Int) by omega) (by omega)
      have e : (if worstTo f t k < f t k then (f t k : Int) else (worstTo f t k : Int)) = (worstTo f t (k + 1) : Int) := by rw [worstTo]; split <;> omega
      go_wp2_with fail
      go_roundw
      case rel => exact ⟨k + 1, hlt, by go_num, rfl, trivial⟩
      case measure => simp only [intOf]; omega
    · obtain rfl : k = N := by omega
      go_wp2_with fail
      go_ret
      exact ⟨ret_int (by rw [HNN.out]), Below.refl _ _⟩
end Go.Proofs.Ytigpefjeelgfdaa

/-
  Walks of layer 1: Bars, Ways, Count, Ask.
-/
namespace Go.Proofs.Ytigpefjeelgfdaa
open Go.RowKit
open Go.Maps (Keyed)

def leastTo (l : List Int) : Nat → Nat
  | 0 => 0
  | k + 1 => if intAt l k < intAt l (leastTo l k) then k else leastTo l k
theorem leastTo_lt (l : List Int) : ∀ k, 0 < k → leastTo l k < k
  | 0, h => absurd h (by omega)
  | k + 1, _ => by
    unfold leastTo
    split
    · omega
    · rcases Nat.eq_zero_or_pos k with rfl | h
      · simp [leastTo]
      · have := leastTo_lt l k h; omega
theorem intVals_get {l : List Int} {i : Nat} (h : i < l.length) : (intVals l)[i]? = some (.int .i64 (intAt l i)) := by
  unfold intVals intAt
  rw [List.getElem?_map, List.getElem?_eq_getElem h, List.getD, List.getElem?_eq_getElem h]
  rfl
theorem leastTo_le (l : List Int) (k : Nat) : leastTo l k ≤ k := by
  rcases Nat.eq_zero_or_pos k with rfl | h
  · simp [leastTo]
  · have := leastTo_lt l k h; omega

set_option maxHeartbeats 1000000 in
theorem leastAt_any (base : Nat) (v : Value) (l : List Int) (w : World) (ho : Hid (w.ownsRow base 3 1 v l.length (intVals l))) (hl : 0 < l.length) (hl2 : l.length ≤ 1000) :
    Calls Try.prog 83 #[v] w fun e w' => e = .returned (.int .i64 (leastTo l l.length : Int)) ∧ w = w' := by
  obtain ⟨g, cap, rfl, hg, hg', hc1, hc2, hcell⟩ := own_cells ho.out hl
  clear ho
  go_enter Try.func83, Try.ntmps83
  go_wp2
  go_loopw [3, 8] (fun a i wr => ∃ (k : Nat), k ≤ l.length ∧ i = .int .i64 k ∧ a = .int .i64 (leastTo l k : Int) ∧ w = wr)
    (fun _ i _ => l.length - (intOf i).toNat)
  case atStart => exact ⟨0, by omega, rfl, rfl, rfl⟩
  case round =>
    obtain ⟨k, hk, rfl, rfl, rfl⟩ := hrel
    by_cases hlt : k < l.length
    · have hlt' : (k : Int) < (l.length : Int) := by omega
      have c0 := hcell k _ (intVals_get hlt)
      have hle := leastTo_le l k
      have c1 := hcell (leastTo l k) _ (intVals_get (show leastTo l k < l.length by omega))
      have hlt2 : (leastTo l k : Int) < (l.length : Int) := by omega
      by_cases hc : intAt l k < intAt l (leastTo l k)
      · have e : leastTo l (k + 1) = k := by rw [leastTo, if_pos hc]
        have E := Lib.hid e
        clear e
        go_wp2
        go_roundw
        case rel => exact ⟨k + 1, hlt, by go_num, by rw [E.out], trivial⟩
        case measure => simp only [intOf]; omega
      · have e : leastTo l (k + 1) = leastTo l k := by rw [leastTo, if_neg hc]
        have E := Lib.hid e
        clear e
        have hc' : ¬ intAt l k < intAt l (leastTo l k) := hc
        go_wp2
        go_roundw
        case rel => exact ⟨k + 1, hlt, by go_num, by rw [E.out], trivial⟩
        case measure => simp only [intOf]; omega
    · obtain rfl : k = l.length := by omega
      go_wp2
      go_ret
      exact ⟨ret_int rfl, rfl⟩

set_option maxHeartbeats 1000000 in
theorem heatCount_any (Ab As : Option Addr) (cb cs : Nat) (x : Works) (mlo mhi : Int) (B : Nat) (w : World) (h : In w B Ab As none cb cs 0 x []) :
    Calls Try.prog 37 #[.agg #[.slice Ab x.bars.length cb, .slice As x.steps.length cs], .agg #[.int .i64 mlo, .int .i64 mhi]] w
      fun e w' => e = .returned (.tuple #[.int .i64 (if makErr x mlo mhi = 0 then (totN x mlo mhi : Int) else 0), .int .i64 (makErr x mlo mhi)]) ∧ Below w.heap.size w w' := by
  have hB := h.le
  by_cases g1 : makErr x mlo mhi = 0
  · have G := Lib.hid g1
    rw [if_pos g1, g1]
    clear g1
    go_enter Try.func37, Try.ntmps37
    go_wp2_with (go_at_call 80; refine (allMakers_any Ab As cb cs x mlo mhi B _ (h.on (n := w.heap.size) bel hB)).mono ?_; rintro e w1 ⟨p, rfl, hb1, hr⟩; obtain ⟨c, b, rfl, hb0, hcb, hc0, hm, hd⟩ := hr G.out; rw [G.out]; simp only [World.size_alloc] at hb0 hc0; obtain ⟨_hr1, _hr2⟩ := below_reads hb1; have _hz := Below.size hb1; (try simp only [World.size_alloc, World.size_setCell, World.size_drew, World.heap_drewN] at _hz); obtain ⟨_hr3, _hr4⟩ := below_reads (show Below w.heap.size w w1 from bel); have _q0 : w.heap.size < w1.heap.size := (by omega); have _q1 : w.heap.size + 1 < w1.heap.size := (by omega); obtain ⟨v0, v1, v2, v3, v4, v5, v6⟩ := hm.cells)
    refine bodyPost_ret (v := .tuple #[.int .i64 (totN x mlo mhi : Int), .int .i64 0]) (by simp [results, Try.results37, go_sem, *]) rfl ?_
    exact ⟨rfl, bel⟩
  · have g1' : (makErr x mlo mhi != 0) = true := by simp [g1]
    rw [if_neg g1]
    clear g1
    go_enter Try.func37, Try.ntmps37
    go_wp2_with (go_at_call 80; refine (allMakers_any Ab As cb cs x mlo mhi B _ (h.on (n := w.heap.size) bel hB)).mono ?_; rintro e w1 ⟨p, rfl, hb1, hr⟩; obtain ⟨_hr1, _hr2⟩ := below_reads hb1; have _hz := Below.size hb1; (try simp only [World.size_alloc, World.size_setCell, World.size_drew, World.heap_drewN] at _hz); obtain ⟨_hr3, _hr4⟩ := below_reads (show Below w.heap.size w w1 from bel); have _q0 : w.heap.size < w1.heap.size := (by omega); have _q1 : w.heap.size + 1 < w1.heap.size := (by omega))
    refine bodyPost_ret (v := .tuple #[.int .i64 0, .int .i64 (makErr x mlo mhi)]) (by simp [results, Try.results37, go_sem, *]) rfl ?_
    exact ⟨rfl, bel⟩

theorem someErr_works {x : Works} {mlo mhi : Int} (h : someErr x mlo mhi = 0) : worksErr x = 0 := by
  have h1 : makErr x mlo mhi = 0 := by
    unfold someErr at h
    by_cases g : makErr x mlo mhi = 0
    · exact g
    · rw [if_pos g] at h; exact h
  unfold makErr at h1
  by_cases g : worksErr x = 0
  · exact g
  · rw [if_pos g] at h1; exact h1
/-- Bars that can have made the blade; ways of step t. -/
def leftN (x : Works) (mlo mhi t : Int) : List Int := leftTo (plcN x mlo mhi) t (nCh x t)
set_option maxHeartbeats 1000000 in
theorem heatBars_any (Ab As : Option Addr) (cb cs : Nat) (x : Works) (mlo mhi : Int) (B : Nat) (w : World) (h : In w B Ab As none cb cs 0 x []) :
    Calls Try.prog 33 #[.agg #[.slice Ab x.bars.length cb, .slice As x.steps.length cs], .agg #[.int .i64 mlo, .int .i64 mhi]] w
      (RetList 3 1 (someErr x mlo mhi) (leftN x mlo mhi (-1)).length (intVals (leftN x mlo mhi (-1))) w) := by
  have hB := h.le
  by_cases g1 : someErr x mlo mhi = 0
  · have G := Lib.hid g1
    have hok := someErr_works g1
    rw [g1]
    clear g1
    go_enter Try.func33, Try.ntmps33
    go_wp2_with (first
      | (go_at_call 72; refine (someMakers_any Ab As cb cs x mlo mhi B _ (h.on (n := w.heap.size) bel hB)).mono ?_; rintro e w1 ⟨p, rfl, hb1, hr⟩; obtain ⟨c, b, rfl, hb0, hcb, hc0, hm, hd⟩ := hr G.out; rw [G.out]; simp only [World.size_alloc] at hb0 hc0; obtain ⟨_hr1, _hr2⟩ := below_reads hb1; have _hz := Below.size hb1; (try simp only [World.size_alloc, World.size_setCell, World.size_drew, World.heap_drewN] at _hz); obtain ⟨_hr3, _hr4⟩ := below_reads (show Below w.heap.size w w1 from bel); have _q0 : w.heap.size < w1.heap.size := (by omega); have _q1 : w.heap.size + 1 < w1.heap.size := (by omega))
      | (go_at_call 73; refine (left_any c Ab As cb cs x mlo mhi _ b B _ (-1) w1 (h.on (n := w.heap.size) bel hB) hok hm hd (by omega) (by omega)).mono ?_; rintro e w2 ⟨v2, rfl, ho2, hb2⟩; have HO2 := Lib.hid ho2; clear ho2))
    refine bodyPost_ret (v := .tuple #[v2, .int .i64 0]) (by simp [results, Try.results33, go_sem, *]) rfl ?_
    exact ⟨v2, rfl, fun _ => Lib.hid (own_mono HO2.out (by omega)), fun h => absurd rfl h, bel⟩
  · have g1' : (someErr x mlo mhi != 0) = true := by simp [g1]
    have G := Lib.hid g1
    clear g1
    go_enter Try.func33, Try.ntmps33
    go_wp2_with (go_at_call 72; refine (someMakers_any Ab As cb cs x mlo mhi B _ (h.on (n := w.heap.size) bel hB)).mono ?_; rintro e w1 ⟨p, rfl, hb1, hr⟩; obtain ⟨_hr1, _hr2⟩ := below_reads hb1; have _hz := Below.size hb1; (try simp only [World.size_alloc, World.size_setCell, World.size_drew, World.heap_drewN] at _hz); obtain ⟨_hr3, _hr4⟩ := below_reads (show Below w.heap.size w w1 from bel); have _q0 : w.heap.size < w1.heap.size := (by omega); have _q1 : w.heap.size + 1 < w1.heap.size := (by omega))
    refine bodyPost_ret (v := .tuple #[.slice none 0 0, .int .i64 (someErr x mlo mhi)]) (by simp [results, Try.results33, go_sem, *]) rfl ?_
    exact ⟨_, rfl, fun h => absurd h G.out, fun _ => rfl, bel⟩
end Go.Proofs.Ytigpefjeelgfdaa

/-
  Walks of layer 1: Ways, Ask.
-/
namespace Go.Proofs.Ytigpefjeelgfdaa
open Go.RowKit
open Go.Maps (Keyed)

/-- Values that are lists of the call's own, list i being L i. -/
def OwnAll (w : World) (base : Nat) (vs : List Value) (L : Nat → List Int) : Prop := ∀ i u, vs[i]? = some u → Hid (w.ownsRow base 3 1 u (L i).length (intVals (L i)))
theorem OwnAll.later {w w' : World} {base : Nat} {vs : List Value} {L : Nat → List Int} (h : OwnAll w base vs L) (hb : Below w.heap.size w w') : OwnAll w' base vs L := fun i u hu => Lib.hid (own_later (h i u hu).out hb)
theorem OwnAll.one {w : World} {base : Nat} {vs : List Value} {L : Nat → List Int} (h : OwnAll w base vs L) : ∀ u ∈ vs, u.oneCell' = true := by
  intro u hu
  obtain ⟨i, hi⟩ := List.getElem?_of_mem hu
  obtain ⟨a, c, rfl⟩ := own_slice (h i u hi).out
  rfl
theorem OwnAll.snoc {w : World} {base : Nat} {vs : List Value} {L : Nat → List Int} (h : OwnAll w base vs L) {v : Value} (hv : Hid (w.ownsRow base 3 1 v (L vs.length).length (intVals (L vs.length)))) : OwnAll w base (vs ++ [v]) L := by
  intro i u hu
  rcases Nat.lt_or_ge i vs.length with hi | hi
  · rw [List.getElem?_append_left hi] at hu
    exact h i u hu
  · rw [List.getElem?_append_right hi] at hu
    have : i = vs.length := by
      by_cases e : i - vs.length = 0
      · omega
      · have hlt := (List.getElem?_eq_some_iff.1 hu).1
        simp at hlt; omega
    subst this
    simp at hu
    subst hu
    exact hv
def RetWays (err : Int) (n : Nat) (L : Nat → List Int) (w : World) (e : Ending) (w' : World) : Prop :=
  ∃ v, e = .returned (.tuple #[v, .int .i64 err]) ∧ (err = 0 → ∃ vs : List Value, Hid (w'.ownsRow w.heap.size 40 1 v n vs) ∧ OwnAll w' w.heap.size vs L) ∧ (err ≠ 0 → v = .slice none 0 0) ∧ Below w.heap.size w w'

set_option maxHeartbeats 1000000 in
theorem heatWays_any (Ab As : Option Addr) (cb cs : Nat) (x : Works) (mlo mhi : Int) (B : Nat) (w : World) (h : In w B Ab As none cb cs 0 x []) :
    Calls Try.prog 35 #[.agg #[.slice Ab x.bars.length cb, .slice As x.steps.length cs], .agg #[.int .i64 mlo, .int .i64 mhi]] w
      (RetWays (someErr x mlo mhi) x.steps.length (fun i => leftN x mlo mhi i) w) := by
  have hB := h.le
  by_cases g1 : someErr x mlo mhi = 0
  · have G := Lib.hid g1
    have hok := someErr_works g1
    have hs6 := steps_few hok
    rw [g1]
    clear g1
    go_enter Try.func35, Try.ntmps35
    go_wp2_with (go_at_call 72; refine (someMakers_any Ab As cb cs x mlo mhi B _ (h.on (n := w.heap.size) bel hB)).mono ?_; rintro e w1 ⟨p, rfl, hb1, hr⟩; obtain ⟨c, b, rfl, hb0, hcb, hc0, hm, hd⟩ := hr G.out; rw [G.out]; simp only [World.size_alloc] at hb0 hc0; obtain ⟨_hr1, _hr2⟩ := below_reads hb1; have _hz := Below.size hb1; (try simp only [World.size_alloc, World.size_setCell, World.size_drew, World.heap_drewN] at _hz); obtain ⟨_hr3, _hr4⟩ := below_reads (show Below w.heap.size w w1 from bel); have _q0 : w.heap.size < w1.heap.size := (by omega); have _q1 : w.heap.size + 1 < w1.heap.size := (by omega))
    have hw1 : Below w.heap.size w w1 := bel
    have hz := hm.lt
    have hws := hw1.size
    go_loopw [8, 22] (fun v i wr => ∃ (k : Nat) (vs : List Value), k ≤ x.steps.length ∧ i = .int .i64 k ∧ vs.length = k ∧ Hid (wr.ownsRow w.heap.size 40 1 v k vs) ∧ OwnAll wr w.heap.size vs (fun i => leftN x mlo mhi i) ∧ Below w1.heap.size w1 wr)
      (fun _ i _ => x.steps.length - (intOf i).toNat)
    case atStart =>
      exact ⟨0, [], by omega, rfl, rfl, Lib.hid (World.ownsRow_nil _ _ _ _), fun i u hu => by simp at hu, Below.refl _ _⟩
    case round =>
      obtain ⟨k, vs, hk, rfl, hvl, ho, hall, hb⟩ := hrel
      have hbs := hb.size
      by_cases hlt : k < x.steps.length
      · have hlt' : (k : Int) < (x.steps.length : Int) := by omega
        go_wp2_with (first
          | (go_at_call 73; refine (left_any c Ab As cb cs x mlo mhi _ b B _ k wr (h.on (n := w.heap.size) (hw1.trans (hb.mono hws)) hB) hok (Box.below hm hb hz) (hd.gb (gb_of_below hb none) (by simp)) (by omega) (by omega)).mono ?_; rintro e w2 ⟨v2, rfl, ho2, hb2⟩; obtain ⟨a2, c2, rfl⟩ := own_slice ho2; have HO2 := Lib.hid ho2; clear ho2)
          | (go_at_call 78; refine (grownInts_any w.heap.size k _ vs a2 _ c2 w2 (own_later ho.out hb2) (Lib.hid (by omega))).mono ?_; rintro e w3 ⟨v3, rfl, ho3, hb3⟩; have HO3 := Lib.hid ho3; clear ho3))
        have q2 := hb2.size
        have q3 := hb3.size
        go_roundw
        case rel =>
          refine ⟨k + 1, vs ++ [_], hlt, by go_num, by simp [hvl], Lib.hid (own_mono HO3.out (by omega)), ?_, hb.trans ((hb2.mono hbs).trans (hb3.mono (by omega)))⟩
          refine OwnAll.snoc ((hall.later hb2).later hb3) ?_
          rw [hvl]
          exact Lib.hid (own_mono (own_later HO2.out hb3) (by omega))
        case measure => simp only [intOf]; omega
      · obtain rfl : k = x.steps.length := by omega
        go_wp2_with (go_at_call 79; refine (takenInts_any w.heap.size _ _ vs wr ho.out (Lib.hid (by omega)) (Lib.hid hall.one)).mono ?_; rintro e w2 ⟨v2, rfl, ho2, hb2⟩; have HO2 := Lib.hid ho2; clear ho2)
        refine bodyPost_ret (v := .tuple #[v2, .int .i64 0]) (by simp [results, Try.results35, go_sem, *]) rfl ?_
        exact ⟨v2, rfl, fun _ => ⟨vs, Lib.hid (own_mono HO2.out (by omega)), hall.later hb2⟩, fun h => absurd rfl h, (hw1.trans (hb.mono hws)).trans (hb2.mono (by omega))⟩
  · have g1' : (someErr x mlo mhi != 0) = true := by simp [g1]
    have G := Lib.hid g1
    clear g1
    go_enter Try.func35, Try.ntmps35
    go_wp2_with (go_at_call 72; refine (someMakers_any Ab As cb cs x mlo mhi B _ (h.on (n := w.heap.size) bel hB)).mono ?_; rintro e w1 ⟨p, rfl, hb1, hr⟩; obtain ⟨_hr1, _hr2⟩ := below_reads hb1; have _hz := Below.size hb1; (try simp only [World.size_alloc, World.size_setCell, World.size_drew, World.heap_drewN] at _hz); obtain ⟨_hr3, _hr4⟩ := below_reads (show Below w.heap.size w w1 from bel); have _q0 : w.heap.size < w1.heap.size := (by omega); have _q1 : w.heap.size + 1 < w1.heap.size := (by omega))
    refine bodyPost_ret (v := .tuple #[.slice none 0 0, .int .i64 (someErr x mlo mhi)]) (by simp [results, Try.results35, go_sem, *]) rfl ?_
    exact ⟨_, rfl, fun h => absurd h G.out, fun _ => rfl, bel⟩

/-- How many recipes are left at worst, step by step, the bar first. -/
def worstAt (x : Works) (mlo mhi t : Int) : Nat := worstTo (plcN x mlo mhi) t (nCh x t)
def wlTo (x : Works) (mlo mhi : Int) : Nat → List Int
  | 0 => []
  | k + 1 => wlTo x mlo mhi k ++ [(worstAt x mlo mhi ((k : Int) - 1) : Int)]
theorem wlTo_length (x : Works) (mlo mhi : Int) : ∀ k, (wlTo x mlo mhi k).length = k
  | 0 => rfl
  | k + 1 => by rw [wlTo, List.length_append, wlTo_length x mlo mhi k]; rfl
def askAt (x : Works) (mlo mhi : Int) : Nat := leastTo (wlTo x mlo mhi (x.steps.length + 1)) (x.steps.length + 1)
def askV (x : Works) (mlo mhi : Int) : Value :=
  if someErr x mlo mhi = 0 then .tuple #[.int .i64 ((askAt x mlo mhi : Int) - 1), .int .i64 (intAt (wlTo x mlo mhi (x.steps.length + 1)) (askAt x mlo mhi)), .int .i64 0]
  else .tuple #[.int .i64 0, .int .i64 0, .int .i64 (someErr x mlo mhi)]

theorem measAsk {j : Int} {n : Nat} (h : -1 ≤ j) (h2 : j < n) :
    (n - (intOf (Value.int .i64 (j + 1))).toNat + if intOf (Value.int .i64 (j + 1)) < 0 then 1 else 0) < n - (intOf (Value.int .i64 j)).toNat + if intOf (Value.int .i64 j) < 0 then 1 else 0 := by
  have e1 : intOf (Value.int .i64 (j + 1)) = j + 1 := rfl
  have e2 : intOf (Value.int .i64 j) = j := rfl
  rw [e1, e2]
  by_cases h3 : j < 0
  · have h4 : ¬ j + 1 < 0 := by omega
    rw [if_neg h4, if_pos h3]; omega
  · have h4 : ¬ j + 1 < 0 := by omega
    rw [if_neg h4, if_neg h3]; omega
set_option maxHeartbeats 1000000 in
theorem heatAsk_any (Ab As : Option Addr) (cb cs : Nat) (x : Works) (mlo mhi : Int) (B : Nat) (w : World) (h : In w B Ab As none cb cs 0 x []) :
    Calls Try.prog 41 #[.agg #[.slice Ab x.bars.length cb, .slice As x.steps.length cs], .agg #[.int .i64 mlo, .int .i64 mhi]] w
      fun e w' => e = .returned (askV x mlo mhi) ∧ Below w.heap.size w w' := by
  have hB := h.le
  by_cases g1 : someErr x mlo mhi = 0
  · have G := Lib.hid g1
    have hok := someErr_works g1
    have hs6 := steps_few hok
    rw [askV, if_pos g1]
    clear g1
    go_enter Try.func41, Try.ntmps41
    go_wp2_with (go_at_call 72; refine (someMakers_any Ab As cb cs x mlo mhi B _ (h.on (n := w.heap.size) bel hB)).mono ?_; rintro e w1 ⟨p, rfl, hb1, hr⟩; obtain ⟨c, b, rfl, hb0, hcb, hc0, hm, hd⟩ := hr G.out; rw [G.out]; simp only [World.size_alloc] at hb0 hc0; obtain ⟨_hr1, _hr2⟩ := below_reads hb1; have _hz := Below.size hb1; (try simp only [World.size_alloc, World.size_setCell, World.size_drew, World.heap_drewN] at _hz); obtain ⟨_hr3, _hr4⟩ := below_reads (show Below w.heap.size w w1 from bel); have _q0 : w.heap.size < w1.heap.size := (by omega); have _q1 : w.heap.size + 1 < w1.heap.size := (by omega))
    have hw1 : Below w.heap.size w w1 := bel
    have hz := hm.lt
    have hws := hw1.size
    have hbx : Box w1 w.heap.size 25 #[.slice Ab x.bars.length cb, .slice As x.steps.length cs] := Box.below (Box.alloc (Box.new w 25 _) _) hb1 (by simp; omega)
    have hbz := hbx.lt
    go_loopw [9, 10] (fun v i wr => ∃ (k : Nat) (j : Int), k ≤ x.steps.length + 1 ∧ j = (k : Int) - 1 ∧ i = .int .i64 j ∧ Hid (wr.ownsRow w.heap.size 3 1 v (wlTo x mlo mhi k).length (intVals (wlTo x mlo mhi k))) ∧ Below w1.heap.size w1 wr)
      (fun _ i _ => x.steps.length - (intOf i).toNat + (if intOf i < 0 then 1 else 0))
    case atStart =>
      exact ⟨0, -1, by omega, rfl, rfl, Lib.hid (World.ownsRow_nil _ _ _ _), Below.refl _ _⟩
    case round =>
      obtain ⟨k, j, hk, hj, rfl, ho, hb⟩ := hrel
      have hbs := hb.size
      obtain ⟨t1, t2, t3, t4⟩ := (Box.below hbx hb hbz).two
      have hwl := wlTo_length x mlo mhi k
      by_cases hlt : j < x.steps.length
      · have hj1 : -1 ≤ j := by omega
        have he : wlTo x mlo mhi (k + 1) = wlTo x mlo mhi k ++ [(worstAt x mlo mhi j : Int)] := by rw [wlTo, hj]
        have HE := Lib.hid he
        have HJ := Lib.hid hj
        have hW : wrap64 (j + 1) = j + 1 := by unfold wrap64; omega
        clear he hj
        go_wp2_with (first
          | (go_at_call 82; refine (worst_any c Ab As cb cs x mlo mhi _ b B _ j wr (h.on (n := w.heap.size) (hw1.trans (hb.mono hws)) hB) hok (Box.below hm hb hz) (hd.gb (gb_of_below hb none) (by simp)) hj1 hlt).mono ?_; rintro e w2 ⟨rfl, hb2⟩)
          | (go_at_call 81; refine (grownInt_any w.heap.size _ _ _ (worstAt x mlo mhi j : Int) w2 (own_later ho.out hb2) (Lib.hid (by omega))).mono ?_; rintro e w3 ⟨v3, rfl, ho3, hb3⟩; have HO3 := Lib.hid ho3; clear ho3))
        have q2 := hb2.size
        have q3 := hb3.size
        go_roundw
        case rel =>
          refine ⟨k + 1, j + 1, by have := HJ.out; omega, by have := HJ.out; omega, by first | rfl | rw [hW], ?_, hb.trans ((hb2.mono hbs).trans (hb3.mono (by omega)))⟩
          rw [HE.out, List.length_append, intVals, List.map_append]
          exact Lib.hid (own_mono HO3.out (by omega))
        case measure => exact measAsk hj1 hlt
      · obtain rfl : k = x.steps.length + 1 := by omega
        have hat : askAt x mlo mhi < x.steps.length + 1 := leastTo_lt _ _ (by omega)
        rw [hwl] at ho
        obtain ⟨g, cap, rfl, hg, hg', hc1, hc2, hcell⟩ := own_cells ho.out (by omega)
        have c0 := hcell (askAt x mlo mhi) _ (intVals_get (by omega))
        have hle := leastAt_any w.heap.size _ (wlTo x mlo mhi (x.steps.length + 1)) wr (by rw [hwl]; exact ho) (by omega) (by omega)
        rw [hwl] at hle
        have hat2 : (askAt x mlo mhi : Int) < ((x.steps.length + 1 : Nat) : Int) := by omega
        have HLE := Lib.hid hle
        clear hle hj hwl
        go_wp2_with (go_at_call 83; refine (HLE.out).mono ?_; rintro e w2 ⟨rfl, rfl⟩; rw [← askAt])
        go_quiet (fail)
        go_wp2_with fail
        have hfin : Below w.heap.size w wr := hw1.trans (hb.mono hws)
        have hcm : (-1 : Int) + (askAt x mlo mhi : Int) = (askAt x mlo mhi : Int) - 1 := by omega
        refine bodyPost_ret (v := .tuple #[.int .i64 ((askAt x mlo mhi : Int) - 1), .int .i64 (intAt (wlTo x mlo mhi (x.steps.length + 1)) (askAt x mlo mhi)), .int .i64 0]) (by simp [results, Try.results41, go_sem, *]) rfl ?_
        exact ⟨rfl, below_drewN hfin _⟩
  · have g1' : (someErr x mlo mhi != 0) = true := by simp [g1]
    rw [askV, if_neg g1]
    clear g1
    go_enter Try.func41, Try.ntmps41
    go_wp2_with (go_at_call 72; refine (someMakers_any Ab As cb cs x mlo mhi B _ (h.on (n := w.heap.size) bel hB)).mono ?_; rintro e w1 ⟨p, rfl, hb1, hr⟩; obtain ⟨_hr1, _hr2⟩ := below_reads hb1; have _hz := Below.size hb1; (try simp only [World.size_alloc, World.size_setCell, World.size_drew, World.heap_drewN] at _hz); obtain ⟨_hr3, _hr4⟩ := below_reads (show Below w.heap.size w w1 from bel); have _q0 : w.heap.size < w1.heap.size := (by omega); have _q1 : w.heap.size + 1 < w1.heap.size := (by omega))
    refine bodyPost_ret (v := .tuple #[.int .i64 0, .int .i64 0, .int .i64 (someErr x mlo mhi)]) (by simp [results, Try.results41, go_sem, *]) rfl ?_
    exact ⟨rfl, bel⟩
end Go.Proofs.Ytigpefjeelgfdaa

/-
  Walks of layer 1: History.
-/
namespace Go.Proofs.Ytigpefjeelgfdaa
open Go.RowKit
open Go.Shelf
attribute [local go_sem] Oper.semAt_some

set_option maxHeartbeats 1000000 in
theorem history_any (c : Nat) (w : World) :
    Calls Try.prog 69 #[.pointer (some ⟨c, 0, none⟩)] w fun e w' => e = .returned (.func (.func 98) #[] #[.pointer (some ⟨w.heap.size, 0, none⟩)]) ∧ w' = w.alloc (.cells #[.pointer (some ⟨c, 0, none⟩)] 95) := by
  go_enter Try.func69, Try.ntmps69
  go_wp2
  go_ret
  exact ⟨rfl, rfl⟩

set_option maxRecDepth 100000 in
set_option maxHeartbeats 2000000 in
theorem heatHistory_ok (Ab As Ar : Option Addr) (cb cs cr : Nat) (x : Works) (m : Nat) (ways : List Int) (lo hi : Int) (B : Nat) (w : World) (h : In w B Ab As Ar cb cs cr x ways) (G : Hid (agrErr x m ways lo hi = 0)) (ok : RecOk x m ways) :
    CallsIn Fence.wide 10 Try.prog 30 #[.agg #[.slice Ab x.bars.length cb, .slice As x.steps.length cs], .agg #[.int .i64 m, .slice Ar ways.length cr], .agg #[.int .i64 lo, .int .i64 hi]] w
      (RetList 2 1 0 (x.steps.length + 1) ((List.range (x.steps.length + 1)).map fun k => .int .i64 (histN x m ways (agrRows x m ways lo hi) k)) w) := by
  have hB := h.le
  have hs6 := steps_few ok.works
  refine callsIn_of_wp_marks Try.func30 rfl trivial ?_ rfl
  simp only [Try.ntmps30, List.size_toArray, List.length_cons, List.length_nil, Nat.reduceAdd, Nat.reduceSub, Array.replicate_succ, Array.replicate_zero, List.push_toArray, List.append_toArray, List.nil_append, List.cons_append]
  gi_wp2_with (first
    | (refine ⟨trivial, ?_⟩; gi_at_call 66; refine (callsIn_wide.2 (agreeing_any _ _ _ _ _ _ x m ways lo hi B _ (h.on (n := w.heap.size) bel hB))).mono ?_; rintro e w1 ⟨p, rfl, hb1, hr1⟩; obtain ⟨c, rfl, vr, hc, hBc, ho, hb9⟩ := hr1 G.out; rw [G.out]; obtain ⟨_hr1, _hr2⟩ := below_reads hb1; have _hz := Below.size hb1; (try simp only [World.size_alloc, World.size_setCell, World.size_drew, World.heap_drewN] at _hz); obtain ⟨_hr3, _hr4⟩ := below_reads (show Below w.heap.size w w1 from bel); have _q0 : w.heap.size < w1.heap.size := (by omega); have _q1 : w.heap.size + 1 < w1.heap.size := (by omega); have _q2 : w.heap.size + 1 + 1 < w1.heap.size := (by omega))
    | (refine ⟨trivial, ?_⟩; gi_at_call 69; refine (callsIn_wide.2 (history_any c _)).mono ?_; rintro e w3 ⟨rfl, rfl⟩))
  obtain ⟨g, cap, rfl, hg, hg', hcr1, hcr2, hrd⟩ := own_cells ho.out (by omega)
  have hb01 : Below w.heap.size w w1 := bel
  have hz1 := Box.lt hc
  have hws1 := hb01.size
  have hW0b : Below w1.heap.size w1 ((w1.alloc (.cells #[.slice none 0 0] 43)).alloc (.cells #[.pointer (some ⟨c, 0, none⟩)] 95)) := bel
  have hW0s : ((w1.alloc (.cells #[.slice none 0 0] 43)).alloc (.cells #[.pointer (some ⟨c, 0, none⟩)] 95)).heap.size = w1.heap.size + 2 := by simp
  have hbx0 : Box ((w1.alloc (.cells #[.slice none 0 0] 43)).alloc (.cells #[.pointer (some ⟨c, 0, none⟩)] 95)) w1.heap.size 43 #[.slice none 0 0] := Box.alloc (Box.new _ _ _) _
  have hbn0 : Box ((w1.alloc (.cells #[.slice none 0 0] 43)).alloc (.cells #[.pointer (some ⟨c, 0, none⟩)] 95)) (w1.heap.size + 1) 95 #[.pointer (some ⟨c, 0, none⟩)] := Box.new' (by simp)
  generalize (w1.alloc (.cells #[.slice none 0 0] 43)).alloc (.cells #[.pointer (some ⟨c, 0, none⟩)] 95) = W0 at hW0b hW0s hbx0 hbn0 ⊢
  have hrow : ∀ i, i ≤ x.steps.length → RowAt W0 g (i * 1001) (agrRows x m ways lo hi i) := fun i hi => (row_in hrd (i := i) (by omega)).on hW0b hg'
  have hruns := hist1_runs 9 (w1.heap.size + 1) c g cap Ab As Ar cb cs cr x m ways B w1.heap.size (w1.heap.size + 1) (agrRows x m ways lo hi) W0 (by omega) (h.on (n := w.heap.size) (hb01.trans (hW0b.mono hws1)) hB) ok (Box.below hc hW0b hz1) hrow (hbn0.cell 0) (by omega) hz1 hg' (by omega) (Nat.le_refl _) (by omega)
  refine wpIn_over (lo := w1.heap.size + 1) (n₀ := w1.heap.size) (N := x.steps.length + 1) (h := fun k => .int .i64 (histN x m ways (agrRows x m ways lo hi) k)) rfl (by omega) (gf := 98) (lb := #[.pointer (some ⟨w1.heap.size + 1, 0, none⟩)]) rfl trivial (enters_of Try.func98 (by kernel_rfl) rfl)
    (by omega) (by omega) hruns rfl
    (fun k W => (∃ v, Box W w1.heap.size 43 #[v] ∧ Hid (W.ownsRow (W0.heap.size + 3) 2 1 v k ((List.range k).map fun k => .int .i64 (histN x m ways (agrRows x m ways lo hi) k)))) ∧ Below w.heap.size w W)
    ?hI ⟨⟨_, hbx0, Lib.hid (World.ownsRow_nil _ _ _ _)⟩, hb01.trans (hW0b.mono hws1)⟩
    (fun k => { tmps := #[.agg #[.slice Ab x.bars.length cb, .slice As x.steps.length cs], .agg #[.int .i64 m, .slice Ar ways.length cr], .agg #[.int .i64 lo, .int .i64 hi], .pointer (some ⟨w.heap.size, 0, none⟩), .pointer (some ⟨w.heap.size + 1, 0, none⟩), .pointer (some ⟨w.heap.size + 1 + 1, 0, none⟩), .slice none 0 0, .int .i64 0, .pointer (some ⟨c, 0, none⟩), .int .i64 0, .pointer (some ⟨w1.heap.size, 0, none⟩), .int .i64 (histN x m ways (agrRows x m ways lo hi) k), .tuple #[.pointer (some ⟨c, 0, none⟩), .int .i64 0], .agg #[.slice Ab x.bars.length cb, .slice As x.steps.length cs], .agg #[.int .i64 m, .slice Ar ways.length cr], .agg #[.int .i64 lo, .int .i64 hi], .tuple #[.pointer (some ⟨c, 0, none⟩), .int .i64 0], .pointer (some ⟨c, 0, none⟩), .int .i64 0, .int .i64 0, .bool false, undef, .pointer (some ⟨c, 0, none⟩), .func (.func 98) #[] #[.pointer (some ⟨w1.heap.size + 1, 0, none⟩)], .int .i64 (histN x m ways (agrRows x m ways lo hi) k), undef, undef, undef, undef, undef], defers := [] }) ?assign ?body ?done
  case hI =>
    rintro k A C row ⟨⟨v, hb, ho⟩, hbel⟩ hgr hr
    refine ⟨⟨v, Box.gb hb hgr (fun e => by have := hr _ e.symm; omega), Lib.hid (own_gb ho.out hgr (fun r e => by have := hr r e; omega))⟩, hbel.trans (gb_to_below hgr hbel.size (fun r e => by have := hr r e; omega))⟩
  case assign =>
    intro l k W K hK
    gi_wp2
    exact hK
  case body =>
    rintro l k W ⟨⟨v, hb, ho⟩, hbel⟩ hk hsz
    obtain ⟨p0, p1⟩ := hb.one
    have hzb := hb.lt
    gi_wp2_with (refine ⟨trivial, ?_⟩; gi_at_call 70; refine (CallsIn.inRound l (callsIn_wide.2 (grownInt64_any (W0.heap.size + 3) k v _ (histN x m ways (agrRows x m ways lo hi) k) W ho.out (Lib.hid (by omega))))).mono ?_; rintro e w2 ⟨v2, rfl, ho2, hb2⟩; obtain ⟨a2, c2, rfl⟩ := own_slice ho2; have HO2 := Lib.hid ho2; clear ho2; have hbx2 : Box w2 w1.heap.size 43 #[v] := Box.below hb hb2 hzb; obtain ⟨q0, q1⟩ := hbx2.one)
    have hz2 := hb2.size
    refine ⟨⟨by rw [World.size_setCell]; exact hz2, fun i hi => (Below.heap_setCell w2 _ _ i (by show i ≠ w1.heap.size; omega)).trans (hb2.block i (by omega))⟩, ⟨_, Box.set_ hbx2 0 _, Lib.hid (own_mono (own_far HO2.out (by show w1.heap.size < _; omega) _) (by omega))⟩, ?_⟩
    exact (hbel.trans (hb2.mono hbel.size)).setCell (p := ⟨w1.heap.size, 0, none⟩) hws1 _
  case done =>
    rintro D W hD ⟨⟨v, hb, ho⟩, hbel⟩ hK
    obtain ⟨p0, p1⟩ := hb.one
    have hDz : D < W.heap.size := (Array.getElem?_eq_some_iff.1 hK).1
    gi_wp2_with (refine ⟨trivial, ?_⟩; gi_at_call 71; refine (callsIn_wide.2 (takenInt64_any (W0.heap.size + 3) _ v _ W ho.out (Lib.hid (by omega)) (Lib.hid (by simp [Value.oneCell'])))).mono ?_; rintro e w2 ⟨v2, rfl, ho2, hb2⟩; have HO2 := Lib.hid ho2; clear ho2)
    have hK2 : w2.heap[D]? = some (.deferred (some [])) := (hb2.block D hDz).trans hK
    have hz2 := hb2.size
    have hbz := hbel.size
    refine ⟨by simp, .inl ⟨_, _, rfl, run_takeDeferred hK2, ?_⟩⟩
    refine ⟨.tuple #[v2, .int .i64 0], by simp [results, Try.results30, go_sem, *], ?_⟩
    have hgp := grownBy_putObj' w2 D (.deferred none)
    refine ⟨v2, rfl, fun _ => Lib.hid (own_mono (own_gb HO2.out hgp (fun r e => by injection e with e; omega)) hbz), fun h => absurd rfl h, (hbel.trans (hb2.mono hbz)).trans (gb_to_below hgp (by omega) (fun r e => by injection e with e; omega))⟩

/-- The history that is handed back. -/
def histVals (x : Works) (bar : Int) (ways : List Int) (lo hi : Int) : List Int := (List.range (x.steps.length + 1)).map fun k => histN x bar.toNat ways (agrRows x bar ways lo hi) k
theorem agrErr_rec {x : Works} {bar : Int} {ways : List Int} {lo hi : Int} (h : agrErr x bar ways lo hi = 0) : recErr x bar ways = 0 := by
  unfold agrErr at h
  by_cases hr : recErr x bar ways = 0
  · exact hr
  · rw [if_pos hr] at h; exact h
set_option maxRecDepth 100000 in
set_option maxHeartbeats 2000000 in
theorem heatHistory_any (Ab As Ar : Option Addr) (cb cs cr : Nat) (x : Works) (bar : Int) (ways : List Int) (lo hi : Int) (B : Nat) (w : World) (h : In w B Ab As Ar cb cs cr x ways) :
    Calls Try.prog 30 #[.agg #[.slice Ab x.bars.length cb, .slice As x.steps.length cs], .agg #[.int .i64 bar, .slice Ar ways.length cr], .agg #[.int .i64 lo, .int .i64 hi]] w
      (RetList 2 1 (agrErr x bar ways lo hi) (x.steps.length + 1) (intVals (histVals x bar ways lo hi)) w) := by
  by_cases g1 : agrErr x bar ways lo hi = 0
  · have ok := recOk_iff.1 (agrErr_rec g1)
    obtain ⟨m, hbar⟩ := Int.eq_ofNat_of_zero_le ok.bar0
    subst hbar
    have := callsIn_wide.1 (heatHistory_ok Ab As Ar cb cs cr x m ways lo hi B w h g1 ok)
    rw [g1]
    unfold intVals histVals
    rw [List.map_map]
    exact this
  · have hB := h.le
    have g1' : (agrErr x bar ways lo hi != 0) = true := by simp [g1]
    have G := Lib.hid g1
    clear g1
    refine (callsIn_wide (n := 10)).1 ?_
    refine callsIn_of_wp_marks Try.func30 rfl trivial ?_ rfl
    simp only [Try.ntmps30, List.size_toArray, List.length_cons, List.length_nil, Nat.reduceAdd, Nat.reduceSub, Array.replicate_succ, Array.replicate_zero, List.push_toArray, List.append_toArray, List.nil_append, List.cons_append]
    gi_wp2_with (refine ⟨trivial, ?_⟩; gi_at_call 66; refine (callsIn_wide.2 (agreeing_any _ _ _ _ _ _ x bar ways lo hi B _ (h.on (n := w.heap.size) bel hB))).mono ?_; rintro e w1 ⟨p, rfl, hb1, hr1⟩; obtain ⟨_hr1, _hr2⟩ := below_reads hb1; have _hz := Below.size hb1; (try simp only [World.size_alloc, World.size_setCell, World.size_drew, World.heap_drewN] at _hz); obtain ⟨_hr3, _hr4⟩ := below_reads (show Below w.heap.size w w1 from bel); have _q0 : w.heap.size < w1.heap.size := (by omega); have _q1 : w.heap.size + 1 < w1.heap.size := (by omega); have _q2 : w.heap.size + 1 + 1 < w1.heap.size := (by omega))
    refine ⟨.tuple #[.slice none 0 0, .int .i64 (agrErr x bar ways lo hi)], by simp [results, Try.results30, go_sem, *], ?_⟩
    exact ⟨_, rfl, fun h => absurd h G.out, fun _ => rfl, bel⟩
end Go.Proofs.Ytigpefjeelgfdaa

/-
  Walks of layer 1's statements: lists that are compared.
-/
namespace Go.Proofs.Ytigpefjeelgfdaa
open Go.RowKit

theorem flatMap_get {α : Type} (f : α → List Value) (s : Nat) (hf : ∀ x, (f x).length = s) : ∀ (l : List α) (i j : Nat) (x : α), l[i]? = some x → j < s → (l.flatMap f)[i * s + j]? = (f x)[j]?
  | [], i, _, x, h, _ => by simp at h
  | y :: l, 0, j, x, h, hj => by
    simp at h
    subst h
    rw [List.flatMap_cons, Nat.zero_mul, Nat.zero_add, List.getElem?_append_left (by rw [hf]; exact hj)]
  | y :: l, i + 1, j, x, h, hj => by
    simp at h
    rw [List.flatMap_cons, List.getElem?_append_right (by rw [hf, Nat.succ_mul]; omega), hf]
    have e : (i + 1) * s + j - s = i * s + j := by rw [Nat.succ_mul]; omega
    rw [e]
    exact flatMap_get f s hf l i j x h hj
/-- A list of the call's own reads as a list. -/
theorem own_sl {α : Type} {R : World → Nat → Nat → α → Prop} (f : α → List Value) (s : Nat) (hf : ∀ x, (f x).length = s) (hR : ∀ (W : World) (g off : Nat) (x : α), (∀ j u, (f x)[j]? = some u → W.cell? ⟨g, off + j, none⟩ = some u) → R W g off x)
    {w : World} {base : Nat} {e : TypeId} {v : Value} {l : List α} (h : w.ownsRow base e s v l.length (l.flatMap f)) : SL R s w w.heap.size v l := by
  rcases h.2 with ⟨h1, h2⟩ | ⟨g, cap, cur, hv, hb, hg, hnc, hcm, hcs, htake⟩
  · obtain rfl : l = [] := List.eq_nil_of_length_eq_zero h2
    subst h1
    exact SL.nil _ _ _ _
  · refine ⟨some ⟨g, 0, none⟩, cap, hv, hnc, by simpa [maxLen] using hcm, fun _ => ⟨g, 0, rfl, (Array.getElem?_eq_some_iff.1 hg).1, fun i x hi => ?_⟩⟩
    refine hR w g (0 + i * s) x fun j u hu => ?_
    have hj : j < s := by rw [← hf x]; exact (List.getElem?_eq_some_iff.1 hu).1
    have h3 := flatMap_get f s hf l i j x hi hj
    rw [hu, ← htake, List.getElem?_take] at h3
    split at h3
    · rw [cell_of_row w g _ cur e (0, 0) hg, Nat.zero_add]
      simpa using h3
    · cases h3
def rgV (r : Rg) : List Value := [.int .i64 r.1, .int .i64 r.2]
theorem own_rgs {w : World} {base : Nat} {e : TypeId} {v : Value} {l : List Rg} (h : w.ownsRow base e 2 v l.length (l.flatMap rgV)) : Rgs w w.heap.size v l :=
  own_sl rgV 2 (fun _ => rfl) (fun W g off x hx => ⟨hx 0 _ rfl, hx 1 _ rfl⟩) h
theorem own_ints {w : World} {base : Nat} {e : TypeId} {v : Value} {l : List Int} (h : w.ownsRow base e 1 v l.length (intVals l)) : Ints .i64 w w.heap.size v l := by
  refine own_sl (fun n => [Value.int .i64 n]) 1 (fun _ => rfl) (fun W g off x hx => hx 0 _ rfl) (base := base) (e := e) ?_
  have : l.flatMap (fun n => [Value.int .i64 n]) = intVals l := by
    unfold intVals
    clear h
    induction l with
    | nil => rfl
    | cons a l ih => rw [List.flatMap_cons, ih]; rfl
  rw [this]
  exact h
/-- The ranges of rows. -/
def endsL (R : Nat → Nat → Bool) (n : Nat) : List Rg := (List.range n).map fun i => (((endsOf (R i)).1 : Int), ((endsOf (R i)).2 : Int))
theorem endsL_length (R : Nat → Nat → Bool) (n : Nat) : (endsL R n).length = n := by simp [endsL]
theorem endsL_cells (R : Nat → Nat → Bool) (n : Nat) : (endsL R n).flatMap rgV = endsTo R n := by
  unfold endsL endsTo
  rw [List.flatMap_map]
  rfl

theorem list_eq_of {α : Type} {la lb : List α} (hl : la.length = lb.length) (h : ∀ (i : Nat) (x y : α), la[i]? = some x → lb[i]? = some y → x = y) : la = lb := by
  apply List.ext_getElem hl
  intro i h1 h2
  exact h i _ _ (List.getElem?_eq_getElem h1) (List.getElem?_eq_getElem h2)

set_option maxHeartbeats 1000000 in
theorem lawInts_any (Aa Ab : Option Addr) (ca cb : Nat) (la lb : List Int) (B : Nat) (w : World) (ha : IntsA .i64 w B Aa la) (hb : IntsA .i64 w B Ab lb) (hB : B ≤ w.heap.size) (h1 : la.length ≤ ca) (h2 : ca ≤ 9223372036854775807) (h3 : lb.length ≤ cb) (h4 : cb ≤ 9223372036854775807) :
    Calls Try.prog 39 #[.slice Aa la.length ca, .slice Ab lb.length cb] w fun e w' => e = .returned (.bool (decide (la = lb))) ∧ Below w.heap.size w w' := by
  by_cases hl : la.length = lb.length
  · have hl' : ((la.length : Int) != (lb.length : Int)) = false := by simp [hl]
    have HL := Lib.hid hl
    clear hl
    go_enter Try.func39, Try.ntmps39
    go_wp2_with fail
    go_loopw [5] (fun i wr => ∃ (k : Nat), k ≤ la.length ∧ i = .int .i64 k ∧ Hid (∀ (i : Nat) x y, i < k → la[i]? = some x → lb[i]? = some y → x = y) ∧ Below w.heap.size w wr)
      (fun i _ => la.length - (intOf i).toNat)
    case atStart => exact ⟨0, by omega, rfl, Lib.hid (fun i x y h => absurd h (by omega)), Below.refl _ _⟩
    case round =>
      obtain ⟨k, hk, rfl, hup, hbl⟩ := hrel
      by_cases hlt : k < la.length
      · obtain ⟨b, off, x, rfl, hbb, hx, d0⟩ := intsA (ints_on ha hbl hB) hlt
        obtain ⟨b', off', y, rfl, hbb', hy, d0'⟩ := intsA (ints_on hb hbl hB) (show k < lb.length by rw [← HL.out]; exact hlt)
        have z1 : b < wr.heap.size := by have := hbl.size; omega
        have z2 : b' < wr.heap.size := by have := hbl.size; omega
        have i1 : (k : Int) < (la.length : Int) := by omega
        have i2 : (k : Int) < (lb.length : Int) := by rw [← HL.out]; exact i1
        by_cases e : x = y
        · subst e
          go_wp2_with fail
          go_quiet (fail)
          go_wp2_with fail
          go_roundw
          case rel =>
            refine ⟨k + 1, hlt, by go_num, Lib.hid (fun i p q hi hp hq => ?_), below_drewN hbl _⟩
            rcases Nat.lt_or_ge i k with h | h
            · exact hup.out i p q h hp hq
            · obtain rfl : i = k := by omega
              have hx' := hx.out
              have hy' := hy.out
              rw [hp] at hx'
              rw [hq] at hy'
              injection hx' with hx'
              injection hy' with hy'
              rw [hx', hy']
          case measure => simp only [intOf]; omega
        · have e' : (x != y) = true := by simp [e]
          have hne : Hid (decide (la = lb) = false) := by
            refine Lib.hid (decide_eq_false fun h => e ?_)
            have hx' := hx.out
            rw [h, hy.out] at hx'
            injection hx' with hx'
            exact hx'.symm
          go_wp2_with fail
          go_quiet (fail)
          go_wp2_with fail
          go_ret
          exact ⟨ret_bool hne.out.symm, below_drewN hbl _⟩
      · obtain rfl : k = la.length := by omega
        have he : Hid (decide (la = lb) = true) := Lib.hid (decide_eq_true (list_eq_of HL.out fun i x y hx hy => hup.out i x y (List.getElem?_eq_some_iff.1 hx).1 hx hy))
        go_wp2_with fail
        go_ret
        exact ⟨ret_bool he.out.symm, hbl⟩
  · have hl' : ((la.length : Int) != (lb.length : Int)) = true := by simp; omega
    have hne : Hid (decide (la = lb) = false) := Lib.hid (decide_eq_false fun h => hl (by rw [h]))
    clear hl
    go_enter Try.func39, Try.ntmps39
    go_wp2_with fail
    go_ret
    exact ⟨ret_bool hne.out.symm, Below.refl _ _⟩

set_option maxHeartbeats 1000000 in
theorem lawRanges_any (Aa Ab : Option Addr) (ca cb : Nat) (la lb : List Rg) (B : Nat) (w : World) (ha : RgsA w B Aa la) (hb : RgsA w B Ab lb) (hB : B ≤ w.heap.size) (h1 : la.length ≤ ca) (h2 : ca ≤ 9223372036854775807) (h3 : lb.length ≤ cb) (h4 : cb ≤ 9223372036854775807) :
    Calls Try.prog 25 #[.slice Aa la.length ca, .slice Ab lb.length cb] w fun e w' => e = .returned (.bool (decide (la = lb))) ∧ Below w.heap.size w w' := by
  by_cases hl : la.length = lb.length
  · have hl' : ((la.length : Int) != (lb.length : Int)) = false := by simp [hl]
    have HL := Lib.hid hl
    clear hl
    go_enter Try.func25, Try.ntmps25
    go_wp2_with fail
    go_loopw [5] (fun i wr => ∃ (k : Nat), k ≤ la.length ∧ i = .int .i64 k ∧ Hid (∀ (i : Nat) x y, i < k → la[i]? = some x → lb[i]? = some y → x = y) ∧ Below w.heap.size w wr)
      (fun i _ => la.length - (intOf i).toNat)
    case atStart => exact ⟨0, by omega, rfl, Lib.hid (fun i x y h => absurd h (by omega)), Below.refl _ _⟩
    case round =>
      obtain ⟨k, hk, rfl, hup, hbl⟩ := hrel
      by_cases hlt : k < la.length
      · obtain ⟨b, off, x, x2, rfl, hbb, hx, d0, d1⟩ := rgsA (rgs_on ha hbl hB) hlt
        obtain ⟨b', off', y, y2, rfl, hbb', hy, d0', d1'⟩ := rgsA (rgs_on hb hbl hB) (show k < lb.length by rw [← HL.out]; exact hlt)
        have z1 : b < wr.heap.size := by have := hbl.size; omega
        have z2 : b' < wr.heap.size := by have := hbl.size; omega
        have i1 : (k : Int) < (la.length : Int) := by omega
        have i2 : (k : Int) < (lb.length : Int) := by rw [← HL.out]; exact i1
        by_cases e : x = y ∧ x2 = y2
        · obtain ⟨rfl, rfl⟩ := e
          go_wp2_with fail
          go_quiet (fail)
          go_wp2_with fail
          go_roundw
          case rel =>
            refine ⟨k + 1, hlt, by go_num, Lib.hid (fun i p q hi hp hq => ?_), below_drewN hbl _⟩
            rcases Nat.lt_or_ge i k with h | h
            · exact hup.out i p q h hp hq
            · obtain rfl : i = k := by omega
              have hx' := hx.out
              have hy' := hy.out
              rw [hp] at hx'
              rw [hq] at hy'
              injection hx' with hx'
              injection hy' with hy'
              rw [hx', hy']
          case measure => simp only [intOf]; omega
        · have hne : Hid (decide (la = lb) = false) := by
            refine Lib.hid (decide_eq_false fun h => e ?_)
            have hx' := hx.out
            rw [h, hy.out] at hx'
            injection hx' with hx'
            injection hx' with q1 q2
            exact ⟨q1.symm, q2.symm⟩
          by_cases e1 : x = y
          · subst e1
            have e2 : (x2 == y2) = false := by simpa using e
            clear e
            go_wp2_with fail
            go_quiet (fail)
            go_wp2_with fail
            go_ret
            exact ⟨ret_bool hne.out.symm, below_drewN hbl _⟩
          · have e2 : (x == y) = false := by simpa using e1
            clear e
            go_wp2_with fail
            go_quiet (fail)
            go_wp2_with fail
            go_ret
            exact ⟨ret_bool hne.out.symm, below_drewN hbl _⟩
      · obtain rfl : k = la.length := by omega
        have he : Hid (decide (la = lb) = true) := Lib.hid (decide_eq_true (list_eq_of HL.out fun i x y hx hy => hup.out i x y (List.getElem?_eq_some_iff.1 hx).1 hx hy))
        go_wp2_with fail
        go_ret
        exact ⟨ret_bool he.out.symm, hbl⟩
  · have hl' : ((la.length : Int) != (lb.length : Int)) = true := by simp; omega
    have hne : Hid (decide (la = lb) = false) := Lib.hid (decide_eq_false fun h => hl (by rw [h]))
    clear hl
    go_enter Try.func25, Try.ntmps25
    go_wp2_with fail
    go_ret
    exact ⟨ret_bool hne.out.symm, Below.refl _ _⟩
end Go.Proofs.Ytigpefjeelgfdaa

/-
  Walks of layer 1's statements: lists of lists, ranges and kinks that are laid.
-/
namespace Go.Proofs.Ytigpefjeelgfdaa
open Go.RowKit

/-- A list of numbers in one cell. -/
def ListAt (B : Nat) (w : World) (b off : Nat) (l : List Int) : Prop := ∃ v, w.cell? ⟨b, off, none⟩ = some v ∧ Ints .i64 w B v l
abbrev ListsA (w : World) (B : Nat) (A : Option Addr) (l : List (List Int)) : Prop := SLa (ListAt B) 1 w B A l
theorem listsA {w : World} {B : Nat} {A : Option Addr} {l : List (List Int)} (h : ListsA w B A l) {i : Nat} (hi : i < l.length) :
    ∃ b off A' c' ns, A = some ⟨b, off, none⟩ ∧ b < B ∧ Hid (l[i]? = some ns) ∧ w.cell? ⟨b, off + i, none⟩ = some (.slice A' ns.length c') ∧ ns.length ≤ c' ∧ c' ≤ 9223372036854775807 ∧ IntsA .i64 w B A' ns := by
  obtain ⟨b, off, x, h1, h2, h3, v, h4, A', c', h5, h6, h7, h8⟩ := SLa.at_ h hi
  subst h5
  exact ⟨b, off, A', c', x, h1, h2, h3, by simpa using h4, h6, h7, h8⟩
theorem lists_on {w w' : World} {B n : Nat} {A : Option Addr} {l : List (List Int)} (h : ListsA w B A l) (hb : Below n w w') (hB : B ≤ n) : ListsA w' B A l :=
  SLa.keep h (Nat.le_refl _) fun _ _ _ hlt ⟨u, h1, h2⟩ => ⟨u, ((Same.of_below (hb.mono hB)).cell hlt _).trans h1, h2.keep (Same.of_below (hb.mono hB)) (Nat.le_refl _)⟩

set_option maxRecDepth 100000 in
set_option maxHeartbeats 1000000 in
theorem lawLists_any (Aa Ab : Option Addr) (ca cb : Nat) (la lb : List (List Int)) (B : Nat) (w : World) (ha : ListsA w B Aa la) (hb : ListsA w B Ab lb) (hB : B ≤ w.heap.size) (h1 : la.length ≤ ca) (h2 : ca ≤ 9223372036854775807) (h3 : lb.length ≤ cb) (h4 : cb ≤ 9223372036854775807) :
    Calls Try.prog 40 #[.slice Aa la.length ca, .slice Ab lb.length cb] w fun e w' => e = .returned (.bool (decide (la = lb))) ∧ Below w.heap.size w w' := by
  by_cases hl : la.length = lb.length
  · have hl' : ((la.length : Int) != (lb.length : Int)) = false := by simp [hl]
    have HL := Lib.hid hl
    clear hl
    go_enter Try.func40, Try.ntmps40
    go_wp2_with fail
    go_loopw [5] (fun i wr => ∃ (k : Nat), k ≤ la.length ∧ i = .int .i64 k ∧ Hid (∀ (i : Nat) x y, i < k → la[i]? = some x → lb[i]? = some y → x = y) ∧ Below w.heap.size w wr)
      (fun i _ => la.length - (intOf i).toNat)
    case atStart => exact ⟨0, by omega, rfl, Lib.hid (fun i x y h => absurd h (by omega)), Below.refl _ _⟩
    case round =>
      obtain ⟨k, hk, rfl, hup, hbl⟩ := hrel
      by_cases hlt : k < la.length
      · obtain ⟨b, off, Ax, cx, x, rfl, hbb, hx, d0, lx1, lx2, hxs⟩ := listsA (lists_on ha hbl hB) hlt
        obtain ⟨b', off', Ay, cy, y, rfl, hbb', hy, d0', ly1, ly2, hys⟩ := listsA (lists_on hb hbl hB) (show k < lb.length by rw [← HL.out]; exact hlt)
        have z0 := hbl.size
        have z1 : b < wr.heap.size := by omega
        have z2 : b' < wr.heap.size := by omega
        have i1 : (k : Int) < (la.length : Int) := by omega
        have i2 : (k : Int) < (lb.length : Int) := by rw [← HL.out]; exact i1
        by_cases e : x = y
        · subst e
          have hcall : ∀ V, Below wr.heap.size wr V → Calls Try.prog 39 #[.slice Ax x.length cx, .slice Ay x.length cy] V fun e w' => e = .returned (.bool true) ∧ Below V.heap.size V w' := fun V hV => by
            have := lawInts_any Ax Ay cx cy x x B V (ints_on hxs hV (by omega)) (ints_on hys hV (by omega)) (by have := hV.size; omega) lx1 lx2 ly1 ly2
            rw [decide_eq_true rfl] at this
            exact this
          have HC := Lib.hid hcall
          clear hcall
          go_wp2_with fail
          refine wp_region_later (by kernel_rfl) (by kernel_rfl) ?_; have _hl := later_reads (wr); (repeat (go_big_quiet_step ((go_at_call 39; exact LaterW.callsB (fun V hV => HC.out V hV))))); refine wpQuiet_nil ?_; intro w2 hw'; have hb_w2 := later_below hw'; clear hw' _hl
          go_wp2_with fail
          go_roundw
          case rel =>
            refine ⟨k + 1, hlt, by go_num, Lib.hid (fun i p q hi hp hq => ?_), hbl.trans (hb_w2.mono z0)⟩
            rcases Nat.lt_or_ge i k with h | h
            · exact hup.out i p q h hp hq
            · obtain rfl : i = k := by omega
              have hx' := hx.out
              have hy' := hy.out
              rw [hp] at hx'
              rw [hq] at hy'
              injection hx' with hx'
              injection hy' with hy'
              rw [hx', hy']
          case measure => simp only [intOf]; omega
        · have hcall : ∀ V, Below wr.heap.size wr V → Calls Try.prog 39 #[.slice Ax x.length cx, .slice Ay y.length cy] V fun e w' => e = .returned (.bool false) ∧ Below V.heap.size V w' := fun V hV => by
            have := lawInts_any Ax Ay cx cy x y B V (ints_on hxs hV (by omega)) (ints_on hys hV (by omega)) (by have := hV.size; omega) lx1 lx2 ly1 ly2
            rw [decide_eq_false e] at this
            exact this
          have HC := Lib.hid hcall
          clear hcall
          have hne : Hid (decide (la = lb) = false) := by
            refine Lib.hid (decide_eq_false fun h => e ?_)
            have hx' := hx.out
            rw [h, hy.out] at hx'
            injection hx' with hx'
            exact hx'.symm
          go_wp2_with fail
          refine wp_region_later (by kernel_rfl) (by kernel_rfl) ?_; have _hl := later_reads (wr); (repeat (go_big_quiet_step ((go_at_call 39; exact LaterW.callsB (fun V hV => HC.out V hV))))); refine wpQuiet_nil ?_; intro w2 hw'; have hb_w2 := later_below hw'; clear hw' _hl
          go_wp2_with fail
          go_ret
          exact ⟨ret_bool hne.out.symm, hbl.trans (hb_w2.mono z0)⟩
      · obtain rfl : k = la.length := by omega
        have he : Hid (decide (la = lb) = true) := Lib.hid (decide_eq_true (list_eq_of HL.out fun i x y hx hy => hup.out i x y (List.getElem?_eq_some_iff.1 hx).1 hx hy))
        go_wp2_with fail
        go_ret
        exact ⟨ret_bool he.out.symm, hbl⟩
  · have hl' : ((la.length : Int) != (lb.length : Int)) = true := by simp; omega
    have hne : Hid (decide (la = lb) = false) := Lib.hid (decide_eq_false fun h => hl (by rw [h]))
    clear hl
    go_enter Try.func40, Try.ntmps40
    go_wp2_with fail
    go_ret
    exact ⟨ret_bool hne.out.symm, Below.refl _ _⟩

set_option maxHeartbeats 400000 in
theorem rg_any (lo hi : Int) (w : World) : Calls Try.prog 48 #[.int .i64 lo, .int .i64 hi] w fun e w' => e = .returned (.agg #[.int .i64 lo, .int .i64 hi]) ∧ Below w.heap.size w w' := by
  go_enter Try.func48, Try.ntmps48
  go_wp2
  refine bodyPost_ret (v := .agg #[.int .i64 lo, .int .i64 hi]) (by simp [results, Try.results48, go_sem, *]) rfl ?_
  exact ⟨rfl, bel⟩
set_option maxHeartbeats 400000 in
theorem kink_any (f lo hi : Int) (w : World) : Calls Try.prog 86 #[.int .i64 f, .int .i64 lo, .int .i64 hi] w fun e w' => e = .returned (.agg #[.int .i64 f, .int .i64 lo, .int .i64 hi]) ∧ Below w.heap.size w w' := by
  go_enter Try.func86, Try.ntmps86
  go_wp2_with (go_at_call 48; refine (rg_any lo hi _).mono ?_; rintro e w1 ⟨rfl, hb1⟩; have hbx := Box.below (Box.new w 93 _) hb1 (by simp); obtain ⟨_hr1, _hr2⟩ := below_reads hb1; have _hz := Below.size hb1; (try simp only [World.size_alloc, World.size_setCell, World.size_drew, World.heap_drewN] at _hz); obtain ⟨_hr3, _hr4⟩ := below_reads (show Below w.heap.size w w1 from bel); have _q0 : w.heap.size < w1.heap.size := (by omega))
  refine bodyPost_ret (v := .agg #[.int .i64 f, .int .i64 lo, .int .i64 hi]) (by simp [results, Try.results86, go_sem, *]) rfl ?_
  exact ⟨rfl, bel⟩
set_option maxHeartbeats 400000 in
theorem way_laid (v : Value) (A : Option Addr) (n c : Nat) (hv : v = .slice A n c) (w : World) : Calls Try.prog 85 #[v] w fun e w' => e = .returned (.agg #[v]) ∧ Below w.heap.size w w' := by
  subst hv
  go_enter Try.func85, Try.ntmps85
  go_wp2
  refine bodyPost_ret (v := .agg #[.slice A n c]) (by simp [results, Try.results85, go_sem, *]) rfl ?_
  exact ⟨rfl, bel⟩
set_option maxHeartbeats 400000 in
theorem step_laid (v : Value) (A : Option Addr) (n c : Nat) (hv : v = .slice A n c) (w : World) : Calls Try.prog 84 #[v] w fun e w' => e = .returned (.agg #[v]) ∧ Below w.heap.size w w' := by
  subst hv
  go_enter Try.func84, Try.ntmps84
  go_wp2
  refine bodyPost_ret (v := .agg #[.slice A n c]) (by simp [results, Try.results84, go_sem, *]) rfl ?_
  exact ⟨rfl, bel⟩
set_option maxHeartbeats 400000 in
theorem recipe_laid (bar : Int) (A : Option Addr) (n c : Nat) (w : World) : Calls Try.prog 51 #[.int .i64 bar, .slice A n c] w fun e w' => e = .returned (.agg #[.int .i64 bar, .slice A n c]) ∧ Below w.heap.size w w' := by
  go_enter Try.func51, Try.ntmps51
  go_wp2
  refine bodyPost_ret (v := .agg #[.int .i64 bar, .slice A n c]) (by simp [results, Try.results51, go_sem, *]) rfl ?_
  exact ⟨rfl, bel⟩
end Go.Proofs.Ytigpefjeelgfdaa

/-
  Walks of layer 1's statements: what package heat answers, as lists that are read.
-/
namespace Go.Proofs.Ytigpefjeelgfdaa
open Go.RowKit

abbrev Lists (w : World) (B : Nat) (v : Value) (l : List (List Int)) : Prop := SL (ListAt B) 1 w B v l
theorem Lists.keep {w w' : World} {B B' : Nat} {v : Value} {l : List (List Int)} (h : Lists w B v l) (hs : Same B w w') (hB : B ≤ B') : Lists w' B' v l :=
  SL.keep h hB fun _ _ _ hb ⟨u, h1, h2⟩ => ⟨u, (hs.cell hb _).trans h1, h2.keep hs hB⟩
def Fact.lists (l : List (List Int)) : Fact := ⟨fun v w => Lists w w.heap.size v l, fun _ _ _ hb h => Lists.keep h (Same.of_below hb) hb.size⟩
/-- A value, and an error: the value is such, if the error is OK, otherwise nil. -/
def Fact.res (f : Fact) (r : Int) : Fact := ⟨fun v w => ∃ u, v = .tuple #[u, .int .i64 r] ∧ (r = 0 → f.holds u w) ∧ (r ≠ 0 → u = .slice none 0 0),
  fun _ _ _ hb ⟨u, h1, h2, h3⟩ => ⟨u, h1, fun h => f.keep _ _ _ hb (h2 h), h3⟩⟩

theorem own_lists {w : World} {base n : Nat} {v : Value} {vs : List Value} {L : Nat → List Int} (h : w.ownsRow base 40 1 v n vs) (ha : OwnAll w base vs L) : Lists w w.heap.size v ((List.range n).map L) := by
  have hl : vs.length = n := by have := h.1; omega
  rcases h.2 with ⟨h1, h2⟩ | ⟨g, cap, cur, hv, hb, hg, hnc, hcm, hcs, htake⟩
  · subst h2
    subst h1
    exact SL.nil _ _ _ _
  · refine ⟨some ⟨g, 0, none⟩, cap, by rw [List.length_map, List.length_range]; exact hv, by rw [List.length_map, List.length_range]; exact hnc, by simpa [maxLen] using hcm, fun _ => ⟨g, 0, rfl, (Array.getElem?_eq_some_iff.1 hg).1, fun i x hi => ?_⟩⟩
    rw [List.getElem?_map] at hi
    have hin : i < n := by
      rcases Nat.lt_or_ge i n with h1 | h1
      · exact h1
      · rw [List.getElem?_eq_none (by simpa using h1)] at hi; cases hi
    rw [List.getElem?_range hin] at hi
    simp only [Option.map_some, Option.some.injEq] at hi
    subst hi
    have hi2 : i < vs.length := by omega
    obtain ⟨u, hu⟩ : ∃ u, vs[i]? = some u := ⟨_, List.getElem?_eq_getElem hi2⟩
    have hx := ha i u hu
    refine ⟨u, ?_, own_ints hx.out⟩
    rw [cell_of_row w g _ cur 40 (0, 0) hg, Nat.zero_add, Nat.mul_one]
    rw [← htake, List.getElem?_take] at hu
    split at hu
    · simpa using hu
    · cases hu

/-- A call answers what is told, and leaves alone what was there. -/
def CallsF (f : FuncId) (args : Array Value) (w : World) (F : Fact) : Prop := Calls Try.prog f args w fun e w' => ∃ v, e = .returned v ∧ F.holds v w' ∧ Below w.heap.size w w'

theorem heatRanges_read {Ab As Ar : Option Addr} {cb cs cr : Nat} {x : Works} {bar : Int} {ways : List Int} {B : Nat} {w : World} (h : In w B Ab As Ar cb cs cr x ways) :
    CallsF 23 #[.agg #[.slice Ab x.bars.length cb, .slice As x.steps.length cs], .agg #[.int .i64 bar, .slice Ar ways.length cr]] w
      (Fact.res (Fact.rgs (endsL (rowOf x ways (barP x bar.toNat)) (x.steps.length + 1))) (recErr x bar ways)) := by
  refine (heatRanges_any Ab As Ar cb cs cr x bar ways B w h).mono ?_
  rintro e w' ⟨v, rfl, h1, h2, h3⟩
  refine ⟨_, rfl, ⟨v, rfl, fun h0 => own_rgs (base := w.heap.size) (e := 33) ?_, h2⟩, h3⟩
  rw [endsL_length, endsL_cells]
  exact (h1 h0).out
theorem heatHad_read {Ab As Ar : Option Addr} {cb cs cr : Nat} {x : Works} {bar : Int} {ways : List Int} {lo hi : Int} {B : Nat} {w : World} (h : In w B Ab As Ar cb cs cr x ways) :
    CallsF 28 #[.agg #[.slice Ab x.bars.length cb, .slice As x.steps.length cs], .agg #[.int .i64 bar, .slice Ar ways.length cr], .agg #[.int .i64 lo, .int .i64 hi]] w
      (Fact.res (Fact.rgs (endsL (agrRows x bar ways lo hi) (x.steps.length + 1))) (agrErr x bar ways lo hi)) := by
  refine (heatHad_any Ab As Ar cb cs cr x bar ways lo hi B w h).mono ?_
  rintro e w' ⟨v, rfl, h1, h2, h3⟩
  refine ⟨_, rfl, ⟨v, rfl, fun h0 => own_rgs (base := w.heap.size) (e := 33) ?_, h2⟩, h3⟩
  rw [endsL_length, endsL_cells]
  exact (h1 h0).out
theorem histVals_len (x : Works) (bar : Int) (ways : List Int) (lo hi : Int) : (histVals x bar ways lo hi).length = x.steps.length + 1 := by simp [histVals]
theorem heatHistory_read {Ab As Ar : Option Addr} {cb cs cr : Nat} {x : Works} {bar : Int} {ways : List Int} {lo hi : Int} {B : Nat} {w : World} (h : In w B Ab As Ar cb cs cr x ways) :
    CallsF 30 #[.agg #[.slice Ab x.bars.length cb, .slice As x.steps.length cs], .agg #[.int .i64 bar, .slice Ar ways.length cr], .agg #[.int .i64 lo, .int .i64 hi]] w
      (Fact.res (Fact.ints (histVals x bar ways lo hi)) (agrErr x bar ways lo hi)) := by
  refine (heatHistory_any Ab As Ar cb cs cr x bar ways lo hi B w h).mono ?_
  rintro e w' ⟨v, rfl, h1, h2, h3⟩
  refine ⟨_, rfl, ⟨v, rfl, fun h0 => own_ints (base := w.heap.size) (e := 2) ?_, h2⟩, h3⟩
  rw [histVals_len]
  exact (h1 h0).out
theorem heatBars_read {Ab As : Option Addr} {cb cs : Nat} {x : Works} {mlo mhi : Int} {B : Nat} {w : World} (h : In w B Ab As none cb cs 0 x []) :
    CallsF 33 #[.agg #[.slice Ab x.bars.length cb, .slice As x.steps.length cs], .agg #[.int .i64 mlo, .int .i64 mhi]] w
      (Fact.res (Fact.ints (leftN x mlo mhi (-1))) (someErr x mlo mhi)) := by
  refine (heatBars_any Ab As cb cs x mlo mhi B w h).mono ?_
  rintro e w' ⟨v, rfl, h1, h2, h3⟩
  exact ⟨_, rfl, ⟨v, rfl, fun h0 => own_ints (base := w.heap.size) (e := 3) (h1 h0).out, h2⟩, h3⟩
theorem heatWays_read {Ab As : Option Addr} {cb cs : Nat} {x : Works} {mlo mhi : Int} {B : Nat} {w : World} (h : In w B Ab As none cb cs 0 x []) :
    CallsF 35 #[.agg #[.slice Ab x.bars.length cb, .slice As x.steps.length cs], .agg #[.int .i64 mlo, .int .i64 mhi]] w
      (Fact.res (Fact.lists ((List.range x.steps.length).map fun (i : Nat) => leftN x mlo mhi i)) (someErr x mlo mhi)) := by
  refine (heatWays_any Ab As cb cs x mlo mhi B w h).mono ?_
  rintro e w' ⟨v, rfl, h1, h2, h3⟩
  refine ⟨_, rfl, ⟨v, rfl, fun h0 => ?_, h2⟩, h3⟩
  obtain ⟨vs, h4, h5⟩ := h1 h0
  exact own_lists h4.out h5
/-- Lists that are laid anew. -/
theorem rgs_box {w : World} {g : Nat} {t : TypeId} {l : List Rg} {c : Nat} (h : Box w g t (l.flatMap rgV).toArray) (hc : l.length ≤ c) (hm : c ≤ 9223372036854775807) : Rgs w w.heap.size (.slice (some ⟨g, 0, none⟩) l.length c) l :=
  ⟨_, c, rfl, hc, hm, fun _ => ⟨g, 0, rfl, h.lt, fun i x hi => by
    have h0 := flatMap_get rgV 2 (fun _ => rfl) l i 0 x hi (by omega)
    have h1 := flatMap_get rgV 2 (fun _ => rfl) l i 1 x hi (by omega)
    refine ⟨?_, ?_⟩
    · rw [h.cell]; simpa [rgV] using h0
    · rw [h.cell]; simpa [rgV] using h1⟩⟩
theorem lists_box2 {w : World} {g : Nat} {t : TypeId} {u v : Value} {a b : List Int} (h : Box w g t #[u, v]) (hu : Ints .i64 w w.heap.size u a) (hv : Ints .i64 w w.heap.size v b) : Lists w w.heap.size (.slice (some ⟨g, 0, none⟩) 2 2) [a, b] :=
  ⟨_, 2, rfl, by simp, by omega, fun _ => ⟨g, 0, rfl, h.lt, fun i x hi => by
    rcases i with _ | _ | i
    · simp at hi; subst hi; exact ⟨_, h.cell 0, hu⟩
    · simp at hi; subst hi; exact ⟨_, h.cell 1, hv⟩
    · simp at hi⟩⟩
theorem ranges_same {w : World} {u v : Value} {l : List Rg} (hu : Rgs w w.heap.size u l) (hv : Rgs w w.heap.size v l) : Calls Try.prog 25 #[u, v] w fun e w' => e = .returned (.bool true) ∧ Below w.heap.size w w' := by
  obtain ⟨A1, c1, rfl, a1, a2, a3⟩ := hu
  obtain ⟨A2, c2, rfl, b1, b2, b3⟩ := hv
  have := lawRanges_any A1 A2 c1 c2 l l w.heap.size w a3 b3 (Nat.le_refl _) a1 a2 b1 b2
  rwa [decide_eq_true (rfl : l = l)] at this
theorem ints_same {w : World} {u v : Value} {l : List Int} (hu : Ints .i64 w w.heap.size u l) (hv : Ints .i64 w w.heap.size v l) : Calls Try.prog 39 #[u, v] w fun e w' => e = .returned (.bool true) ∧ Below w.heap.size w w' := by
  obtain ⟨A1, c1, rfl, a1, a2, a3⟩ := hu
  obtain ⟨A2, c2, rfl, b1, b2, b3⟩ := hv
  have := lawInts_any A1 A2 c1 c2 l l w.heap.size w a3 b3 (Nat.le_refl _) a1 a2 b1 b2
  rwa [decide_eq_true (rfl : l = l)] at this
theorem lists_same {w : World} {u v : Value} {l : List (List Int)} (hu : Lists w w.heap.size u l) (hv : Lists w w.heap.size v l) : Calls Try.prog 40 #[u, v] w fun e w' => e = .returned (.bool true) ∧ Below w.heap.size w w' := by
  obtain ⟨A1, c1, rfl, a1, a2, a3⟩ := hu
  obtain ⟨A2, c2, rfl, b1, b2, b3⟩ := hv
  have := lawLists_any A1 A2 c1 c2 l l w.heap.size w a3 b3 (Nat.le_refl _) a1 a2 b1 b2
  rwa [decide_eq_true (rfl : l = l)] at this
/-- A duty of a region: a call that answers what is told. -/
theorem CallsF.upon {f : FuncId} {args : Array Value} {V : World} {F : Fact} (h : CallsF f args V F) {G : Fact} (hG : ∀ v w', F.holds v w' → G.holds v w') {K : Value → World → Prop}
    {Q : Ending → World → Prop} (hK : ∀ v w', G.holds v w' → Below V.heap.size V w' → K v w') (hQ : ∀ v w', K v w' → Q (.returned v) w') : Calls Try.prog f args V Q := by
  refine Calls.mono h ?_
  rintro e w' ⟨v, rfl, hv, hb⟩
  exact hQ _ _ (hK _ _ (hG _ _ hv) hb)
end Go.Proofs.Ytigpefjeelgfdaa

/-
  Layer 1, plain: what a recipe makes of a range is a range.
-/
namespace Go.Proofs.Ytigpefjeelgfdaa
open Go.RowKit

/-- A row that is a range. -/
def ivP (lo hi : Nat) : Nat → Bool := fun j => decide (lo ≤ j ∧ j ≤ hi)
theorem meets_iv {lo hi a b : Nat} : meetsB (ivP lo hi) a b = true ↔ a ≤ b ∧ lo ≤ hi ∧ a ≤ hi ∧ lo ≤ b := by
  rw [meetsB_iff]
  constructor
  · rintro ⟨j, h1, h2, h3⟩
    simp only [ivP, decide_eq_true_eq] at h3
    omega
  · rintro ⟨h1, h2, h3, h4⟩
    refine ⟨max a lo, by omega, by omega, ?_⟩
    simp only [ivP, decide_eq_true_eq]
    omega
theorem rowPart_iff {ks : List Kink} {p : Nat → Bool} {j : Nat} : ∀ {k : Nat}, rowPart ks p k j = true ↔ ∃ t, t < k ∧ meetsB p (strAt ks t).f1.toNat (strAt ks t).f2.toNat = true ∧ (strAt ks t).t1.toNat ≤ j ∧ j ≤ (strAt ks t).t2.toNat
  | 0 => by simp [rowPart]
  | k + 1 => by
    have ih := rowPart_iff (ks := ks) (p := p) (j := j) (k := k)
    unfold rowPart
    by_cases h : meetsB p (strAt ks k).f1.toNat (strAt ks k).f2.toNat = true
    · rw [if_pos h]
      simp only [Bool.or_eq_true, decide_eq_true_eq, ih]
      constructor
      · rintro (⟨t, h1, h2⟩ | h1)
        · exact ⟨t, by omega, h2⟩
        · exact ⟨k, by omega, h, h1⟩
      · rintro ⟨t, h1, h2, h3⟩
        by_cases e : t = k
        · subst e; exact .inr h3
        · exact .inl ⟨t, by omega, h2, h3⟩
    · rw [if_neg h, ih]
      constructor
      · rintro ⟨t, h1, h2⟩; exact ⟨t, by omega, h2⟩
      · rintro ⟨t, h1, h2, h3⟩
        by_cases e : t = k
        · subst e; exact absurd h2 h
        · exact ⟨t, by omega, h2, h3⟩
/-- Which kink a hardness belongs to. -/
theorem aftTo_idx {ks : List Kink} {n : Int} (h0 : 0 < ks.length) (hf : (kk ks 0).frm ≤ n) : ∀ k, 0 < k → k ≤ ks.length → ∃ a, a < k ∧ (kk ks a).frm ≤ n ∧ (∀ t, a < t → t < k → n < (kk ks t).frm) ∧ aftTo ks n k = ((kk ks a).lo, (kk ks a).hi)
  | 0, h, _ => absurd h (by omega)
  | k + 1, _, hk => by
    have hx : ks[k]? = some ks[k] := List.getElem?_eq_getElem (by omega)
    have hkk := kk_of (Lib.hid hx)
    by_cases hl : ks[k].frm ≤ n
    · refine ⟨k, by omega, by rw [hkk]; exact hl, fun t h1 h2 => absurd h2 (by omega), ?_⟩
      rw [aftTo_yes (Lib.hid hx) hl, hkk]
    · rcases Nat.eq_zero_or_pos k with rfl | hp
      · rw [hkk] at hf; exact absurd hf hl
      · obtain ⟨a, h1, h2, h3, h4⟩ := aftTo_idx h0 hf k hp (by omega)
        refine ⟨a, by omega, h2, fun t g1 g2 => ?_, by rw [aftTo_no (Lib.hid hx) hl, h4]⟩
        by_cases e : t = k
        · subst e; rw [hkk]; omega
        · exact h3 t g1 (by omega)
theorem kk_val {ks : List Kink} (h : kinksOk ks = true) {i : Nat} (hi : i < ks.length) : 0 ≤ (kk ks i).lo ∧ (kk ks i).lo ≤ (kk ks i).hi ∧ (kk ks i).hi ≤ 1000 ∧ 0 ≤ (kk ks i).frm ∧ (kk ks i).frm ≤ 1000 := by
  have hx : ks[i]? = some ks[i] := List.getElem?_eq_getElem hi
  rw [kk_of (Lib.hid hx)]
  exact kinksVal_of h i _ hx
theorem frm_zero {ks : List Kink} (h : kinksOk ks = true) (h0 : 0 < ks.length) : (kk ks 0).frm = 0 := by
  have h1 := allN_iff.1 h 0 h0
  unfold kinkOk at h1
  rw [Bool.and_eq_true, Bool.not_eq_true', decide_eq_false_iff_not] at h1
  exact Classical.not_not.1 fun hne => h1.2 (Or.inl ⟨rfl, hne⟩)
theorem frm_lt {ks : List Kink} (h : kinksOk ks = true) : ∀ {i j : Nat}, i < j → j < ks.length → (kk ks i).frm < (kk ks j).frm
  | i, 0, h1, _ => absurd h1 (by omega)
  | i, j + 1, h1, h2 => by
    have h3 := allN_iff.1 h (j + 1) h2
    simp only [kinkOk, Bool.and_eq_true, Bool.not_eq_true', decide_eq_false_iff_not, Nat.add_sub_cancel] at h3
    by_cases e : i = j
    · subst e; omega
    · have := frm_lt h (show i < j by omega) (by omega); omega
theorem step_val {ks : List Kink} (h : stepsOk ks = true) {i : Nat} (hi : i + 1 < ks.length) : (kk ks i).lo ≤ (kk ks (i + 1)).lo ∧ (kk ks i).hi ≤ (kk ks (i + 1)).hi ∧ (kk ks (i + 1)).lo ≤ (kk ks i).hi + 1 := by
  have h1 := allN_iff.1 h i (by omega)
  simp only [stepOk, Bool.not_eq_true', decide_eq_false_iff_not] at h1
  omega
theorem lo_le {ks : List Kink} (h : stepsOk ks = true) : ∀ {i j : Nat}, i ≤ j → j < ks.length → (kk ks i).lo ≤ (kk ks j).lo ∧ (kk ks i).hi ≤ (kk ks j).hi
  | i, 0, h1, _ => by obtain rfl : i = 0 := by omega
                      exact ⟨Int.le_refl _, Int.le_refl _⟩
  | i, j + 1, h1, h2 => by
    by_cases e : i = j + 1
    · subst e; exact ⟨Int.le_refl _, Int.le_refl _⟩
    · have h3 := lo_le h (show i ≤ j by omega) (show j < ks.length by omega)
      have h4 := step_val h h2
      omega
theorem cover {ks : List Kink} (h : stepsOk ks = true) {j : Int} : ∀ {a b : Nat}, a ≤ b → b < ks.length → (kk ks a).lo ≤ j → j ≤ (kk ks b).hi → ∃ t, a ≤ t ∧ t ≤ b ∧ (kk ks t).lo ≤ j ∧ j ≤ (kk ks t).hi
  | a, 0, h1, h2, h3, h4 => by obtain rfl : a = 0 := by omega
                               exact ⟨0, by omega, by omega, h3, h4⟩
  | a, b + 1, h1, h2, h3, h4 => by
    by_cases e : a = b + 1
    · subst e; exact ⟨b + 1, by omega, by omega, h3, h4⟩
    · by_cases g : j ≤ (kk ks b).hi
      · obtain ⟨t, t1, t2, t3⟩ := cover h (show a ≤ b by omega) (by omega) h3 g
        exact ⟨t, t1, by omega, t3⟩
      · have := step_val h h2
        exact ⟨b + 1, by omega, by omega, by omega, h4⟩
/-- **What a valid way makes of a range is the range from what comes out of the least to what comes out of the greatest.** -/
theorem rowPart_iv {ks : List Kink} (h1 : kinksOk ks = true) (h2 : stepsOk ks = true) (h0 : 0 < ks.length) {lo hi : Nat} (hl : lo ≤ hi) (hh : hi ≤ 1000) : rowPart ks (ivP lo hi) ks.length = ivP (aft ks lo).1.toNat (aft ks hi).2.toNat := by
  have hz := frm_zero h1 h0
  obtain ⟨a, a1, a2, a3, a4⟩ := aftTo_idx (n := (lo : Int)) h0 (by omega) ks.length h0 (Nat.le_refl _)
  obtain ⟨b, b1, b2, b3, b4⟩ := aftTo_idx (n := (hi : Int)) h0 (by omega) ks.length h0 (Nat.le_refl _)
  have hab : a ≤ b := by
    rcases Nat.lt_or_ge b a with g | g
    · have := b3 a g a1; omega
    · exact g
  have va := kk_val h1 a1
  have vb := kk_val h1 b1
  funext j
  rw [Bool.eq_iff_iff, rowPart_iff]
  simp only [ivP, decide_eq_true_eq, aft, a4, b4]
  have hmt : ∀ t, t < ks.length → (meetsB (ivP lo hi) (strAt ks t).f1.toNat (strAt ks t).f2.toNat = true ↔ a ≤ t ∧ t ≤ b) := by
    intro t ht
    have vt := kk_val h1 ht
    rw [meets_iv]
    by_cases hn : t + 1 < ks.length
    · have vn := kk_val h1 hn
      have hlt := frm_lt h1 (show t < t + 1 by omega) hn
      simp only [strAt, if_pos hn]
      constructor
      · rintro ⟨g1, g2, g3, g4⟩
        constructor
        · rcases Nat.lt_or_ge t a with g | g
          · by_cases e : t + 1 = a
            · subst e; omega
            · have := frm_lt h1 (show t + 1 < a by omega) a1; omega
          · exact g
        · rcases Nat.lt_or_ge b t with g | g
          · have := b3 t g ht; omega
          · exact g
      · rintro ⟨g1, g2⟩
        have g3 : (kk ks t).frm ≤ hi := by
          by_cases e : t = b
          · subst e; exact b2
          · have := frm_lt h1 (show t < b by omega) b1; omega
        have g4 := a3 (t + 1) (by omega) hn
        omega
    · have et : t = ks.length - 1 := by omega
      simp only [strAt, if_neg hn]
      constructor
      · rintro ⟨g1, g2, g3, g4⟩
        refine ⟨by omega, ?_⟩
        rcases Nat.lt_or_ge b t with g | g
        · have := b3 t g ht; omega
        · exact g
      · rintro ⟨g1, g2⟩
        obtain rfl : t = b := by omega
        have : (1000 : Int).toNat = 1000 := rfl
        rw [this]
        omega
  constructor
  · rintro ⟨t, t1, t2, t3, t4⟩
    obtain ⟨g1, g2⟩ := (hmt t t1).1 t2
    have w1 := lo_le h2 g1 t1
    have w2 := lo_le h2 g2 b1
    have vt := kk_val h1 t1
    simp only [strAt] at t3 t4
    omega
  · rintro ⟨g1, g2⟩
    obtain ⟨t, t1, t2, t3, t4⟩ := cover h2 (j := (j : Int)) hab b1 (by omega) (by omega)
    refine ⟨t, by omega, (hmt t (by omega)).2 ⟨t1, t2⟩, ?_, ?_⟩
    · simp only [strAt]; omega
    · simp only [strAt]; omega

/-- The ranges of a recipe. -/
def rngN (x : Works) (m : Nat) (ways : List Int) : Nat → Rg
  | 0 => rgAt x.bars m
  | i + 1 => ((aft (wayOf x ways i) (rngN x m ways i).1).1, (aft (wayOf x ways i) (rngN x m ways i).2).2)
theorem aft_mono {ks : List Kink} (h1 : kinksOk ks = true) (h2 : stepsOk ks = true) (h0 : 0 < ks.length) {lo hi : Int} (hl : lo ≤ hi) (hp : 0 ≤ lo) : (aft ks lo).1 ≤ (aft ks hi).1 ∧ (aft ks lo).2 ≤ (aft ks hi).2 := by
  have hz := frm_zero h1 h0
  obtain ⟨a, a1, a2, a3, a4⟩ := aftTo_idx (n := lo) h0 (by omega) ks.length h0 (Nat.le_refl _)
  obtain ⟨b, b1, b2, b3, b4⟩ := aftTo_idx (n := hi) h0 (by omega) ks.length h0 (Nat.le_refl _)
  have hab : a ≤ b := by
    rcases Nat.lt_or_ge b a with g | g
    · have := b3 a g a1; omega
    · exact g
  simp only [aft, a4, b4]
  exact lo_le h2 hab b1
theorem rngN_val {x : Works} {m : Nat} {ways : List Int} (ok : RecOk x m ways) : ∀ i, i ≤ x.steps.length → 0 ≤ (rngN x m ways i).1 ∧ (rngN x m ways i).1 ≤ (rngN x m ways i).2 ∧ (rngN x m ways i).2 ≤ 1000
  | 0, _ => by
    have hmb : m < x.bars.length := by have := ok.bar1; omega
    have hx : x.bars[m]? = some x.bars[m] := List.getElem?_eq_getElem hmb
    have := bar_of ok.works hx
    rw [rngN, rgAt_of (Lib.hid hx)]
    exact this
  | i + 1, hi => by
    have hw := way_ok (wayOf_err ok (show i < x.steps.length by omega))
    have ih := rngN_val ok i (by omega)
    have v1 := aftTo_val (kinksVal_of hw.2.2.1) hw.1 (rngN x m ways i).1 _ (Nat.le_refl _)
    have v2 := aftTo_val (kinksVal_of hw.2.2.1) hw.1 (rngN x m ways i).2 _ (Nat.le_refl _)
    have v3 := aft_mono hw.2.2.1 hw.2.2.2 hw.1 ih.2.1 ih.1
    unfold aft at v3
    simp only [rngN, aft]
    omega
/-- **The rows of a recipe are its ranges.** -/
theorem rowOf_iv {x : Works} {m : Nat} {ways : List Int} (ok : RecOk x m ways) : ∀ i, i ≤ x.steps.length → rowOf x ways (barP x m) i = ivP (rngN x m ways i).1.toNat (rngN x m ways i).2.toNat
  | 0, _ => by
    funext j
    simp [rowOf, barP, ivP, rngN]
  | i + 1, hi => by
    have hw := way_ok (wayOf_err ok (show i < x.steps.length by omega))
    have ih := rngN_val ok i (by omega)
    have hr := rowOf_iv ok i (by omega)
    obtain ⟨lo, hlo⟩ := Int.eq_ofNat_of_zero_le ih.1
    obtain ⟨hi', hhi⟩ := Int.eq_ofNat_of_zero_le (show 0 ≤ (rngN x m ways i).2 by omega)
    rw [hlo, hhi] at hr ih
    show rowPart (wayOf x ways i) (rowOf x ways (barP x m) i) (wayOf x ways i).length = _
    rw [hr]
    simp only [Int.toNat_natCast]
    rw [rowPart_iv hw.2.2.1 hw.2.2.2 hw.1 (by omega) (by omega)]
    simp only [rngN, hlo, hhi]
theorem endsOf_iv {lo hi : Nat} (h : lo ≤ hi) (hh : hi ≤ 1000) : endsOf (ivP lo hi) = (lo, hi) := by
  have h1 : EndsTo (ivP lo hi) 1001 lo hi := by
    refine .inr ⟨by simp [ivP, h], by omega, by simp [ivP, h], by omega, fun j _ hj => ?_⟩
    simpa [ivP] using hj
  obtain ⟨e1, e2⟩ := endsOf_of h1
  exact Prod.ext e1.symm e2.symm
/-- The ends of the rows of a recipe. -/
theorem endsL_iv {x : Works} {m : Nat} {ways : List Int} (ok : RecOk x m ways) : endsL (rowOf x ways (barP x m)) (x.steps.length + 1) = (List.range (x.steps.length + 1)).map (rngN x m ways) := by
  unfold endsL
  refine List.map_congr_left fun i hi => ?_
  have hi' : i ≤ x.steps.length := by have := List.mem_range.1 hi; omega
  have hv := rngN_val ok i hi'
  rw [rowOf_iv ok i hi', endsOf_iv (by omega) (by omega)]
  refine Prod.ext ?_ ?_
  · show (((rngN x m ways i).1.toNat : Nat) : Int) = _; omega
  · show (((rngN x m ways i).2.toNat : Nat) : Int) = _; omega
end Go.Proofs.Ytigpefjeelgfdaa

/-
  Layer 1, plain: the rows of those histories that agree with what was measured are ranges.
-/
namespace Go.Proofs.Ytigpefjeelgfdaa
open Go.RowKit

theorem leadPart_iff {ks : List Kink} {p : Nat → Bool} {j : Nat} : ∀ {k : Nat}, leadPart ks p k j = true ↔ ∃ t, t < k ∧ meetsB p (strAt ks t).t1.toNat (strAt ks t).t2.toNat = true ∧ (strAt ks t).f1.toNat ≤ j ∧ j ≤ (strAt ks t).f2.toNat
  | 0 => by simp [leadPart]
  | k + 1 => by
    have ih := leadPart_iff (ks := ks) (p := p) (j := j) (k := k)
    unfold leadPart
    by_cases h : meetsB p (strAt ks k).t1.toNat (strAt ks k).t2.toNat = true
    · rw [if_pos h]
      simp only [Bool.or_eq_true, decide_eq_true_eq, ih]
      constructor
      · rintro (⟨t, h1, h2⟩ | h1)
        · exact ⟨t, by omega, h2⟩
        · exact ⟨k, by omega, h, h1⟩
      · rintro ⟨t, h1, h2, h3⟩
        by_cases e : t = k
        · subst e; exact .inr h3
        · exact .inl ⟨t, by omega, h2, h3⟩
    · rw [if_neg h, ih]
      constructor
      · rintro ⟨t, h1, h2⟩; exact ⟨t, by omega, h2⟩
      · rintro ⟨t, h1, h2, h3⟩
        by_cases e : t = k
        · subst e; exact absurd h2 h
        · exact ⟨t, by omega, h2, h3⟩
/-- The stretch that a hardness lies in is that of its kink. -/
theorem str_of {ks : List Kink} (h1 : kinksOk ks = true) (h0 : 0 < ks.length) {j : Nat} (hj : j ≤ 1000) :
    ∃ a, a < ks.length ∧ aft ks j = ((kk ks a).lo, (kk ks a).hi) ∧ ∀ t, t < ks.length → ((strAt ks t).f1.toNat ≤ j ∧ j ≤ (strAt ks t).f2.toNat ↔ t = a) := by
  have hz := frm_zero h1 h0
  obtain ⟨a, a1, a2, a3, a4⟩ := aftTo_idx (n := (j : Int)) h0 (by omega) ks.length h0 (Nat.le_refl _)
  refine ⟨a, a1, a4, fun t ht => ?_⟩
  have vt := kk_val h1 ht
  have k1000 : (1000 : Int).toNat = 1000 := rfl
  by_cases hn : t + 1 < ks.length
  · have vn := kk_val h1 hn
    have hlt := frm_lt h1 (show t < t + 1 by omega) hn
    simp only [strAt, if_pos hn]
    constructor
    · rintro ⟨g1, g2⟩
      rcases Nat.lt_trichotomy t a with g | g | g
      · by_cases e : t + 1 = a
        · subst e; omega
        · have := frm_lt h1 (show t + 1 < a by omega) a1; omega
      · exact g
      · have := a3 t g ht; omega
    · rintro rfl
      have := a3 (t + 1) (by omega) hn
      omega
  · simp only [strAt, if_neg hn]
    rw [k1000]
    constructor
    · rintro ⟨g1, g2⟩
      rcases Nat.lt_trichotomy t a with g | g | g
      · omega
      · exact g
      · have := a3 t g ht; omega
    · rintro rfl
      omega
theorem lead_iv {ks : List Kink} (h1 : kinksOk ks = true) (h0 : 0 < ks.length) {lo hi j : Nat} (hl : lo ≤ hi) (hj : j ≤ 1000) :
    leadPart ks (ivP lo hi) ks.length j = true ↔ (aft ks j).1.toNat ≤ hi ∧ lo ≤ (aft ks j).2.toNat := by
  obtain ⟨a, a1, a2, a3⟩ := str_of h1 h0 hj
  have va := kk_val h1 a1
  rw [leadPart_iff, a2]
  constructor
  · rintro ⟨t, t1, t2, t3⟩
    obtain rfl := (a3 t t1).1 t3
    rw [meets_iv] at t2
    simp only [strAt] at t2
    exact ⟨t2.2.2.1, t2.2.2.2⟩
  · rintro ⟨g1, g2⟩
    refine ⟨a, a1, ?_, (a3 a a1).2 rfl⟩
    rw [meets_iv]
    simp only [strAt]
    exact ⟨by omega, hl, g1, g2⟩

/-! ### the rows, back from the last -/
theorem back_old (x : Works) (ways : List Int) (R : Nat → Nat → Bool) (n : Nat) : ∀ t i, i < n - t → backR x ways R n t i = R i
  | 0, i, _ => rfl
  | t + 1, i, h => by
    funext j
    have hne : ¬ i = n - t - 1 := by omega
    rw [backR, keepR, if_neg hne, back_old x ways R n t i (by omega)]
theorem back_keep (x : Works) (ways : List Int) (R : Nat → Nat → Bool) (n : Nat) (t i : Nat) (hi : n - t ≤ i) : ∀ d, t + d ≤ n → backR x ways R n (t + d) i = backR x ways R n t i
  | 0, _ => rfl
  | d + 1, h => by
    funext j
    have hne : ¬ i = n - (t + d) - 1 := by omega
    rw [← Nat.add_assoc, backR, keepR, if_neg hne, back_keep x ways R n t i hi d (by omega)]
theorem had_last (x : Works) (ways : List Int) (R : Nat → Nat → Bool) (q : Nat → Bool) (j : Nat) : hadRows x ways R q x.steps.length j = (R x.steps.length j && q j) := by
  unfold hadRows
  have := back_keep x ways (keepR R x.steps.length q) x.steps.length 0 x.steps.length (by omega) x.steps.length (by omega)
  rw [Nat.zero_add] at this
  rw [this]
  show keepR R x.steps.length q x.steps.length j = _
  rw [keepR, if_pos rfl]
theorem had_step (x : Works) (ways : List Int) (R : Nat → Nat → Bool) (q : Nat → Bool) {s : Nat} (hs : s < x.steps.length) (j : Nat) :
    hadRows x ways R q s j = (R s j && leadPart (wayOf x ways s) (hadRows x ways R q (s + 1)) (wayOf x ways s).length j) := by
  unfold hadRows
  generalize hR : keepR R x.steps.length q = R1
  have h1 := back_keep x ways R1 x.steps.length (x.steps.length - s) s (by omega) s (by omega)
  rw [show x.steps.length - s + s = x.steps.length by omega] at h1
  have h2 := back_keep x ways R1 x.steps.length (x.steps.length - (s + 1)) (s + 1) (by omega) (s + 1) (by omega)
  rw [show x.steps.length - (s + 1) + (s + 1) = x.steps.length by omega] at h2
  rw [h1, h2, backR_step x ways R1 hs, keepR, if_pos rfl, back_old x ways R1 x.steps.length (x.steps.length - (s + 1)) s (by omega), ← hR, keepR, if_neg (by omega)]
theorem iv_of_convex {p : Nat → Bool} (h1 : ∃ j, p j = true) (h2 : ∀ j, p j = true → j ≤ 1000) (h3 : ∀ a b c, a ≤ b → b ≤ c → p a = true → p c = true → p b = true) : (endsOf p).1 ≤ (endsOf p).2 ∧ (endsOf p).2 ≤ 1000 ∧ p = ivP (endsOf p).1 (endsOf p).2 := by
  have he := endsUpto_is p 1001 (by omega)
  unfold endsOf
  rcases he with ⟨e1, _⟩ | ⟨e1, e2, e3, e4, e5⟩
  · obtain ⟨j, hj⟩ := h1
    have := h2 j hj
    rw [e1 j (by omega)] at hj
    cases hj
  · have h12 := e5 _ e2 e1
    refine ⟨by omega, by omega, ?_⟩
    funext j
    rw [Bool.eq_iff_iff]
    simp only [ivP, decide_eq_true_eq]
    constructor
    · intro hj
      exact e5 j (by have := h2 j hj; omega) hj
    · rintro ⟨g1, g2⟩
      exact h3 _ j _ g1 g2 e1 e3

/-- A row that is a range within 1000. -/
def IsIv (p : Nat → Bool) : Prop := (endsOf p).1 ≤ (endsOf p).2 ∧ (endsOf p).2 ≤ 1000 ∧ p = ivP (endsOf p).1 (endsOf p).2
theorem rowOf_sub {x : Works} {m : Nat} {ways : List Int} (ok : RecOk x m ways) {s j : Nat} (hs : s ≤ x.steps.length) : rowOf x ways (barP x m) s j = true ↔ (rngN x m ways s).1 ≤ j ∧ (j : Int) ≤ (rngN x m ways s).2 := by
  have hv := rngN_val ok s hs
  rw [rowOf_iv ok s hs]
  simp only [ivP, decide_eq_true_eq]
  omega
/-- **Each row of the histories that agree is a range.** -/
theorem had_iv {x : Works} {m : Nat} {ways : List Int} (ok : RecOk x m ways) {mlo mhi : Int} (hany : hadAny x (rowOf x ways (barP x m)) (meas mlo mhi) = true) :
    ∀ d s, s + d = x.steps.length → IsIv (hadRows x ways (rowOf x ways (barP x m)) (meas mlo mhi) s) ∧ ∀ j, hadRows x ways (rowOf x ways (barP x m)) (meas mlo mhi) s j = true → rowOf x ways (barP x m) s j = true
  | 0, s, hs => by
    obtain rfl : s = x.steps.length := by omega
    have hsub : ∀ j, hadRows x ways (rowOf x ways (barP x m)) (meas mlo mhi) x.steps.length j = true → rowOf x ways (barP x m) x.steps.length j = true := fun j hj => by
      rw [had_last, Bool.and_eq_true] at hj
      exact hj.1
    refine ⟨iv_of_convex ?_ ?_ ?_, hsub⟩
    · obtain ⟨j, hj, h⟩ := anyRow_iff.1 hany
      rw [keepR, if_pos rfl] at h
      exact ⟨j, by rw [had_last]; exact h⟩
    · intro j hj
      have h1 := (rowOf_sub ok (Nat.le_refl _)).1 (hsub j hj)
      have h2 := rngN_val ok _ (Nat.le_refl x.steps.length)
      omega
    · intro a b c h1 h2 h3 h4
      rw [had_last, Bool.and_eq_true, rowOf_sub ok (Nat.le_refl _)] at h3 h4 ⊢
      simp only [meas, inB, decide_eq_true_eq] at h3 h4 ⊢
      omega
  | d + 1, s, hs => by
    have hs' : s < x.steps.length := by omega
    obtain ⟨⟨i1, i2, i3⟩, i4⟩ := had_iv ok hany d (s + 1) (by omega)
    have hw := way_ok (wayOf_err ok hs')
    generalize hH : hadRows x ways (rowOf x ways (barP x m)) (meas mlo mhi) (s + 1) = H at i1 i2 i3 i4
    obtain ⟨lo, hlo⟩ : ∃ lo, (endsOf H).1 = lo := ⟨_, rfl⟩
    obtain ⟨hi, hhi⟩ : ∃ hi, (endsOf H).2 = hi := ⟨_, rfl⟩
    rw [hlo, hhi] at i1 i3
    have hstep : ∀ j, hadRows x ways (rowOf x ways (barP x m)) (meas mlo mhi) s j = (rowOf x ways (barP x m) s j && leadPart (wayOf x ways s) (ivP lo hi) (wayOf x ways s).length j) := fun j => by rw [had_step x ways _ _ hs', hH, ← i3]
    have hsub : ∀ j, hadRows x ways (rowOf x ways (barP x m)) (meas mlo mhi) s j = true → rowOf x ways (barP x m) s j = true := fun j hj => by
      rw [hstep, Bool.and_eq_true] at hj
      exact hj.1
    have h1000 : ∀ j, rowOf x ways (barP x m) s j = true → j ≤ 1000 := fun j hj => by
      have h1 := (rowOf_sub ok (Nat.le_of_lt hs')).1 hj
      have h2 := rngN_val ok s (Nat.le_of_lt hs')
      omega
    refine ⟨iv_of_convex ?_ (fun j hj => h1000 j (hsub j hj)) ?_, hsub⟩
    · have h1 := i4 lo (by rw [i3]; simp [ivP, i1])
      have h2 : rowPart (wayOf x ways s) (rowOf x ways (barP x m) s) (wayOf x ways s).length lo = true := h1
      obtain ⟨t, t1, t2, t3⟩ := rowPart_iff.1 h2
      obtain ⟨j, j1, j2, j3⟩ := meetsB_iff.1 t2
      refine ⟨j, ?_⟩
      rw [hstep, Bool.and_eq_true]
      refine ⟨j3, leadPart_iff.2 ⟨t, t1, meetsB_iff.2 ⟨lo, t3.1, t3.2, by simp [ivP, i1]⟩, j1, j2⟩⟩
    · intro a b c h1 h2 h3 h4
      rw [hstep, Bool.and_eq_true] at h3 h4 ⊢
      have ha := h1000 a h3.1
      have hc := h1000 c h4.1
      rw [lead_iv hw.2.2.1 hw.1 i1 ha] at h3
      rw [lead_iv hw.2.2.1 hw.1 i1 hc] at h4
      rw [lead_iv hw.2.2.1 hw.1 i1 (show b ≤ 1000 by omega)]
      have m1 := aft_mono hw.2.2.1 hw.2.2.2 hw.1 (lo := (a : Int)) (hi := (b : Int)) (by omega) (by omega)
      have m2 := aft_mono hw.2.2.1 hw.2.2.2 hw.1 (lo := (b : Int)) (hi := (c : Int)) (by omega) (by omega)
      rw [rowOf_sub ok (Nat.le_of_lt hs')] at h3 h4 ⊢
      omega
end Go.Proofs.Ytigpefjeelgfdaa

/-
  Walks of layer 1, sixth part: the reference's CheckWay.
-/
namespace Go.Proofs.Ytigpefjeelgfdaa
open Go.RowKit

theorem wayErr_range {ks : List Kink} {k : Nat} (n1 : ¬ ks.length < 1) (n2 : ¬ 12 < ks.length) (hk : k < ks.length) (h : kinkOk' ks k = false) : wayErr ks = 3 := by
  have : kinksOk ks = false := by rw [← kinksOk_eq]; exact UptoN.fail hk h
  unfold wayErr
  rw [if_neg (by omega), if_pos this]
theorem wayErr_rule {ks : List Kink} {k : Nat} (n1 : ¬ ks.length < 1) (n2 : ¬ 12 < ks.length) (h1 : kinksOk ks = true) (hk : k < ks.length - 1) (h : stepOk ks k = false) : wayErr ks = 16 := by
  have : stepsOk ks = false := UptoN.fail hk h
  unfold wayErr
  rw [if_neg (by omega), if_neg (by simp [h1]), if_pos this]
theorem wayErr_ok {ks : List Kink} (n1 : ¬ ks.length < 1) (n2 : ¬ 12 < ks.length) (h1 : kinksOk ks = true) (h2 : stepsOk ks = true) : wayErr ks = 0 := by
  unfold wayErr
  rw [if_neg (by omega), if_neg (by simp [h1]), if_neg (by simp [h2])]

set_option maxRecDepth 100000 in
set_option maxHeartbeats 4000000 in
theorem refCheckWay_in (A : Option Addr) (c : Nat) (ks : List Kink) (B : Nat) (w : World) (h : KinksA w B A ks) (hc : ks.length ≤ c) (hm : c ≤ 9223372036854775807) (hB : B ≤ w.heap.size)
    (n1 : ¬ ks.length < 1) (n2 : ¬ 12 < ks.length) :
    Calls Try.prog 20 #[.agg #[.slice A ks.length c]] w fun e w' => e = .returned (.int .i64 (wayErr ks)) ∧ Below w.heap.size w w' := by
  go_enter Try.func20, Try.ntmps20
  go_wp2_with fail
  go_loopw [3, 4] (fun i _ wr => ∃ (k : Nat), k ≤ ks.length ∧ i = .int .i64 k ∧ UptoN (kinkOk' ks) k ∧ Below w.heap.size w wr ∧ Box wr w.heap.size 28 #[.slice A ks.length c])
    (fun i _ _ => ks.length - (intOf i).toNat)
  case atStart =>
    refine ⟨0, by omega, rfl, UptoN.zero _, bel, ?_⟩
    exact bxt
  case round =>
    obtain ⟨k, hk, hi, hup, hbl, bw⟩ := hrel
    obtain ⟨w1, w2⟩ := bw.one
    have hs := bw.lt
    by_cases hlt : k < ks.length
    · obtain ⟨b, off, f, x, y, rfl, hb, hx, d0, d1, d2⟩ := kinksA (kinks_on h hbl hB) hlt
      have hbr : b < wr.heap.size := by omega
      have hkk := Lib.hid (kk_of hx)
      have bad3 : Hid (kinkOk' ks k = false → wayErr ks = 3) := wayErr_range n1 n2 hlt
      by_cases hk0 : k = 0
      · subst hk0
        simp only [Nat.zero_mul, Nat.add_zero] at d0 d1 d2
        simp only [Int.natCast_zero] at hi
        subst hi
        by_cases g3 : f = 0
        · subst g3
          rcases isHard_cases x y with g2 | g2
          · have Ok : Hid (kinkOk' ks 0 = true) := by simp [Hid, kinkOk', hkk.out, g2]
            have G2 := Lib.hid g2
            clear g2 bad3
            go_wp2_with fail
            refine wp_region_later (by kernel_rfl) (by kernel_rfl) ?_; have _hl := later_reads (wr.alloc (.cells #[.int .i64 0, .int .i64 x, .int .i64 y] 93)); (repeat (go_big_quiet_step ((go_at_call 47; have q := refIsHard_any x y; rw [G2.out] at q; exact LaterW.calls (q _))))); refine wpQuiet_nil ?_; intro w1 hw'; have hb_w1 := later_below hw'; clear hw' _hl
            go_wp2_with fail
            go_roundw
            case rel =>
              refine ⟨1, by omega, by go_num, hup.succ Ok.out, bel, ?_⟩
              exact bxt
            case measure => simp [intOf]; omega
          · have R : Hid (wayErr ks = 3) := bad3.out (by simp [kinkOk', hkk.out, g2])
            have G2 := Lib.hid g2
            clear g2 bad3
            go_wp2_with fail
            refine wp_region_later (by kernel_rfl) (by kernel_rfl) ?_; have _hl := later_reads (wr.alloc (.cells #[.int .i64 0, .int .i64 x, .int .i64 y] 93)); (repeat (go_big_quiet_step ((go_at_call 47; have q := refIsHard_any x y; rw [G2.out] at q; exact LaterW.calls (q _))))); refine wpQuiet_nil ?_; intro w1 hw'; have hb_w1 := later_below hw'; clear hw' _hl
            go_wp2_with fail
            go_ret
            exact ⟨ret_int R.out.symm, bel⟩
        · have R : Hid (wayErr ks = 3) := bad3.out (by simp [kinkOk', hkk.out, g3])
          have g3' : (f != 0) = true := by simp [g3]
          clear bad3
          go_wp2_with fail
          refine wp_region_later (by kernel_rfl) (by kernel_rfl) ?_; have _hl := later_reads (wr.alloc (.cells #[.int .i64 f, .int .i64 x, .int .i64 y] 93)); (repeat (go_big_quiet_step (fail))); refine wpQuiet_nil ?_; intro w1 hw'; have hb_w1 := later_below hw'; clear hw' _hl
          go_wp2_with fail
          go_ret
          exact ⟨ret_int R.out.symm, bel⟩
      · obtain ⟨j, rfl⟩ : ∃ j, k = j + 1 := ⟨k - 1, by omega⟩
        clear hk0
        have hi' := hi.trans (show Value.int .i64 ((j + 1 : Nat) : Int) = .int .i64 ((j : Int) + 1) from by simp)
        clear hi
        subst hi'
        obtain ⟨b', off', p, x', y', e, hb', hx', c0, c1, c2⟩ := kinksA (kinks_on h hbl hB) (i := j) (by omega)
        obtain ⟨rfl, rfl⟩ : b' = b ∧ off' = off := by simp at e; exact ⟨e.1.symm, e.2.symm⟩
        clear e
        have hkk' := Lib.hid (kk_of hx')
        have z1 : ((j : Int) + 1 == 0) = false := by simp; omega
        have z2 : decide ((0 : Int) < (j : Int) + 1) = true := by simp; try omega
        have z3 : IntKind.i64.wrap (j : Int) = (j : Int) := IntWalk.i64_in _ (by omega)
        have z4 : (0 : Int) ≤ (j : Int) := by omega
        have z5 : (j : Int) < (ks.length : Int) := by omega
        by_cases g3 : f ≤ p
        · have R : Hid (wayErr ks = 3) := bad3.out (by simp [kinkOk', hkk.out, hkk'.out, g3])
          clear bad3
          go_wp2_with fail
          refine wp_region_later (by kernel_rfl) (by kernel_rfl) ?_; have _hl := later_reads (wr.alloc (.cells #[.int .i64 f, .int .i64 x, .int .i64 y] 93)); (repeat (go_big_quiet_step (fail))); refine wpQuiet_nil ?_; intro w1 hw'; have hb_w1 := later_below hw'; clear hw' _hl
          go_wp2_with fail
          go_ret
          exact ⟨ret_int R.out.symm, bel⟩
        · have g3' : decide (f ≤ p) = false := by simpa using g3
          by_cases g4 : 1000 < f
          · have R : Hid (wayErr ks = 3) := bad3.out (by simp [kinkOk', hkk.out, hkk'.out]; omega)
            clear bad3
            go_wp2_with fail
            refine wp_region_later (by kernel_rfl) (by kernel_rfl) ?_; have _hl := later_reads (wr.alloc (.cells #[.int .i64 f, .int .i64 x, .int .i64 y] 93)); (repeat (go_big_quiet_step (fail))); refine wpQuiet_nil ?_; intro w1 hw'; have hb_w1 := later_below hw'; clear hw' _hl
            go_wp2_with fail
            go_ret
            exact ⟨ret_int R.out.symm, bel⟩
          · have g4' : decide (1000 < f) = false := by simpa using g4
            rcases isHard_cases x y with g2 | g2
            · have Ok : Hid (kinkOk' ks (j + 1) = true) := by simp [Hid, kinkOk', hkk.out, hkk'.out, g2]; omega
              have G2 := Lib.hid g2
              clear g2 bad3
              go_wp2_with fail
              refine wp_region_later (by kernel_rfl) (by kernel_rfl) ?_; have _hl := later_reads (wr.alloc (.cells #[.int .i64 f, .int .i64 x, .int .i64 y] 93)); (repeat (go_big_quiet_step ((go_at_call 47; have q := refIsHard_any x y; rw [G2.out] at q; exact LaterW.calls (q _))))); refine wpQuiet_nil ?_; intro w1 hw'; have hb_w1 := later_below hw'; clear hw' _hl
              go_wp2_with fail
              go_roundw
              case rel =>
                refine ⟨j + 1 + 1, by omega, by go_num, hup.succ Ok.out, bel, ?_⟩
                exact bxt
              case measure => simp [intOf]; omega
            · have R : Hid (wayErr ks = 3) := bad3.out (by simp [kinkOk', hkk.out, hkk'.out, g2])
              have G2 := Lib.hid g2
              clear g2 bad3
              go_wp2_with fail
              refine wp_region_later (by kernel_rfl) (by kernel_rfl) ?_; have _hl := later_reads (wr.alloc (.cells #[.int .i64 f, .int .i64 x, .int .i64 y] 93)); (repeat (go_big_quiet_step ((go_at_call 47; have q := refIsHard_any x y; rw [G2.out] at q; exact LaterW.calls (q _))))); refine wpQuiet_nil ?_; intro w1 hw'; have hb_w1 := later_below hw'; clear hw' _hl
              go_wp2_with fail
              go_ret
              exact ⟨ret_int R.out.symm, bel⟩
    · subst hi
      have h1 : kinksOk ks = true := by rw [← kinksOk_eq]; exact hup.done (by omega)
      have V := kinksVal_of h1
      have H1 := Lib.hid h1
      clear h1
      have hwr := hbl.size
      clear hup
      go_wp2_with fail
      obtain ⟨wo, rfl⟩ : ∃ wo : World, wo = wr := ⟨_, rfl⟩
      go_loopw [5, 6, 7] (fun i _ _ wr => ∃ (j : Nat), j ≤ ks.length ∧ i = .int .i64 (j + 1) ∧ UptoN (stepOk ks) j ∧ Below w.heap.size w wr ∧ Box wr w.heap.size 28 #[.slice A ks.length c])
        (fun i _ _ _ => ks.length + 1 - (intOf i).toNat)
      case atStart =>
        refine ⟨0, by omega, rfl, UptoN.zero _, bel, ?_⟩
        exact bxt
      case round =>
        obtain ⟨j, hk, rfl, hup, hbl, bw⟩ := hrel
        obtain ⟨w1, w2⟩ := bw.one
        have hs := bw.lt
        by_cases hlt : j + 1 < ks.length
        · obtain ⟨b, off, f, x, y, rfl, hb, hx, d0, d1, d2⟩ := kinksA (kinks_on h hbl hB) hlt
          obtain ⟨b', off', p, x', y', e, hb', hx', c0, c1, c2⟩ := kinksA (kinks_on h hbl hB) (i := j) (by omega)
          obtain ⟨rfl, rfl⟩ : b' = b ∧ off' = off := by simp at e; exact ⟨e.1.symm, e.2.symm⟩
          clear e
          have hkk := Lib.hid (kk_of hx)
          have hkk' := Lib.hid (kk_of hx')
          have hbr : b' < wr.heap.size := by omega
          obtain ⟨v1, v2, v3, _⟩ := V _ _ hx.out
          obtain ⟨u1, u2, u3, _⟩ := V _ _ hx'.out
          simp only at v1 v2 v3 u1 u2 u3
          have z3 : IntKind.i64.wrap (j : Int) = (j : Int) := IntWalk.i64_in _ (by omega)
          have z4 : (0 : Int) ≤ (j : Int) := by omega
          have z5 : (j : Int) < (ks.length : Int) := by omega
          have z6 : (j : Int) + 1 < (ks.length : Int) := by omega
          clear hx hx'
          rcases Bool.eq_false_or_eq_true (stepOk ks j) with q | q
          · have q' : ¬ (x < x' ∨ y < y' ∨ y' + 1 < x) := by simpa [stepOk, hkk.out, hkk'.out] using q
            obtain ⟨q1, q2, q3⟩ : ¬ x < x' ∧ ¬ y < y' ∧ ¬ y' + 1 < x := by omega
            have Q := Lib.hid q
            clear q q'
            go_wp2
            go_region
            all_goals
              go_wp2
              go_roundw
              case rel =>
                refine ⟨j + 1, by omega, by go_num, hup.succ Q.out, bel, ?_⟩
                exact bxt
              case measure => simp [intOf]; omega
          · have q' : x < x' ∨ y < y' ∨ y' + 1 < x := by simp [stepOk, hkk.out, hkk'.out] at q; omega
            have R : Hid (wayErr ks = 16) := wayErr_rule n1 n2 H1.out (by omega) q
            clear q
            by_cases q1 : x < x'
            · clear q'
              go_wp2
              go_region
              all_goals
                go_wp2
                go_ret
                exact ⟨ret_int R.out.symm, bel⟩
            by_cases q2 : y < y'
            · clear q'
              go_wp2
              go_region
              all_goals
                go_wp2
                go_ret
                exact ⟨ret_int R.out.symm, bel⟩
            have q3 : y' + 1 < x := by omega
            clear q'
            go_wp2
            go_region
            all_goals
              go_wp2
              go_ret
              exact ⟨ret_int R.out.symm, bel⟩
        · have R : Hid (wayErr ks = 0) := wayErr_ok n1 n2 H1.out (UptoN.done hup (by omega))
          go_wp2
          go_ret
          exact ⟨ret_int R.out.symm, bel⟩

set_option maxHeartbeats 400000 in
theorem refCheckWay_any (A : Option Addr) (c : Nat) (ks : List Kink) (B : Nat) (w : World) (h : KinksA w B A ks) (hc : ks.length ≤ c) (hm : c ≤ 9223372036854775807) (hB : B ≤ w.heap.size) :
    Calls Try.prog 20 #[.agg #[.slice A ks.length c]] w fun e w' => e = .returned (.int .i64 (wayErr ks)) ∧ Below w.heap.size w w' := by
  by_cases g1 : ks.length < 1 ∨ 12 < ks.length
  · have E : Hid (wayErr ks = 6) := by simp only [Hid, wayErr]; rw [if_pos g1]
    by_cases g2 : ks.length < 1
    · clear g1
      go_enter Try.func20, Try.ntmps20
      go_wp2_with fail
      go_ret
      exact ⟨ret_int E.out.symm, bel⟩
    · have g3 : 12 < ks.length := by omega
      clear g1
      go_enter Try.func20, Try.ntmps20
      go_wp2_with fail
      go_ret
      exact ⟨ret_int E.out.symm, bel⟩
  · exact refCheckWay_in A c ks B w h hc hm hB (by omega) (by omega)
end Go.Proofs.Ytigpefjeelgfdaa
