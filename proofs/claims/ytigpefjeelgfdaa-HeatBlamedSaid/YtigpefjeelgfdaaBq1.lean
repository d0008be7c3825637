/-
  A part of the texts that the claim builds on: see the last one.
-/
import Derived.Test.YtigpefjeelgfdaaDf6
set_option linter.unusedSimpArgs false
set_option linter.unusedVariables false
/-
  Layer 1's reference, by the engine: Makers.
-/
namespace Go.Proofs.Ytigpefjeelgfdaa.Eng
open Go.RowKit

def madeR (x : Works) (lo hi : Int) (r : Rec) : Bool := madeB x r.1.toNat r.2 lo hi
def mkTo (x : Works) (lo hi : Int) (l : List Rec) (k : Nat) : List Rec := (l.take k).filter (madeR x lo hi)
theorem mkTo_yes {x : Works} {lo hi : Int} {l : List Rec} {k : Nat} {r : Rec} (h : l[k]? = some r) (hm : madeR x lo hi r = true) : mkTo x lo hi l (k + 1) = mkTo x lo hi l k ++ [r] := by
  rw [mkTo, take_some h, List.filter_append]; simp [mkTo, hm]
theorem mkTo_no {x : Works} {lo hi : Int} {l : List Rec} {k : Nat} {r : Rec} (h : l[k]? = some r) (hm : madeR x lo hi r = false) : mkTo x lo hi l (k + 1) = mkTo x lo hi l k := by
  rw [mkTo, take_some h, List.filter_append]; simp [mkTo, hm]
theorem mkTo_len (x : Works) (lo hi : Int) (l : List Rec) (k : Nat) : (mkTo x lo hi l k).length ≤ k := by
  refine Nat.le_trans (List.length_filter_le _ _) ?_
  simp; omega
/-- What is asked of all recipes of a works. -/
structure RecsOk (x : Works) (l : List Rec) : Prop where
  ok : ∀ r ∈ l, ∃ m : Nat, r.1 = (m : Int) ∧ RecOk x (m : Int) r.2
  few : l.length ≤ 1000
end Go.Proofs.Ytigpefjeelgfdaa.Eng

/-
  Layer 1, plain: all recipes of a works one by one, and what is counted of them.
-/
namespace Go.Proofs.Ytigpefjeelgfdaa.Eng
open Go.RowKit

/-- All choices of ways for d steps, from step s on. -/
def tails (x : Works) : Nat → Nat → List (List Int)
  | 0, _ => [[]]
  | d + 1, s => (List.range (stepAt x.steps s).length).flatMap fun (k : Nat) => (tails x d (s + 1)).map ((k : Int) :: ·)
theorem tails_succ (x : Works) (d s : Nat) : tails x (d + 1) s = (List.range (stepAt x.steps s).length).flatMap fun (k : Nat) => (tails x d (s + 1)).map ((k : Int) :: ·) := rfl
theorem tails_snoc (x : Works) : ∀ d s, tails x (d + 1) s = (tails x d s).flatMap fun ws => (List.range (stepAt x.steps (s + d)).length).map fun (k : Nat) => ws ++ [(k : Int)]
  | 0, s => by
    simp only [tails, List.map_cons, List.map_nil, List.flatMap_cons, List.flatMap_nil, List.append_nil, List.nil_append, Nat.add_zero]
    exact List.map_eq_flatMap.symm
  | d + 1, s => by
    have ih := tails_snoc x d (s + 1)
    rw [tails_succ x (d + 1) s, ih, tails_succ x d s]
    simp only [List.map_flatMap, List.flatMap_assoc, List.flatMap_map, List.map_map]
    rw [show s + 1 + d = s + (d + 1) by omega]
    rfl
theorem recsTo_tails (x : Works) : ∀ i, i ≤ x.steps.length → recsTo x i = (List.range x.bars.length).flatMap fun (b : Nat) => (tails x i 0).map fun ws => ((b : Int), ws)
  | 0, _ => by
    simp only [recsTo, barRecs, tails, List.map_cons, List.map_nil]
    exact List.map_eq_flatMap
  | i + 1, hi => by
    obtain ⟨ws, hws⟩ : ∃ ws, x.steps[i]? = some ws := ⟨_, List.getElem?_eq_getElem (by omega)⟩
    have hl : stepAt x.steps (0 + i) = ws := by rw [Nat.zero_add]; exact stepAt_of (Lib.hid hws)
    have e : recsTo x (i + 1) = extTo (recsTo x i) ws.length (recsTo x i).length := by simp only [recsTo, hws]
    rw [e, extTo, List.take_of_length_le (Nat.le_refl _), recsTo_tails x i (by omega), tails_snoc, hl]
    simp only [List.map_flatMap, List.flatMap_assoc, List.flatMap_map, List.map_map, ext1]
    rfl
theorem tails_mem (x : Works) : ∀ d s ws, ws ∈ tails x d s → ws.length = d ∧ ∀ i, i < d → ∃ k : Nat, ws[i]? = some (k : Int) ∧ k < (stepAt x.steps (s + i)).length
  | 0, s, ws, h => by
    simp only [tails, List.mem_singleton] at h
    subst h
    exact ⟨rfl, fun i hi => by omega⟩
  | d + 1, s, ws, h => by
    rw [tails_succ, List.mem_flatMap] at h
    obtain ⟨k, hk, h⟩ := h
    obtain ⟨ws', hw, rfl⟩ := List.mem_map.1 h
    obtain ⟨h1, h2⟩ := tails_mem x d (s + 1) ws' hw
    refine ⟨by simp [h1], fun i hi => ?_⟩
    match i with
    | 0 => exact ⟨k, rfl, by simpa using hk⟩
    | i + 1 =>
      obtain ⟨k', e1, e2⟩ := h2 i (by omega)
      exact ⟨k', by simpa using e1, by rw [show s + (i + 1) = s + 1 + i by omega]; exact e2⟩
theorem recs_mem {x : Works} {r : Rec} (h : r ∈ recsTo x x.steps.length) : ∃ b : Nat, b < x.bars.length ∧ r.1 = (b : Int) ∧ r.2 ∈ tails x x.steps.length 0 := by
  rw [recsTo_tails x _ (Nat.le_refl _), List.mem_flatMap] at h
  obtain ⟨b, hb, h⟩ := h
  obtain ⟨ws, hw, rfl⟩ := List.mem_map.1 h
  exact ⟨b, by simpa using hb, rfl, hw⟩
theorem recs_ok {x : Works} (hx : worksErr x = 0) {b : Nat} (hb : b < x.bars.length) {ws : List Int} (h : ws ∈ tails x x.steps.length 0) : RecOk x (b : Int) ws := by
  obtain ⟨h1, h2⟩ := tails_mem x _ _ _ h
  refine ⟨hx, h1, by omega, by omega, fun i hi => ?_⟩
  obtain ⟨k, e1, e2⟩ := h2 i (by omega)
  rw [Nat.zero_add] at e2
  simp only [wayIn, intAt, List.getD_eq_getElem?_getD, e1, Option.getD_some, decide_eq_true_eq]
  omega

/-- The range that ways lead to, from step s on. -/
def rngFrom (x : Works) : Nat → Rg → List Int → Rg
  | _, r, [] => r
  | s, r, k :: ws => rngFrom x (s + 1) (thrAt x s k.toNat r.1 r.2) ws
theorem rngN_from {x : Works} {m : Nat} {ways : List Int} : ∀ (ws : List Int) (s : Nat), ways.drop s = ws → rngN x m ways (s + ws.length) = rngFrom x s (rngN x m ways s) ws
  | [], s, _ => rfl
  | k :: ws, s, h => by
    have h1 : ways[s]? = some k := by rw [← List.head?_drop, h]; rfl
    have h2 : ways.drop (s + 1) = ws := by rw [← List.tail_drop, h]; rfl
    have e : rngN x m ways (s + 1) = thrAt x s k.toNat (rngN x m ways s).1 (rngN x m ways s).2 := by
      simp only [rngN, wayOf, thrAt, thr, intAt, List.getD_eq_getElem?_getD, h1, Option.getD_some]
    rw [List.length_cons, show s + (ws.length + 1) = s + 1 + ws.length by omega, rngN_from ws (s + 1) h2, e]
    rfl
def over (mlo mhi : Int) (r : Rg) : Bool := decide (r.1 ≤ mhi) && decide (mlo ≤ r.2)
theorem made_over {x : Works} {b : Nat} {ws : List Int} (h : ws ∈ tails x x.steps.length 0) (mlo mhi : Int) : madeR x mlo mhi ((b : Int), ws) = over mlo mhi (rngFrom x 0 (rgAt x.bars b) ws) := by
  obtain ⟨h1, _⟩ := tails_mem x _ _ _ h
  have := rngN_from (x := x) (m := b) (ways := ws) ws 0 rfl
  rw [h1, Nat.zero_add] at this
  simp only [madeR, madeB, Int.toNat_natCast, this, over]
  rfl

theorem sumTo_congr {f g : Nat → Nat} (h : ∀ i, f i = g i) (n : Nat) : sumTo f n = sumTo g n := by rw [show f = g from funext h]
theorem sumTo_congr_lt {f g : Nat → Nat} : ∀ n, (∀ i, i < n → f i = g i) → sumTo f n = sumTo g n
  | 0, _ => rfl
  | n + 1, h => by rw [sumTo, sumTo, sumTo_congr_lt n fun i hi => h i (by omega), h n (by omega)]
theorem sumTo_zero : ∀ n, sumTo (fun _ => 0) n = 0
  | 0 => rfl
  | n + 1 => by rw [sumTo, sumTo_zero n]
theorem sumTo_pick (g : Nat → Nat) (j : Int) : ∀ n, sumTo (fun (k : Nat) => if (k : Int) = j then g k else 0) n = if 0 ≤ j ∧ j < n then g j.toNat else 0
  | 0 => by rw [if_neg (by omega)]; rfl
  | n + 1 => by
    rw [sumTo, sumTo_pick g j n]
    by_cases h : (n : Int) = j
    · subst h
      rw [if_neg (by omega), if_pos rfl, if_pos (by omega), Int.toNat_natCast]; omega
    · rw [if_neg h]
      by_cases h2 : 0 ≤ j ∧ j < n
      · rw [if_pos h2, if_pos (by omega)]; omega
      · rw [if_neg h2, if_neg (by omega)]
theorem countP_flat {β : Type} (p : β → Bool) (f : Nat → List β) : ∀ n, ((List.range n).flatMap f).countP p = sumTo (fun i => (f i).countP p) n
  | 0 => rfl
  | n + 1 => by
    rw [List.range_succ, List.flatMap_append, List.countP_append, countP_flat p f n, sumTo]
    simp only [List.flatMap_cons, List.flatMap_nil, List.append_nil]
theorem cntN_eq (x : Works) (mlo mhi : Int) : ∀ d s lo hi, cntN x mlo mhi d s lo hi = (tails x d s).countP fun ws => over mlo mhi (rngFrom x s (lo, hi) ws)
  | 0, s, lo, hi => by
    by_cases a : lo ≤ mhi <;> by_cases b : mlo ≤ hi <;> simp [cntN, tails, List.countP_cons, rngFrom, over, a, b]
  | d + 1, s, lo, hi => by
    rw [cntN, tails_succ, countP_flat]
    refine sumTo_congr (fun k => ?_) _
    rw [cntN_eq x mlo mhi d (s + 1), List.countP_map]
    rfl
def atB (s : Nat) (t j : Int) (ws : List Int) : Bool := decide ((s : Int) ≤ t) && (ws[(t - s).toNat]? == some j)
theorem addN_eq (x : Works) (mlo mhi : Int) : ∀ d s lo hi t j, addN x mlo mhi d s lo hi t j = (tails x d s).countP fun ws => over mlo mhi (rngFrom x s (lo, hi) ws) && atB s t j ws
  | 0, s, lo, hi, t, j => by simp [addN, tails, atB]
  | d + 1, s, lo, hi, t, j => by
    rw [addN, tails_succ, countP_flat]
    by_cases ht : t = s
    · subst ht
      rw [sumTo_congr (g := fun _ => 0) (fun i => ?_), sumTo_zero, Nat.add_zero]
      · rw [sumTo_congr (g := fun (k : Nat) => if (k : Int) = j then cntN x mlo mhi d (s + 1) (thrAt x s k lo hi).1 (thrAt x s k lo hi).2 else 0) (fun k => ?_), sumTo_pick]
        · simp
        · rw [List.countP_map, cntN_eq]
          by_cases hk : (k : Int) = j
          · rw [if_pos hk]
            refine List.countP_congr fun ws _ => ?_
            simp [atB, hk, rngFrom]
            subst hk
            simp
          · rw [if_neg hk, List.countP_eq_zero]
            intro ws _
            simp [atB, hk]
      · rw [addN_eq x mlo mhi d (s + 1), List.countP_eq_zero]
        intro ws _
        simp [atB]
        omega
    · rw [if_neg (by omega), Nat.zero_add]
      refine sumTo_congr (fun k => ?_) _
      rw [addN_eq x mlo mhi d (s + 1), List.countP_map]
      refine List.countP_congr fun ws _ => ?_
      have e : atB (s + 1) t j ws = atB s t j ((k : Int) :: ws) := by
        unfold atB
        by_cases h : (s : Int) ≤ t
        · have h2 : (t - s).toNat = (t - (s + 1 : Nat)).toNat + 1 := by omega
          have h3 : ((s + 1 : Nat) : Int) ≤ t := by omega
          rw [h2, List.getElem?_cons_succ]
          simp only [h, h3, decide_true]
        · have h3 : ¬ ((s + 1 : Nat) : Int) ≤ t := by omega
          simp only [h, h3, decide_false, Bool.false_and]
      rw [e]
      rfl
theorem totN_eq (x : Works) (mlo mhi : Int) : totN x mlo mhi = (recsTo x x.steps.length).countP (madeR x mlo mhi) := by
  rw [recsTo_tails x _ (Nat.le_refl _), countP_flat, totN]
  refine sumTo_congr (fun b => ?_) _
  rw [cntBar, cntN_eq, List.countP_map]
  refine List.countP_congr fun ws hw => ?_
  rw [Function.comp, made_over hw]
/-- A recipe has the bar (-1), or at step t the way, j. -/
def hasB (t j : Int) (r : Rec) : Bool := if t < 0 then r.1 == j else r.2[t.toNat]? == some j
theorem plcN_eq (x : Works) (mlo mhi t j : Int) (ht : -1 ≤ t) : plcN x mlo mhi t j = (recsTo x x.steps.length).countP fun r => madeR x mlo mhi r && hasB t j r := by
  rw [recsTo_tails x _ (Nat.le_refl _), countP_flat, plcN, totTo]
  by_cases h : t = -1
  · subst h
    rw [sumTo_congr (f := fun i => addN x mlo mhi x.steps.length 0 (rgAt x.bars i).1 (rgAt x.bars i).2 (-1) j) (g := fun _ => 0) (fun i => ?_), sumTo_zero, Nat.add_zero]
    · rw [sumTo_congr (g := fun (b : Nat) => if (b : Int) = j then cntBar x mlo mhi b else 0) (fun b => ?_), sumTo_pick]
      · simp
      · rw [List.countP_map, cntBar, cntN_eq]
        by_cases hk : (b : Int) = j
        · rw [if_pos hk]
          refine List.countP_congr fun ws hw => ?_
          rw [Function.comp, made_over hw]
          simp [hasB, hk]
        · rw [if_neg hk, List.countP_eq_zero]
          intro ws _
          simp [hasB, hk]
    · rw [addN_eq, List.countP_eq_zero]
      intro ws _
      simp [atB]
  · rw [if_neg (by omega), Nat.zero_add]
    refine sumTo_congr (fun b => ?_) _
    rw [List.countP_map, addN_eq]
    refine List.countP_congr fun ws hw => ?_
    rw [Function.comp, made_over hw]
    have h0 : (0 : Int) ≤ t := by omega
    have h1 : ¬ t < 0 := by omega
    simp [hasB, atB, h0, h1]
end Go.Proofs.Ytigpefjeelgfdaa.Eng

/-
  Layer 1, plain: what the reference counts is what package heat counts.
-/
namespace Go.Proofs.Ytigpefjeelgfdaa.Eng
open Go.RowKit

def prodTo (x : Works) : Nat → Nat
  | 0 => x.bars.length
  | i + 1 => prodTo x i * (stepAt x.steps i).length
theorem recsTo_len (x : Works) : ∀ i, i ≤ x.steps.length → (recsTo x i).length = prodTo x i
  | 0, _ => barRecs_len _
  | i + 1, hi => by
    obtain ⟨ws, hws⟩ : ∃ ws, x.steps[i]? = some ws := ⟨_, List.getElem?_eq_getElem (by omega)⟩
    have e : recsTo x (i + 1) = extTo (recsTo x i) ws.length (recsTo x i).length := by simp only [recsTo, hws]
    rw [e, extTo_len, List.take_of_length_le (Nat.le_refl _), recsTo_len x i (by omega), prodTo, stepAt_of (Lib.hid hws)]
theorem recsTo_over (x : Works) : ∀ e, recsTo x (x.steps.length + e) = recsTo x x.steps.length
  | 0 => rfl
  | e + 1 => by
    have h : x.steps[x.steps.length + e]? = none := List.getElem?_eq_none (by omega)
    have := recsTo_over x e
    rw [← Nat.add_assoc, recsTo, h]
    exact this
theorem bars_few {x : Works} (h : worksErr x = 0) : 1 ≤ x.bars.length ∧ x.bars.length ≤ 6 ∧ x.steps.length ≤ 6 := by
  have h1 := (worksOk_iff.1 h).1
  simp only [manyOk, Bool.and_eq_true, Bool.not_eq_true', decide_eq_false_iff_not] at h1
  omega
theorem ways_some {x : Works} (h : worksErr x = 0) {s : Nat} (hs : s < x.steps.length) : 1 ≤ (stepAt x.steps s).length := by
  have h1 := (worksOk_iff.1 h).1
  simp only [manyOk, Bool.and_eq_true] at h1
  have hw : x.steps[s]? = some x.steps[s] := List.getElem?_eq_getElem hs
  have := List.all_eq_true.1 h1.2 _ (List.mem_of_getElem? hw)
  rw [stepAt_of (Lib.hid hw)]
  simp only [waysMany, Bool.not_eq_true', decide_eq_false_iff_not] at this
  omega
theorem prod_mono {x : Works} (h : worksErr x = 0) (i : Nat) : ∀ e, i + e ≤ x.steps.length → prodTo x i ≤ prodTo x (i + e)
  | 0, _ => Nat.le_refl _
  | e + 1, he => by
    have h1 := prod_mono h i e (by omega)
    have h2 := ways_some h (s := i + e) (by omega)
    rw [← Nat.add_assoc, prodTo]
    exact Nat.le_trans h1 (Nat.le_mul_of_pos_right _ h2)
theorem prod_le {x : Works} (h : worksErr x = 0) : ∀ i, prodTo x i ≤ 6 * 5 ^ i
  | 0 => by have := bars_few h; simp [prodTo]; omega
  | i + 1 => by
    rw [prodTo, Nat.pow_succ, ← Nat.mul_assoc]
    exact Nat.mul_le_mul (prod_le h i) (ways_few h i)
theorem prod_few {x : Works} (h : worksErr x = 0) {i : Nat} (hi : i ≤ 6) : prodTo x i ≤ 93750 :=
  Nat.le_trans (prod_le h i) (Nat.le_trans (Nat.mul_le_mul_left 6 (Nat.pow_le_pow_right (by omega) hi)) (by decide))
/-- More recipes than a statement tries. -/
def fullB (x : Works) : Bool := decide (worksErr x = 0) && decide (400 < prodTo x x.steps.length)
theorem recs_few {x : Works} (h : worksErr x = 0) (hp : prodTo x x.steps.length ≤ 400) (i : Nat) : (recsTo x i).length ≤ 1000 := by
  rcases Nat.le_total i x.steps.length with hi | hi
  · rw [recsTo_len x i hi]
    have := prod_mono h i (x.steps.length - i) (by omega)
    rw [show i + (x.steps.length - i) = x.steps.length by omega] at this
    omega
  · rw [show i = x.steps.length + (i - x.steps.length) by omega, recsTo_over, recsTo_len x _ (Nat.le_refl _)]
    omega
theorem recs_short {x : Works} (h : worksErr x = 0) (i : Nat) : ∀ r ∈ recsTo x i, r.2.length ≤ 1000 := by
  have key : ∀ i, i ≤ x.steps.length → ∀ r ∈ recsTo x i, r.2.length ≤ 1000 := by
    intro i hi r hr
    rw [recsTo_tails x i hi, List.mem_flatMap] at hr
    obtain ⟨b, _, hr⟩ := hr
    obtain ⟨ws, hw, rfl⟩ := List.mem_map.1 hr
    have := (tails_mem x _ _ _ hw).1
    have := (bars_few h).2.2
    show ws.length ≤ 1000
    omega
  rcases Nat.le_total i x.steps.length with hi | hi
  · exact key i hi
  · rw [show i = x.steps.length + (i - x.steps.length) by omega, recsTo_over]
    exact key _ (Nat.le_refl _)
theorem recipes_c {x : Works} (h : worksErr x = 0) (hp : prodTo x x.steps.length ≤ 400) : ACall Try.prog 50 [worksD x] (recsD (recsTo x x.steps.length)) := by
  have hf := bars_few h
  refine recipes_ok x (by omega) (by omega) (fun ws hws => ?_) (recs_short h) (recs_few h hp)
  obtain ⟨s, hs⟩ := List.getElem?_of_mem hws
  have := ways_few h s
  rw [stepAt_of (Lib.hid hs)] at this
  omega
theorem recsOk {x : Works} (h : worksErr x = 0) (hp : prodTo x x.steps.length ≤ 400) : RecsOk x (recsTo x x.steps.length) :=
  ⟨fun r hr => by
    obtain ⟨b, hb, e, hw⟩ := recs_mem hr
    exact ⟨b, e, recs_ok h hb hw⟩, recs_few h hp _⟩
/-- All recipes that can have made a blade. -/
def mkN (x : Works) (lo hi : Int) : List Rec := (recsTo x x.steps.length).filter (madeR x lo hi)
theorem mkN_len (x : Works) (lo hi : Int) : (mkN x lo hi).length = totN x lo hi := by rw [totN_eq, List.countP_eq_length_filter, mkN]
theorem mkN_few {x : Works} (h : worksErr x = 0) (hp : prodTo x x.steps.length ≤ 400) (lo hi : Int) : (mkN x lo hi).length ≤ 1000 := Nat.le_trans (List.length_filter_le _ _) (recs_few h hp _)
theorem mk_mem {x : Works} {lo hi : Int} {r : Rec} (h : r ∈ mkN x lo hi) : ∃ b : Nat, b < x.bars.length ∧ r.1 = (b : Int) ∧ r.2 ∈ tails x x.steps.length 0 := recs_mem (List.mem_filter.1 h).1
/-- What a recipe has at a step. -/
theorem of_has {x : Works} {r : Rec} {t : Int} (h1 : -1 ≤ t) (h2 : t < x.steps.length) (hr : ∃ b : Nat, b < x.bars.length ∧ r.1 = (b : Int) ∧ r.2 ∈ tails x x.steps.length 0) :
    t < r.2.length ∧ ∃ k : Nat, ofN r t = (k : Int) ∧ k < nCh x t ∧ ∀ j : Int, hasB t j r = ((k : Int) == j) := by
  obtain ⟨b, hb, e, hw⟩ := hr
  obtain ⟨w1, w2⟩ := tails_mem x _ _ _ hw
  refine ⟨by omega, ?_⟩
  by_cases h : t = -1
  · subst h
    exact ⟨b, by simp [ofN, e], by simpa [nCh] using hb, fun j => by simp [hasB, e]⟩
  · obtain ⟨s, rfl⟩ := Int.eq_ofNat_of_zero_le (show 0 ≤ t by omega)
    obtain ⟨k, k1, k2⟩ := w2 s (by omega)
    rw [Nat.zero_add] at k2
    have h0 : ¬ (s : Int) < 0 := by omega
    refine ⟨k, by simp [ofN, h0, k1], by rw [nCh, if_neg h, Int.toNat_natCast]; exact k2, fun j => ?_⟩
    simp [hasB, h0, k1]
theorem bump_plc {x : Works} (h : worksErr x = 0) (lo hi : Int) {t : Int} (h1 : -1 ≤ t) (h2 : t < x.steps.length) {j : Nat} (hj : j < 6) : (bumps (mkN x lo hi) t (mkN x lo hi).length).getD j 0 = (plcN x lo hi t j : Int) := by
  rw [bumps_val, List.take_of_length_le (Nat.le_refl _), plcN_eq x lo hi t j h1, ← List.countP_eq_length_filter, mkN, List.countP_filter]
  congr 1
  refine List.countP_congr fun r hr => ?_
  obtain ⟨_, k, k1, _, k3⟩ := of_has h1 h2 (recs_mem hr)
  rw [k3, k1, Int.toNat_natCast]
  simp [hj, and_comm]
  omega
theorem plc_zero {x : Works} (lo hi : Int) {t : Int} (h1 : -1 ≤ t) (h2 : t < x.steps.length) {j : Nat} (hj : nCh x t ≤ j) : plcN x lo hi t j = 0 := by
  rw [plcN_eq x lo hi t j h1, List.countP_eq_zero]
  intro r hr
  obtain ⟨_, k, _, k2, k3⟩ := of_has h1 h2 (recs_mem hr)
  have : ¬ (k : Int) = j := by omega
  rw [k3]
  simp [this]
theorem leftTo_more (f : Int → Int → Nat) (t : Int) (n : Nat) : ∀ e, (∀ j : Nat, n ≤ j → f t j = 0) → leftTo f t (n + e) = leftTo f t n
  | 0, _ => rfl
  | e + 1, h => by
    rw [← Nat.add_assoc, leftTo, if_pos (h (n + e) (by omega))]
    exact leftTo_more f t n e h
theorem worstTo_more (f : Int → Int → Nat) (t : Int) (n : Nat) : ∀ e, (∀ j : Nat, n ≤ j → f t j = 0) → worstTo f t (n + e) = worstTo f t n
  | 0, _ => rfl
  | e + 1, h => by
    rw [← Nat.add_assoc, worstTo, h (n + e) (by omega), worstTo_more f t n e h]
    omega
theorem leftTo_some {f : Int → Int → Nat} {t : Int} {l : List Int} : ∀ k, (∀ j : Nat, j < k → l.getD j 0 = (f t j : Int)) → leftTo f t k = someL l k
  | 0, _ => rfl
  | k + 1, h => by
    have h1 := leftTo_some k fun j hj => h j (by omega)
    have h2 := h k (by omega)
    rw [leftTo, h1]
    by_cases h0 : f t k = 0
    · rw [if_pos h0]
      simp [someL, List.range_succ, List.filter_append, List.getD_eq_getElem?_getD] at h2 ⊢
      simp [h2, h0]
    · rw [if_neg h0]
      simp [someL, List.range_succ, List.filter_append, List.getD_eq_getElem?_getD] at h2 ⊢
      have : 0 < f t k := by omega
      simp [h2, this]
/-- **The reference's list of what is left is the package's.** -/
theorem some_left {x : Works} (h : worksErr x = 0) (lo hi : Int) {t : Int} (h1 : -1 ≤ t) (h2 : t < x.steps.length) : someL (bumps (mkN x lo hi) t (mkN x lo hi).length) 6 = leftN x lo hi t := by
  rw [← leftTo_some 6 fun j hj => bump_plc h lo hi h1 h2 hj, leftN]
  have := leftTo_more (plcN x lo hi) t (nCh x t) (6 - nCh x t) fun j hj => plc_zero lo hi h1 h2 hj
  rw [← this]
  have := nCh_few h t
  congr 1
  omega
theorem worst_six {x : Works} (h : worksErr x = 0) (lo hi : Int) {t : Int} (h1 : -1 ≤ t) (h2 : t < x.steps.length) : worstTo (plcN x lo hi) t 6 = worstAt x lo hi t := by
  have := worstTo_more (plcN x lo hi) t (nCh x t) (6 - nCh x t) fun j hj => plc_zero lo hi h1 h2 hj
  rw [worstAt, ← this]
  have := nCh_few h t
  congr 1
  omega
end Go.Proofs.Ytigpefjeelgfdaa.Eng

/-
  Layer 1, plain: what becomes of ranges and counts if less is left open by what was measured; what HeatNarrower asks.
-/
namespace Go.Proofs.Ytigpefjeelgfdaa
open Go.RowKit

section
variable {x : Works} {m : Nat} {ways : List Int} {lo hi lo' hi' : Int}
theorem any_wide (ok : RecOk x m ways) (h1 : lo ≤ lo') (h2 : hi' ≤ hi) (h : hadAny x (rowOf x ways (barP x m)) (meas lo' hi') = true) : hadAny x (rowOf x ways (barP x m)) (meas lo hi) = true := by
  rw [hadAny_iff ok] at h ⊢
  obtain ⟨j, a, b, c, d⟩ := h
  exact ⟨j, a, b, by omega, by omega⟩
theorem hadE_wide (ok : RecOk x m ways) (h1 : lo ≤ lo') (h2 : hi' ≤ hi) (h : hadAny x (rowOf x ways (barP x m)) (meas lo' hi') = true) : ∀ d s, s + d = x.steps.length →
    (hadE x m ways lo hi s).1 ≤ (hadE x m ways lo' hi' s).1 ∧ (hadE x m ways lo' hi' s).2 ≤ (hadE x m ways lo hi s).2
  | 0, s, hs => by
    obtain rfl : s = x.steps.length := by omega
    rw [hadE_last ok h, hadE_last ok (any_wide ok h1 h2 h)]
    simp only
    omega
  | d + 1, s, hs => by
    have ih := hadE_wide ok h1 h2 h d (s + 1) (by omega)
    have hv := hadE_val ok h (s := s) (by omega)
    have key : ∀ j : Nat, (hadE x m ways lo' hi' s).1 ≤ j ∧ (j : Int) ≤ (hadE x m ways lo' hi' s).2 → (hadE x m ways lo hi s).1 ≤ j ∧ (j : Int) ≤ (hadE x m ways lo hi s).2 := fun j hj => by
      have := (hadE_step ok h (s := s) (by omega) j).1 hj
      exact (hadE_step ok (any_wide ok h1 h2 h) (s := s) (by omega) j).2 ⟨this.1, by omega, by omega⟩
    have k1 := key (hadE x m ways lo' hi' s).1.toNat (by omega)
    have k2 := key (hadE x m ways lo' hi' s).2.toNat (by omega)
    omega
/-- The error of Had: none, or too soft. -/
theorem agrErr_ok (ok : RecOk x m ways) (hh : isHardB lo hi = true) : agrErr x m ways lo hi = if hadAny x (rowOf x ways (barP x m)) (meas lo hi) = true then 0 else 17 := by
  have e : hadAny x (recRows x m ways) (meas lo hi) = hadAny x (rowOf x ways (barP x m)) (meas lo hi) := rfl
  unfold agrErr
  rw [if_neg (by simpa using recOk_iff.2 ok), if_neg (by simp [hh]), e]
  cases hadAny x (rowOf x ways (barP x m)) (meas lo hi) <;> simp
end
theorem leastTo_min (l : List Int) : ∀ k i, i < k → intAt l (leastTo l k) ≤ intAt l i
  | k + 1, i, h => by
    unfold leastTo
    rcases Nat.lt_or_ge i k with g | g
    · have := leastTo_min l k i g
      split <;> omega
    · obtain rfl : i = k := by omega
      split <;> omega
theorem wlTo_at (x : Works) (lo hi : Int) (k : Nat) : ∀ n, k < n → intAt (wlTo x lo hi n) k = (worstAt x lo hi ((k : Int) - 1) : Int)
  | n + 1, h => by
    rcases Nat.lt_or_ge k n with g | g
    · rw [← wlTo_at x lo hi k n g]
      unfold intAt
      rw [List.getD_eq_getElem?_getD, List.getD_eq_getElem?_getD, wlTo, List.getElem?_append_left (by rw [wlTo_length]; exact g)]
    · obtain rfl : k = n := by omega
      unfold intAt
      rw [List.getD_eq_getElem?_getD, wlTo, List.getElem?_append_right (by rw [wlTo_length]; omega), wlTo_length, Nat.sub_self]
      rfl
theorem leftTo_mem {f : Int → Int → Nat} {t j : Int} : ∀ {k : Nat}, j ∈ leftTo f t k ↔ ∃ i : Nat, i < k ∧ j = (i : Int) ∧ f t i ≠ 0
  | 0 => by simp [leftTo]
  | k + 1 => by
    unfold leftTo
    by_cases h : f t k = 0
    · rw [if_pos h, leftTo_mem]
      constructor
      · rintro ⟨i, h1, h2, h3⟩; exact ⟨i, by omega, h2, h3⟩
      · rintro ⟨i, h1, h2, h3⟩
        refine ⟨i, ?_, h2, h3⟩
        rcases Nat.lt_or_ge i k with g | g
        · exact g
        · obtain rfl : i = k := by omega
          exact absurd h h3
    · rw [if_neg h, List.mem_append, leftTo_mem, List.mem_singleton]
      constructor
      · rintro (⟨i, h1, h2, h3⟩ | rfl)
        · exact ⟨i, by omega, h2, h3⟩
        · exact ⟨k, by omega, rfl, h⟩
      · rintro ⟨i, h1, h2, h3⟩
        rcases Nat.lt_or_ge i k with g | g
        · exact .inl ⟨i, g, h2, h3⟩
        · obtain rfl : i = k := by omega
          exact .inr h2
theorem worstTo_ge {f : Int → Int → Nat} {t : Int} : ∀ {k i : Nat}, i < k → f t i ≤ worstTo f t k
  | k + 1, i, h => by
    unfold worstTo
    rcases Nat.lt_or_ge i k with g | g
    · have := worstTo_ge (f := f) (t := t) g; omega
    · obtain rfl : i = k := by omega
      omega
theorem worstTo_le {f : Int → Int → Nat} {t : Int} {b : Nat} : ∀ {k : Nat}, (∀ i : Nat, i < k → f t i ≤ b) → worstTo f t k ≤ b
  | 0, _ => Nat.zero_le _
  | k + 1, h => by
    have := worstTo_le (f := f) (t := t) (b := b) (k := k) fun i hi => h i (by omega)
    have := h k (by omega)
    unfold worstTo
    omega
end Go.Proofs.Ytigpefjeelgfdaa
namespace Go.Proofs.Ytigpefjeelgfdaa.Eng
open Go.RowKit
section
variable {x : Works} {lo hi lo' hi' : Int}
theorem madeR_wide (h1 : lo ≤ lo') (h2 : hi' ≤ hi) (r : Rec) (h : madeR x lo' hi' r = true) : madeR x lo hi r = true := by
  simp only [madeR, madeB, Bool.and_eq_true, decide_eq_true_eq] at h ⊢
  omega
theorem totN_wide (h1 : lo ≤ lo') (h2 : hi' ≤ hi) : totN x lo' hi' ≤ totN x lo hi := by
  rw [totN_eq, totN_eq]
  exact List.countP_mono_left fun r _ h => madeR_wide h1 h2 r h
theorem plcN_wide (h1 : lo ≤ lo') (h2 : hi' ≤ hi) {t : Int} (ht : -1 ≤ t) (j : Int) : plcN x lo' hi' t j ≤ plcN x lo hi t j := by
  rw [plcN_eq _ _ _ _ _ ht, plcN_eq _ _ _ _ _ ht]
  exact List.countP_mono_left fun r _ h => by
    rw [Bool.and_eq_true] at h ⊢
    exact ⟨madeR_wide h1 h2 r h.1, h.2⟩
theorem plcN_tot {t : Int} (ht : -1 ≤ t) (j : Int) : plcN x lo hi t j ≤ totN x lo hi := by
  rw [plcN_eq _ _ _ _ _ ht, totN_eq]
  exact List.countP_mono_left fun r _ h => by
    rw [Bool.and_eq_true] at h
    exact h.1
theorem left_wide (h1 : lo ≤ lo') (h2 : hi' ≤ hi) {t : Int} (ht : -1 ≤ t) {j : Int} (h : j ∈ leftN x lo' hi' t) : j ∈ leftN x lo hi t := by
  obtain ⟨i, a, b, c⟩ := leftTo_mem.1 h
  have := plcN_wide (x := x) h1 h2 ht (i : Int)
  exact leftTo_mem.2 ⟨i, a, b, by omega⟩
theorem worst_wide (h1 : lo ≤ lo') (h2 : hi' ≤ hi) {t : Int} (ht : -1 ≤ t) : worstAt x lo' hi' t ≤ worstAt x lo hi t := by
  refine worstTo_le fun i hk => ?_
  have := plcN_wide (x := x) h1 h2 ht (i : Int)
  have := worstTo_ge (f := plcN x lo hi) (t := t) hk
  show _ ≤ worstTo _ _ _
  omega
theorem worst_tot {t : Int} (ht : -1 ≤ t) : worstAt x lo hi t ≤ totN x lo hi := worstTo_le fun i _ => plcN_tot ht _
theorem worst_pos (hs : totN x lo hi ≠ 0) {t : Int} (ht : -1 ≤ t) (ht2 : t < x.steps.length) : 1 ≤ worstAt x lo hi t := by
  rw [totN_eq] at hs
  obtain ⟨r, hr, hm⟩ := List.countP_pos_iff.1 (Nat.pos_of_ne_zero hs)
  obtain ⟨_, k, _, k2, k3⟩ := of_has ht ht2 (recs_mem hr)
  have h1 := worstTo_ge (f := plcN x lo hi) (t := t) k2
  have h2 : 0 < plcN x lo hi t k := by
    rw [plcN_eq _ _ _ _ _ ht]
    exact List.countP_pos_iff.2 ⟨r, hr, by rw [hm, k3]; simp⟩
  show 1 ≤ worstTo _ _ _
  omega
/-- How many are left at worst, if one asks what is best. -/
def askLeft (x : Works) (lo hi : Int) : Int := intAt (wlTo x lo hi (x.steps.length + 1)) (askAt x lo hi)
theorem askLeft_min (k : Nat) (hk : k ≤ x.steps.length) : askLeft x lo hi ≤ worstAt x lo hi ((k : Int) - 1) := by
  rw [← wlTo_at x lo hi k (x.steps.length + 1) (by omega)]
  exact leastTo_min _ _ k (by omega)
theorem askLeft_at (x : Works) (lo hi : Int) : ∃ k : Nat, k ≤ x.steps.length ∧ askLeft x lo hi = worstAt x lo hi ((k : Int) - 1) := by
  have h : askAt x lo hi < x.steps.length + 1 := leastTo_lt _ _ (by omega)
  exact ⟨_, by omega, wlTo_at x lo hi _ _ h⟩
theorem ask_wide (h1 : lo ≤ lo') (h2 : hi' ≤ hi) (hs : totN x lo' hi' ≠ 0) : askLeft x lo' hi' ≤ askLeft x lo hi ∧ 1 ≤ askLeft x lo' hi' ∧ askLeft x lo hi ≤ totN x lo hi := by
  obtain ⟨k, k1, k2⟩ := askLeft_at x lo hi
  obtain ⟨j, j1, j2⟩ := askLeft_at x lo' hi'
  have a := askLeft_min (lo := lo') (hi := hi') k k1
  have b := worst_wide (x := x) h1 h2 (t := (k : Int) - 1) (by omega)
  have c := worst_pos hs (t := (j : Int) - 1) (by omega) (by omega)
  have d := worst_tot (x := x) (lo := lo) (hi := hi) (t := (k : Int) - 1) (by omega)
  omega
end
end Go.Proofs.Ytigpefjeelgfdaa.Eng

/-
  Layer 1, plain: what HeatBlamed asks.
-/
namespace Go.Proofs.Ytigpefjeelgfdaa.Eng
open Go.RowKit

theorem tails_of (x : Works) : ∀ (d s : Nat) (ws : List Int), ws.length = d → (∀ i, i < d → ∃ k : Nat, ws[i]? = some (k : Int) ∧ k < (stepAt x.steps (s + i)).length) → ws ∈ tails x d s
  | 0, s, ws, h, _ => by simp [tails, List.length_eq_zero_iff.1 h]
  | d + 1, s, [], h, _ => by simp at h
  | d + 1, s, y :: ws, h, g => by
    obtain ⟨k, k1, k2⟩ := g 0 (by omega)
    simp only [List.getElem?_cons_zero, Option.some.injEq] at k1
    subst k1
    rw [tails_succ, List.mem_flatMap]
    refine ⟨k, by simpa using k2, List.mem_map.2 ⟨ws, tails_of x d (s + 1) ws (by simpa using h) (fun i hi => ?_), rfl⟩⟩
    obtain ⟨k', e1, e2⟩ := g (i + 1) (by omega)
    exact ⟨k', by simpa using e1, by rw [show s + 1 + i = s + (i + 1) by omega]; exact e2⟩
section
variable {x : Works} {m : Nat} {ways hist : List Int} {lo hi : Int}
theorem rec_in (ok : RecOk x m ways) : ((m : Int), ways) ∈ recsTo x x.steps.length := by
  rw [recsTo_tails x _ (Nat.le_refl _), List.mem_flatMap]
  refine ⟨m, by have := ok.bar1; rw [List.mem_range]; omega, List.mem_map.2 ⟨ways, tails_of x _ 0 ways ok.len (fun i hi => ?_), rfl⟩⟩
  have h := ok.ways i (by rw [ok.len]; exact hi)
  simp only [wayIn, decide_eq_true_eq] at h
  have hlt : i < ways.length := by rw [ok.len]; exact hi
  have e : intAt ways i = ways[i] := by simp [intAt, List.getD_eq_getElem?_getD, List.getElem?_eq_getElem hlt]
  rw [e] at h
  obtain ⟨k, hk⟩ := Int.eq_ofNat_of_zero_le h.1
  refine ⟨k, by rw [List.getElem?_eq_getElem hlt, hk], ?_⟩
  rw [Nat.zero_add]
  omega
theorem hist_win (ok : RecOk x m ways) (h : histErr x m ways hist = 0) (hl : hist.length = x.steps.length + 1) (i : Nat) (hi : i < x.steps.length) : (aft (wayOf x ways i) (intAt hist i)).1 ≤ intAt hist (i + 1) ∧ intAt hist (i + 1) ≤ (aft (wayOf x ways i) (intAt hist i)).2 := by
  have hall : allN (histOk x m ways hist) hist.length = true := by
    by_cases g : allN (histOk x m ways hist) hist.length = true
    · exact g
    · have g' : allN (histOk x m ways hist) hist.length = false := by simpa using g
      unfold histErr at h
      rw [if_neg (by simpa using recOk_iff.2 ok), if_neg (by simpa using hl), if_pos g'] at h
      cases h
  have h1 := allN_iff.1 hall (i + 1) (by omega)
  have h2 : inB (intAt hist (i + 1)) (aft (wayOf x ways i) (intAt hist i)).1 (aft (wayOf x ways i) (intAt hist i)).2 = true := h1
  simpa only [inB, decide_eq_true_eq] using h2
theorem blame_made (ok : RecOk x m ways) (h : histErr x m ways hist = 0) (hl : hist.length = x.steps.length + 1) (h1 : lo ≤ intAt hist x.steps.length) (h2 : intAt hist x.steps.length ≤ hi) : madeB x m ways lo hi = true := by
  have := hist_rng ok h hl x.steps.length (Nat.le_refl _)
  simp only [madeB, Bool.and_eq_true, decide_eq_true_eq]
  omega
theorem blame_in (ok : RecOk x m ways) (h : histErr x m ways hist = 0) (hl : hist.length = x.steps.length + 1) (h1 : lo ≤ intAt hist x.steps.length) (h2 : intAt hist x.steps.length ≤ hi) (hany : hadAny x (rowOf x ways (barP x m)) (meas lo hi) = true) : ∀ d s, s + d = x.steps.length →
    (hadE x m ways lo hi s).1 ≤ intAt hist s ∧ intAt hist s ≤ (hadE x m ways lo hi s).2
  | 0, s, hs => by
    obtain rfl : s = x.steps.length := by omega
    have := hist_rng ok h hl x.steps.length (Nat.le_refl _)
    rw [hadE_last ok hany]
    simp only
    omega
  | d + 1, s, hs => by
    have ih := blame_in ok h hl h1 h2 hany d (s + 1) (by omega)
    have hr := hist_rng ok h hl s (by omega)
    have hv := rngN_val ok s (by omega)
    have hw := hist_win ok h hl s (by omega)
    have e : ((intAt hist s).toNat : Int) = intAt hist s := Int.toNat_of_nonneg (by omega)
    have := (hadE_step ok hany (s := s) (by omega) (intAt hist s).toNat).2 (by rw [e]; omega)
    rwa [e] at this
end
section
variable {x : Works} {lo hi : Int}
theorem left_has {r : Rec} (hr : r ∈ recsTo x x.steps.length) (hm : madeR x lo hi r = true) {t : Int} (h1 : -1 ≤ t) (h2 : t < x.steps.length) : ofN r t ∈ leftN x lo hi t := by
  obtain ⟨_, k, k1, k2, k3⟩ := of_has h1 h2 (recs_mem hr)
  refine leftTo_mem.2 ⟨k, k2, k1, ?_⟩
  rw [plcN_eq _ _ _ _ _ h1]
  exact Nat.ne_of_gt (List.countP_pos_iff.2 ⟨r, hr, by rw [hm, k3]; simp⟩)
theorem left_from {t y : Int} (h1 : -1 ≤ t) (h2 : t < x.steps.length) (h : y ∈ leftN x lo hi t) : ∃ r ∈ recsTo x x.steps.length, madeR x lo hi r = true ∧ ofN r t = y := by
  obtain ⟨i, _, rfl, h3⟩ := leftTo_mem.1 h
  rw [plcN_eq _ _ _ _ _ h1] at h3
  obtain ⟨r, hr, hm⟩ := List.countP_pos_iff.1 (Nat.pos_of_ne_zero h3)
  rw [Bool.and_eq_true] at hm
  obtain ⟨_, k, k1, _, k3⟩ := of_has h1 h2 (recs_mem hr)
  refine ⟨r, hr, hm.1, ?_⟩
  have := hm.2
  rw [k3] at this
  rw [k1]
  simpa using this
/-- The recipes among the first k that can have made what was measured. -/
def mkK (x : Works) (lo hi : Int) (k : Nat) : List Rec := ((recsTo x x.steps.length).take k).filter (madeR x lo hi)
theorem mkK_zero (x : Works) (lo hi : Int) : mkK x lo hi 0 = [] := rfl
theorem mkK_yes {k : Nat} {r : Rec} (h : (recsTo x x.steps.length)[k]? = some r) (hm : madeR x lo hi r = true) : mkK x lo hi (k + 1) = mkK x lo hi k ++ [r] := by
  obtain ⟨hk, rfl⟩ := List.getElem?_eq_some_iff.1 h
  rw [mkK, List.take_succ_eq_append_getElem hk, List.filter_append, List.filter_cons, if_pos hm]
  rfl
theorem mkK_no {k : Nat} {r : Rec} (h : (recsTo x x.steps.length)[k]? = some r) (hm : madeR x lo hi r = false) : mkK x lo hi (k + 1) = mkK x lo hi k := by
  obtain ⟨hk, rfl⟩ := List.getElem?_eq_some_iff.1 h
  rw [mkK, List.take_succ_eq_append_getElem hk, List.filter_append, List.filter_cons, if_neg (by simp [hm])]
  simp [mkK]
theorem mkK_all (x : Works) (lo hi : Int) : mkK x lo hi (recsTo x x.steps.length).length = mkN x lo hi := by rw [mkK, List.take_of_length_le (Nat.le_refl _), mkN]
theorem mkK_le (x : Works) (lo hi : Int) (k : Nat) : (mkK x lo hi k).length ≤ (recsTo x x.steps.length).length := by
  refine Nat.le_trans (List.length_filter_le _ _) ?_
  rw [List.length_take]
  exact Nat.min_le_right _ _
/-- What is seen at a step. -/
def seenL (l : List Rec) (t : Int) : List Int := l.map fun r => ofN r t
theorem seen_all {t y : Int} (h1 : -1 ≤ t) (h2 : t < x.steps.length) (h : y ∈ leftN x lo hi t) : y ∈ seenL (mkN x lo hi) t := by
  obtain ⟨r, hr, hm, e⟩ := left_from h1 h2 h
  exact List.mem_map.2 ⟨r, List.mem_filter.2 ⟨hr, hm⟩, e⟩
theorem seenL_app (l : List Rec) (r : Rec) (t : Int) : seenL (l ++ [r]) t = seenL l t ++ [ofN r t] := by simp [seenL]
theorem seenL_one (r : Rec) (t : Int) : seenL [r] t = [ofN r t] := rfl
theorem seenL_len (l : List Rec) (t : Int) : (seenL l t).length = l.length := by simp [seenL]
/-- What is seen at each step. -/
def seenRows (l : List Rec) (n : Nat) : List (List Int) := (List.range (n + 1)).map fun (j : Nat) => seenL l ((j : Int) - 1)
theorem seenRows_len (l : List Rec) (n : Nat) : (seenRows l n).length = n + 1 := by simp [seenRows]
theorem seenRows_get (l : List Rec) {n j : Nat} (h : j ≤ n) : (seenRows l n)[j]? = some (seenL l ((j : Int) - 1)) := by
  rw [seenRows, List.getElem?_map, List.getElem?_range (by omega)]
  rfl
theorem made_any {r : Rec} (hx : worksErr x = 0) (hr : r ∈ recsTo x x.steps.length) (hh : isHardB lo hi = true) : ∃ b : Nat, r.1 = (b : Int) ∧ RecOk x (b : Int) r.2 ∧ agrErr x r.1 r.2 lo hi = if madeR x lo hi r = true then 0 else 17 := by
  obtain ⟨b, hb, e, hw⟩ := recs_mem hr
  have ok := recs_ok hx hb hw
  refine ⟨b, e, ok, ?_⟩
  have hm : madeR x lo hi r = madeB x b r.2 lo hi := by simp [madeR, e]
  rw [hm, ← made_iff ok hh, e]
  exact agrErr_ok ok hh
theorem tot_pos {r : Rec} (hr : r ∈ recsTo x x.steps.length) (hm : madeR x lo hi r = true) : totN x lo hi ≠ 0 := by
  rw [totN_eq]
  exact Nat.ne_of_gt (List.countP_pos_iff.2 ⟨r, hr, hm⟩)
end
end Go.Proofs.Ytigpefjeelgfdaa.Eng

/-
  Layer 1's statements, by the engine: too many recipes; what is left, as rows.
-/
namespace Go.Proofs.Ytigpefjeelgfdaa.Eng
open Go.RowKit

@[simp] theorem listRows_len (l : List (List Int)) : (listRows l).length = l.length := List.length_map _
@[simp] theorem listRows_get (l : List (List Int)) (i : Nat) : (listRows l)[i]? = (l[i]?).map fun r => [intL r] := List.getElem?_map
@[simp] theorem listRows_nil : listRows [] = [] := rfl
@[simp] theorem listRows_app (l m : List (List Int)) : listRows (l ++ m) = listRows l ++ listRows m := List.map_append
@[simp] theorem listRows_one (r : List Int) : listRows [r] = [[intL r]] := rfl
@[simp] theorem listRows_mem (l : List (List Int)) (p : List Dat → Prop) : (∀ r ∈ listRows l, p r) ↔ ∀ n ∈ l, p [intL n] := by simp [listRows]
def leftRows (x : Works) (lo hi : Int) (k : Nat) : List (List Int) := (List.range k).map fun (i : Nat) => leftN x lo hi i
theorem leftRows_succ (x : Works) (lo hi : Int) (k : Nat) : leftRows x lo hi (k + 1) = leftRows x lo hi k ++ [leftN x lo hi k] := by simp [leftRows, List.range_succ]
theorem leftRows_len (x : Works) (lo hi : Int) (k : Nat) : (leftRows x lo hi k).length = k := by simp [leftRows]
set_option maxRecDepth 100000 in
set_option maxHeartbeats 4000000 in
theorem full_c (x : Works) : ACall Try.prog 32 [worksD x] (bD (fullB x)) := by
  have hm := checkWorks_c x
  by_cases g : worksErr x = 0
  · have hf : fullB x = decide (400 < prodTo x x.steps.length) := by simp [fullB, g]
    have hst := bars_few g
    rw [hf]
    rw [g] at hm
    refine acallK tabOk Try.func32 rfl rfl (show 1 ≤ _ by decide) rfl fun _ => ?_; simp only [Try.ntmps32]
    repeat (first | (with_reducible first | refine AWp.seqK fun _ => ?_ | refine AWp.blockK fun _ => ?_ | refine KK.go ?_) | ((first | refine AWp.reg tabOk ?_ | refine AWp.condK fun _ _ => ?_ | refine AWp.draws tabOk (by kernel_rfl) (by kernel_rfl) ?_); simp [-getElem?_pos, z0, z1, z2, ]) | ((first | refine AWp.ret ?_ | refine AWp.skip ?_ | refine AWp.exit ?_); try simp only [thenP]) | (with_reducible refine BB.go ?_; simp only [blockP, thenP, if_true, if_false, reduceIte]) | (with_reducible refine And.intro (show okLog _ _ = true from by kernel_rfl) ?_))
    (first | refine Exec0.call [] hm ?_ rfl ?_ ?_ | refine Exec.call [] hm ?_ rfl ?_ ?_); (focus simp [-getElem?_pos, ]); (focus simp [-getElem?_pos, z0, z1, z2, ]); simp [-getElem?_pos, z0, z1, z2, ]
    repeat (first | (with_reducible first | refine AWp.seqK fun _ => ?_ | refine AWp.blockK fun _ => ?_ | refine KK.go ?_) | ((first | refine AWp.reg tabOk ?_ | refine AWp.condK fun _ _ => ?_ | refine AWp.draws tabOk (by kernel_rfl) (by kernel_rfl) ?_); simp [-getElem?_pos, z0, z1, z2, ]) | ((first | refine AWp.ret ?_ | refine AWp.skip ?_ | refine AWp.exit ?_); try simp only [thenP]) | (with_reducible refine BB.go ?_; simp only [blockP, thenP, if_true, if_false, reduceIte]) | (with_reducible refine And.intro (show okLog _ _ = true from by kernel_rfl) ?_))
    refine AWp.loopK (ι := { k : Nat // k ≤ x.steps.length }) (n := 1) (fun k => [(1, .ptr 0 0 0), (3, .d (iD (prodTo x k.1))), (4, .d (iD k.1))]) (fun _ => [(0, .box 25 [.d (.list (rgRows x.bars)), .d (.list (stepRows x.steps))] false)]) (fun k => x.steps.length - k.1) ⟨0, Nat.zero_le _⟩ [0] ?_ ?_
    · refine ⟨by rfl, by simp [prodTo], by simp [or_imp, forall_and, prodTo] <;> (try (intro _hne; simp [_hne])), by decide⟩
    rintro ⟨k, hk⟩ kk
    have w1 : IntKind.i64.wrap ((k : Int) + 1) = (k : Int) + 1 := wrap64_in (by omega)
    by_cases hlt : k < x.steps.length
    · obtain ⟨ws, hws⟩ : ∃ ws, x.steps[k]? = some ws := ⟨_, List.getElem?_eq_getElem hlt⟩
      have hpk : prodTo x (k + 1) = prodTo x k * ws.length := by rw [prodTo, stepAt_of (Lib.hid hws)]
      have hpf := prod_few g (i := k + 1) (by omega)
      have w2 : IntKind.i64.wrap ((prodTo x k : Int) * (ws.length : Int)) = (prodTo x (k + 1) : Int) := by
        rw [← Int.natCast_mul, ← hpk]
        exact wrap64_in (by omega)
      generalize hpp : prodTo x (k + 1) = pp at *
      repeat (first | (with_reducible first | refine AWp.seqK fun _ => ?_ | refine AWp.blockK fun _ => ?_ | refine KK.go ?_) | ((first | refine AWp.reg tabOk ?_ | refine AWp.condK fun _ _ => ?_ | refine AWp.draws tabOk (by kernel_rfl) (by kernel_rfl) ?_); simp [-getElem?_pos, z0, z1, z2, hlt, hws, w1, w2]) | ((first | refine AWp.ret ?_ | refine AWp.skip ?_ | refine AWp.exit ?_); try simp only [thenP]) | (with_reducible refine BB.go ?_; simp only [blockP, thenP, if_true, if_false, reduceIte]) | (with_reducible refine And.intro (show okLog _ _ = true from by kernel_rfl) ?_))
      refine LL.go ⟨k + 1, hlt⟩ [0] ⟨by rfl, by simp [hpp], by simp [or_imp, forall_and, hpp] <;> (try (intro _hne; simp [_hne])), by decide⟩ ?_
      simp; omega
    · obtain rfl : k = x.steps.length := by omega
      repeat (first | (with_reducible first | refine AWp.seqK fun _ => ?_ | refine AWp.blockK fun _ => ?_ | refine KK.go ?_) | ((first | refine AWp.reg tabOk ?_ | refine AWp.condK fun _ _ => ?_ | refine AWp.draws tabOk (by kernel_rfl) (by kernel_rfl) ?_); simp [-getElem?_pos, z0, z1, z2, hlt]) | ((first | refine AWp.ret ?_ | refine AWp.skip ?_ | refine AWp.exit ?_); try simp only [thenP]) | (with_reducible refine BB.go ?_; simp only [blockP, thenP, if_true, if_false, reduceIte]) | (with_reducible refine And.intro (show okLog _ _ = true from by kernel_rfl) ?_))
      (first | refine RR.ret ?_ | refine RR.normal ?_); simp []
      omega
  · have hf : fullB x = false := by simp [fullB, g]
    rw [hf]
    generalize worksErr x = e at *
    refine acallK tabOk Try.func32 rfl rfl (show 1 ≤ _ by decide) rfl fun _ => ?_; simp only [Try.ntmps32]
    repeat (first | (with_reducible first | refine AWp.seqK fun _ => ?_ | refine AWp.blockK fun _ => ?_ | refine KK.go ?_) | ((first | refine AWp.reg tabOk ?_ | refine AWp.condK fun _ _ => ?_ | refine AWp.draws tabOk (by kernel_rfl) (by kernel_rfl) ?_); simp [-getElem?_pos, z0, z1, z2, g]) | ((first | refine AWp.ret ?_ | refine AWp.skip ?_ | refine AWp.exit ?_); try simp only [thenP]) | (with_reducible refine BB.go ?_; simp only [blockP, thenP, if_true, if_false, reduceIte]) | (with_reducible refine And.intro (show okLog _ _ = true from by kernel_rfl) ?_))
    (first | refine Exec0.call [] hm ?_ rfl ?_ ?_ | refine Exec.call [] hm ?_ rfl ?_ ?_); (focus simp [-getElem?_pos, ]); (focus simp [-getElem?_pos, z0, z1, z2, ]); simp [-getElem?_pos, z0, z1, z2, ]
    repeat (first | (with_reducible first | refine AWp.seqK fun _ => ?_ | refine AWp.blockK fun _ => ?_ | refine KK.go ?_) | ((first | refine AWp.reg tabOk ?_ | refine AWp.condK fun _ _ => ?_ | refine AWp.draws tabOk (by kernel_rfl) (by kernel_rfl) ?_); simp [-getElem?_pos, z0, z1, z2, g]) | ((first | refine AWp.ret ?_ | refine AWp.skip ?_ | refine AWp.exit ?_); try simp only [thenP]) | (with_reducible refine BB.go ?_; simp only [blockP, thenP, if_true, if_false, reduceIte]) | (with_reducible refine And.intro (show okLog _ _ = true from by kernel_rfl) ?_))
    (first | refine RR.ret ?_ | refine RR.normal ?_); simp []
end Go.Proofs.Ytigpefjeelgfdaa.Eng

/-
  Layer 1, plain: what HeatParted asks: a works cut in two behind its first steps.
-/
namespace Go.Proofs.Ytigpefjeelgfdaa
open Go.RowKit

/-- The first k steps; and the others, with a bar of one range. -/
def firstW (x : Works) (k : Nat) : Works := ⟨x.bars, x.steps.take k⟩
def restW (x : Works) (k : Nat) (r : Rg) : Works := ⟨[r], x.steps.drop k⟩
theorem manyOk_iff {x : Works} : manyOk x = true ↔ 1 ≤ x.bars.length ∧ x.bars.length ≤ 6 ∧ x.steps.length ≤ 6 ∧ ∀ ws ∈ x.steps, waysMany ws = true := by
  simp only [manyOk, Bool.and_eq_true, Bool.not_eq_true', decide_eq_false_iff_not, List.all_eq_true]
  constructor
  · rintro ⟨h1, h2⟩
    exact ⟨by omega, by omega, by omega, h2⟩
  · rintro ⟨h1, h2, h3, h4⟩
    exact ⟨by omega, h4⟩
theorem firstW_ok {x : Works} (h : worksErr x = 0) (k : Nat) : worksErr (firstW x k) = 0 := by
  obtain ⟨h1, h2, h3⟩ := worksOk_iff.1 h
  obtain ⟨a1, a2, a3, a4⟩ := manyOk_iff.1 h1
  refine worksOk_iff.2 ⟨manyOk_iff.2 ⟨a1, a2, ?_, fun ws hw => a4 ws (List.mem_of_mem_take hw)⟩, h2, List.all_eq_true.2 fun ws hw => List.all_eq_true.1 h3 ws (List.mem_of_mem_take hw)⟩
  simp only [firstW, List.length_take]
  omega
theorem restW_ok {x : Works} (h : worksErr x = 0) (k : Nat) {r : Rg} (hr : isHardB r.1 r.2 = true) : worksErr (restW x k r) = 0 := by
  obtain ⟨h1, h2, h3⟩ := worksOk_iff.1 h
  obtain ⟨a1, a2, a3, a4⟩ := manyOk_iff.1 h1
  refine worksOk_iff.2 ⟨manyOk_iff.2 ⟨by simp [restW], by simp [restW], ?_, fun ws hw => a4 ws (List.mem_of_mem_drop hw)⟩, List.all_eq_true.2 fun a ha => ?_, List.all_eq_true.2 fun ws hw => List.all_eq_true.1 h3 ws (List.mem_of_mem_drop hw)⟩
  · simp only [restW, List.length_drop]
    omega
  · simp only [restW, List.mem_cons, List.not_mem_nil, or_false] at ha
    subst ha
    exact hr
theorem restW_fine {x : Works} (h : fineB x = true) (k : Nat) {r : Rg} (hr : isHardB r.1 r.2 = true) : fineB (restW x k r) = true := by
  have h0 := restW_ok (fineB_works h) k hr
  simp only [fineB, Bool.and_eq_true, Bool.not_eq_true', decide_eq_true_eq] at h ⊢
  refine ⟨?_, h0⟩
  obtain ⟨h1, -⟩ := h
  simp only [greatB, Bool.or_eq_false_iff, decide_eq_false_iff_not, Bool.not_eq_false', List.all_eq_true] at h1 ⊢
  refine ⟨⟨by simp [restW], ?_⟩, fun ws hw => h1.2 ws (List.mem_of_mem_drop hw)⟩
  have := h1.1.2
  simp only [restW, List.length_drop]
  omega
section
variable {x : Works} {m : Nat} {ways hist : List Int} {k : Nat}
theorem intAt_take {l : List Int} {i : Nat} (hi : i < k) : intAt (l.take k) i = intAt l i := by
  simp only [intAt, List.getD_eq_getElem?_getD, List.getElem?_take, if_pos hi]
theorem intAt_drop (l : List Int) (k i : Nat) : intAt (l.drop k) i = intAt l (k + i) := by
  simp only [intAt, List.getD_eq_getElem?_getD, List.getElem?_drop]
theorem stepAt_take {l : List (List (List Kink))} {i : Nat} (hi : i < k) : stepAt (l.take k) i = stepAt l i := by
  simp only [stepAt, List.getD_eq_getElem?_getD, List.getElem?_take, if_pos hi]
theorem stepAt_drop (l : List (List (List Kink))) (k i : Nat) : stepAt (l.drop k) i = stepAt l (k + i) := by
  simp only [stepAt, List.getD_eq_getElem?_getD, List.getElem?_drop]
theorem first_rec (ok : RecOk x m ways) (hk : k ≤ x.steps.length) : RecOk (firstW x k) m (ways.take k) := by
  have hl := ok.len
  refine ⟨firstW_ok ok.works k, by simp only [firstW, List.length_take]; omega, ok.bar0, ok.bar1, fun i hi => ?_⟩
  rw [List.length_take] at hi
  have h1 := ok.ways i (by omega)
  simp only [wayIn, decide_eq_true_eq] at h1 ⊢
  simp only [firstW]
  rw [intAt_take (by omega), stepAt_take (by omega)]
  exact h1
theorem rest_rec (ok : RecOk x m ways) {r : Rg} (hr : isHardB r.1 r.2 = true) : RecOk (restW x k r) ((0 : Nat) : Int) (ways.drop k) := by
  have hl := ok.len
  refine ⟨restW_ok ok.works k hr, by simp only [restW, List.length_drop]; omega, by omega, by simp [restW], fun i hi => ?_⟩
  rw [List.length_drop] at hi
  have h1 := ok.ways (k + i) (by omega)
  simp only [wayIn, decide_eq_true_eq] at h1 ⊢
  simp only [restW]
  rw [intAt_drop, stepAt_drop]
  exact h1
theorem wayOf_first {i : Nat} (hi : i < k) : wayOf (firstW x k) (ways.take k) i = wayOf x ways i := by
  simp only [wayOf, firstW]
  rw [intAt_take hi, stepAt_take hi]
theorem wayOf_rest (x : Works) (ways : List Int) (k : Nat) (r : Rg) (i : Nat) : wayOf (restW x k r) (ways.drop k) i = wayOf x ways (k + i) := by
  simp only [wayOf, restW]
  rw [intAt_drop, stepAt_drop]
theorem rng_first : ∀ i, i ≤ k → rngN (firstW x k) m (ways.take k) i = rngN x m ways i
  | 0, _ => rfl
  | i + 1, hi => by
    show ((aft (wayOf (firstW x k) (ways.take k) i) (rngN (firstW x k) m (ways.take k) i).1).1, (aft (wayOf (firstW x k) (ways.take k) i) (rngN (firstW x k) m (ways.take k) i).2).2) = _
    rw [rng_first i (by omega), wayOf_first (by omega)]
    rfl
theorem rng_rest (x : Works) (m : Nat) (ways : List Int) (k : Nat) : ∀ i, rngN (restW x k (rngN x m ways k)) 0 (ways.drop k) i = rngN x m ways (k + i)
  | 0 => rfl
  | i + 1 => by
    show ((aft (wayOf (restW x k (rngN x m ways k)) (ways.drop k) i) (rngN (restW x k (rngN x m ways k)) 0 (ways.drop k) i).1).1, (aft (wayOf (restW x k (rngN x m ways k)) (ways.drop k) i) (rngN (restW x k (rngN x m ways k)) 0 (ways.drop k) i).2).2) = _
    rw [rng_rest x m ways k i, wayOf_rest]
    rfl
theorem rngs_first (hk : k ≤ x.steps.length) : rngsOf (firstW x k) m (ways.take k) = (rngsOf x m ways).take (k + 1) := by
  apply List.ext_getElem?
  intro i
  have hl : (firstW x k).steps.length = k := by simp only [firstW, List.length_take]; omega
  rw [List.getElem?_take]
  by_cases h : i < k + 1
  · rw [if_pos h, rngsOf_at (by omega), rngsOf_at (by omega), rng_first i (by omega)]
  · rw [if_neg h, List.getElem?_eq_none (by rw [rngsOf_len]; omega)]
theorem rngs_rest (hk : k ≤ x.steps.length) : rngsOf (restW x k (rngN x m ways k)) ((0 : Nat) : Int) (ways.drop k) = (rngsOf x m ways).drop k := by
  apply List.ext_getElem?
  intro i
  have hl : (restW x k (rngN x m ways k)).steps.length = x.steps.length - k := by simp only [restW, List.length_drop]
  rw [List.getElem?_drop]
  by_cases h : i ≤ x.steps.length - k
  · rw [rngsOf_at (by omega), rngsOf_at (by omega), rng_rest]
  · rw [List.getElem?_eq_none (by rw [rngsOf_len]; omega), List.getElem?_eq_none (by rw [rngsOf_len]; omega)]
theorem hist_all (ok : RecOk x m ways) (h : histErr x m ways hist = 0) (hl : hist.length = x.steps.length + 1) : ∀ i, i ≤ x.steps.length → histOk x m ways hist i = true := by
  have hall : allN (histOk x m ways hist) hist.length = true := by
    by_cases g : allN (histOk x m ways hist) hist.length = true
    · exact g
    · have g' : allN (histOk x m ways hist) hist.length = false := by simpa using g
      unfold histErr at h
      rw [if_neg (by simpa using recOk_iff.2 ok), if_neg (by simpa using hl), if_pos g'] at h
      cases h
  intro i hi
  exact allN_iff.1 hall i (by omega)
theorem first_hist (ok : RecOk x m ways) (h : histErr x m ways hist = 0) (hl : hist.length = x.steps.length + 1) (hk : k ≤ x.steps.length) : histErr (firstW x k) m (ways.take k) (hist.take (k + 1)) = 0 := by
  have hls : (firstW x k).steps.length = k := by simp only [firstW, List.length_take]; omega
  refine histErr_ok (recOk_iff.2 (first_rec ok hk)) (by rw [hls, List.length_take]; omega) (allN_iff.2 fun i hi => ?_)
  rw [List.length_take] at hi
  have h1 := hist_all ok h hl i (by omega)
  rcases i with _ | i
  · simp only [histOk, within] at h1 ⊢
    rw [intAt_take (by omega)]
    exact h1
  · simp only [histOk, within] at h1 ⊢
    rw [intAt_take (by omega), intAt_take (by omega), wayOf_first (by omega)]
    exact h1
theorem rest_hist (ok : RecOk x m ways) (h : histErr x m ways hist = 0) (hl : hist.length = x.steps.length + 1) (hk : k ≤ x.steps.length) : histErr (restW x k (rngN x m ways k)) ((0 : Nat) : Int) (ways.drop k) (hist.drop k) = 0 := by
  have hls : (restW x k (rngN x m ways k)).steps.length = x.steps.length - k := by simp only [restW, List.length_drop]
  have hv := rngN_val ok k hk
  refine histErr_ok (recOk_iff.2 (rest_rec ok (isHardB_iff.2 hv))) (by rw [hls, List.length_drop]; omega) (allN_iff.2 fun i hi => ?_)
  rw [List.length_drop] at hi
  rcases i with _ | i
  · have h2 := hist_rng ok h hl k hk
    simp only [histOk, within]
    rw [intAt_drop]
    simp only [inB, decide_eq_true_eq, Nat.add_zero]
    exact h2
  · have h1 := hist_all ok h hl (k + i + 1) (by omega)
    simp only [histOk, within] at h1 ⊢
    rw [intAt_drop, intAt_drop, wayOf_rest]
    exact h1
end
end Go.Proofs.Ytigpefjeelgfdaa

/-
  Layer 1's statements, by the engine: what HeatBlamed calls.
-/
namespace Go.Proofs.Ytigpefjeelgfdaa.Eng
open Go.RowKit

theorem wcall4 {f : FuncId} {fn : Func} (hf : Try.prog.funcs[f]? = some fn) (hn : (fn.name == "runtime.NumGoroutine") = false) (hb : fn.body.isNone = false) {a b c d r : Dat} (h : ∀ w v u t y, RepD (· < w.heap.size) w a v → RepD (· < w.heap.size) w b u → RepD (· < w.heap.size) w c t → RepD (· < w.heap.size) w d y → Calls Try.prog f #[v, u, t, y] w (Ans r w)) : WCall Try.prog f [a, b, c, d] r :=
  ⟨callable_of hf hn hb, fun w vs hs hr => by
    obtain ⟨l⟩ := vs
    match l, hs with
    | [v, u, t, y], _ => exact h w v u t y (hr 0 a v rfl rfl) (hr 1 b u rfl rfl) (hr 2 c t rfl rfl) (hr 3 d y rfl rfl)⟩
set_option maxRecDepth 100000 in
set_option maxHeartbeats 4000000 in
theorem rg_c (lo hi : Int) : ACall Try.prog 48 [iD lo, iD hi] (rgD lo hi) := by
  refine acallK tabOk Try.func48 rfl rfl (show 2 ≤ _ by decide) rfl fun _ => ?_; simp only [Try.ntmps48]
  repeat (first | (with_reducible first | refine AWp.seqK fun _ => ?_ | refine AWp.blockK fun _ => ?_ | refine KK.go ?_) | ((first | refine AWp.reg tabOk ?_ | refine AWp.condK fun _ _ => ?_ | refine AWp.draws tabOk (by kernel_rfl) (by kernel_rfl) ?_); simp [-getElem?_pos, z0, z1, z2, ]) | ((first | refine AWp.ret ?_ | refine AWp.skip ?_ | refine AWp.exit ?_); try simp only [thenP]) | (with_reducible refine BB.go ?_; simp only [blockP, thenP, if_true, if_false, reduceIte]) | (with_reducible refine And.intro (show okLog _ _ = true from by kernel_rfl) ?_))
  (first | refine RR.ret ?_ | refine RR.normal ?_); simp []
theorem refIn_c (n lo hi : Int) : ACall Try.prog 46 [iD n, rgD lo hi] (bD (inB n lo hi)) :=
  (wcall2 Try.func46 rfl rfl fun w v u hv hu => by
    obtain rfl := iD_inv hv
    obtain rfl := rg_of hu
    exact (refIn_any n lo hi w).mono fun e w' h => ans_val rfl h).strong (.val _)
theorem agrees_c {x : Works} {m : Nat} {ways hist : List Int} {lo hi : Int} (ok : RecOk x m ways) (h : histErr x m ways hist = 0) (hl : hist.length = x.steps.length + 1) (hin : inB (intAt hist x.steps.length) lo hi = true) :
    ACall Try.prog 31 [worksD x, recD m ways, intL hist, rgD lo hi] (bD true) :=
  (wcall4 Try.func31 rfl rfl fun w v u t y hv hu ht hy => by
    obtain ⟨Ab, cb, As, cs, Ar, cr, rfl, rfl, hI⟩ := in_of2 hv hu
    obtain ⟨A, ca, rfl, a1, a2, a3⟩ := ints_of (fun _ h => h) ht
    obtain rfl := rg_of hy
    exact (agrees_true Ab As Ar A cb cs cr ca x m ways hist lo hi _ w hI a3 a1 a2 (Lib.hid (recOk_iff.2 ok)) (Lib.hid hl) (Lib.hid h) (Lib.hid hin)).mono fun e w' h => ans_val rfl h).strong (.val _)
theorem someE_is {x : Works} {lo hi : Int} (h : makErr x lo hi = 0) : someErr x lo hi = if totN x lo hi = 0 then 17 else 0 := by simp [someErr, h]
theorem left_short {x : Works} (h : worksErr x = 0) (lo hi : Int) {t : Int} (h1 : -1 ≤ t) (h2 : t < x.steps.length) : (leftN x lo hi t).length ≤ 1000 := by
  have hm := manyOk_iff.1 (worksOk_iff.1 h).1
  have := leftTo_length (plcN x lo hi) t (nCh x t)
  have hn : nCh x t ≤ 1000 := by
    unfold nCh
    split
    · omega
    · obtain ⟨i, rfl⟩ := Int.eq_ofNat_of_zero_le (show 0 ≤ t by omega)
      rw [Int.toNat_natCast]
      obtain ⟨ws, hws⟩ : ∃ ws, x.steps[i]? = some ws := ⟨_, List.getElem?_eq_getElem (by omega)⟩
      have hwm := hm.2.2.2 ws (List.mem_of_getElem? hws)
      have e : stepAt x.steps i = ws := by simp [stepAt, List.getD_eq_getElem?_getD, hws]
      rw [e]
      simp only [waysMany, Bool.and_eq_true, decide_eq_true_eq, Bool.not_eq_true', decide_eq_false_iff_not] at hwm
      omega
  exact Nat.le_trans this hn
theorem leftRows_is {x : Works} {lo hi : Int} {k n : Nat} (h : k < n) : (leftRows x lo hi n)[k]? = some (leftN x lo hi k) := by
  unfold leftRows
  rw [List.getElem?_map, List.getElem?_range h]
  rfl
/-- What is known of a recipe that can have made what was measured. -/
theorem blame_yes {x : Works} {lo hi : Int} (hx : worksErr x = 0) (hh : isHardB lo hi = true) {k : Nat} {r : Rec} (hr : (recsTo x x.steps.length)[k]? = some r) (hm : madeR x lo hi r = true) :
    ACall Try.prog 30 [worksD x, recD r.1 r.2, rgD lo hi] (.tup [.list (iRows (histVals x r.1 r.2 lo hi)), iD 0]) ∧ ACall Try.prog 31 [worksD x, recD r.1 r.2, intL (histVals x r.1 r.2 lo hi), rgD lo hi] (bD true) ∧
      ACall Try.prog 49 [intL (leftN x lo hi (-1)), iD r.1] (bD true) ∧ mkK x lo hi (k + 1) = mkK x lo hi k ++ [r] ∧ r.2.length = x.steps.length ∧
      ∀ i, i < x.steps.length → (leftRows x lo hi x.steps.length)[i]? = some (leftN x lo hi i) ∧ r.2[i]? = some (ofN r i) ∧ ACall Try.prog 49 [intL (leftN x lo hi i), iD (ofN r i)] (bD true) := by
  have hmem := List.mem_of_getElem? hr
  obtain ⟨b, e, ok, ha⟩ := made_any hx hmem hh
  rw [if_pos hm] at ha
  have hany : hadAny x (rowOf x r.2 (barP x b)) (meas lo hi) = true := by
    rw [made_iff ok hh]
    have hm2 := hm
    rw [madeR, e, Int.toNat_natCast] at hm2
    exact hm2
  obtain ⟨v1, v2⟩ := histVals_ok ok hany
  have h1 := history_c x r.1 r.2 lo hi
  rw [ha] at h1
  have hl : (histVals x r.1 r.2 lo hi).length = x.steps.length + 1 := by simp [histVals]
  refine ⟨h1, ?_, ?_, mkK_yes hr hm, ok.len, fun i hi' => ⟨leftRows_is hi', ?_, ?_⟩⟩
  · rw [e] at hl ⊢
    exact agrees_c ok v1 hl v2
  · have i1 := in_c (leftN x lo hi (-1)) r.1 (left_short hx lo hi (by omega) (by omega))
    have := left_has hmem hm (t := -1) (by omega) (by omega)
    rw [show ofN r (-1) = r.1 from rfl] at this
    rwa [decide_eq_true this] at i1
  · have hlt : i < r.2.length := by rw [ok.len]; exact hi'
    have h0 : ¬ (i : Int) < 0 := by omega
    simp [ofN, h0, List.getD_eq_getElem?_getD, List.getElem?_eq_getElem hlt]
  · have i1 := in_c (leftN x lo hi i) (ofN r i) (left_short hx lo hi (by omega) (by omega))
    rwa [decide_eq_true (left_has hmem hm (t := (i : Int)) (by omega) (by omega))] at i1
theorem blame_no {x : Works} {lo hi : Int} (hx : worksErr x = 0) (hh : isHardB lo hi = true) {k : Nat} {r : Rec} (hr : (recsTo x x.steps.length)[k]? = some r) (hm : madeR x lo hi r = false) :
    ACall Try.prog 30 [worksD x, recD r.1 r.2, rgD lo hi] (.tup [.list [], iD 17]) ∧ mkK x lo hi (k + 1) = mkK x lo hi k := by
  obtain ⟨b, e, ok, ha⟩ := made_any hx (List.mem_of_getElem? hr) hh
  rw [if_neg (by simp [hm])] at ha
  have h1 := history_c x r.1 r.2 lo hi
  rw [ha] at h1
  exact ⟨h1, mkK_no hr hm⟩
end Go.Proofs.Ytigpefjeelgfdaa.Eng

/-
  The engine, part V: a row of cells that may hold anything becomes a row of data. No program is named here.
-/
namespace Go.Proofs.Ytigpefjeelgfdaa.Eng
open Go.RowKit
variable {P : Program} {T : Tab} {tp : Bool} {W0 : Fix} {R0 : Nat → Prop} {ns : Nat} {D : Nat → Prop} {s : St} {E : Env} {a : Act} {w : World}

/-- What is told of an own block, told otherwise. -/
theorem Sim.review (h : Sim W0 R0 ns D s E a w) {i : Nat} {b b' : Blk} (hi : s.mem i = some b) (hh : Holds E w (E.home i) b') (hf : b'.frz = b.frz) : Sim W0 R0 ns D { s with mem := setMem s.mem i (some b') } E a w := by
  have e : ∀ {k c}, setMem s.mem i (some b') k = some c → (k = i ∧ c = b') ∨ (k ≠ i ∧ s.mem k = some c) := fun {k c} hk => by
    unfold setMem at hk
    split at hk
    · rename_i e; cases hk; exact .inl ⟨e, rfl⟩
    · rename_i e; exact .inr ⟨e, hk⟩
  have e' : ∀ {k c}, setMem s.mem i (some b') k = some c → ∃ c0, s.mem k = some c0 := fun {k c} hk => by
    rcases e hk with ⟨rfl, _⟩ | ⟨_, hk⟩
    · exact ⟨b, hi⟩
    · exact ⟨c, hk⟩
  refine { h with live := fun k c hk => ?_, mem := fun k c hk => ?_, base := fun k c hk => ?_, frz := fun k c hk => ?_, inj := fun k j c c' hk hj hn => ?_ }
  · obtain ⟨c0, hk⟩ := e' hk; exact h.live k c0 hk
  · rcases e hk with ⟨rfl, rfl⟩ | ⟨_, hk⟩
    · exact hh
    · exact h.mem k c hk
  · obtain ⟨c0, hk⟩ := e' hk; exact h.base k c0 hk
  · rcases e hk with ⟨rfl, rfl⟩ | ⟨_, hk⟩
    · rw [hf]; exact h.frz k b hi
    · exact h.frz k c hk
  · obtain ⟨c0, hk⟩ := e' hk
    obtain ⟨c1, hj⟩ := e' hj
    exact h.inj k j c0 c1 hk hj hn
theorem Sim.shutL (h : Sim W0 R0 ns D s E a w) {t id k : Nat} {ty : TypeId} {cells : List SV} {ds : List Dat} {is : List Nat} (hs : s.slots t = .lin id k) (hm : s.mem id = some (.box ty cells false)) (he : escL s.mem cells = some (ds, is)) (hk : cells.length = k) (hk2 : k ≤ maxLen) :
    ∃ E', Sim W0 R0 ns D { slots := setSlot s.slots (some t) (.own id k 1), mem := setMem (frzM s.mem is) id (some (.row ty 1 (ds.map fun d => [d]) false)) } E' a w := by
  subst hk
  obtain ⟨E1, e1, e2, e3, e4, e5⟩ := h.freezes is (escL_ids he)
  have hnid : id ∉ is := fun hh => by
    obtain ⟨_, _, _, _, hr⟩ := escL_ids he id hh
    rw [hm] at hr
    cases hr
  have hm1 : frzM s.mem is id = some (.box ty cells false) := (frzM_far hnid).trans hm
  have hd := escL_rep (m0 := s.mem) (m := frzM s.mem is) (fun i t z rows f hh => frzM_row hh) (fun i b hb => e2.mem i b hb) he e3
  have hlin := e2.slot t
  have hlin2 : Rep E1 w (.lin id cells.length) (if t < ns then a.tmps.getD t undef else W0.g t) := by
    have := hlin
    simp only [hs] at this
    exact this
  obtain ⟨u, hu⟩ : ∃ u, (if t < ns then a.tmps.getD t undef else W0.g t) = u := ⟨_, rfl⟩
  rw [hu] at hlin2
  cases hlin2 with
  | lin _ _ q1 q2 q3 =>
  refine ⟨E1, ?_⟩
  have h2 : Sim W0 R0 ns D { s with mem := setMem (frzM s.mem is) id (some (.row ty 1 (ds.map fun d => [d]) false)) } E1 a w := by
    refine e2.review hm1 ?_ rfl
    cases e2.mem id _ hm1 with
    | box _ _ _ cur h1 h2 h3 h4 =>
      refine .row ty 1 _ false cur h1 q2 (by rw [q3, h2, Nat.mul_one]) (by simp [q3, hd.1]) (by rw [q3]; exact hk2) (by simp) (fun r hr c hc => ?_) fun i j r c v hr hc hv => ?_
      · obtain ⟨d, hd', rfl⟩ := List.mem_map.1 hr
        rw [List.mem_singleton] at hc
        subst hc
        obtain ⟨n, hn, rfl⟩ := List.getElem_of_mem hd'
        have hn1 : n < cells.length := by have := hd.1; omega
        have hn2 : n < cur.size := by omega
        exact (hd.2 n _ _ _ (List.getElem?_eq_getElem hn1) (List.getElem?_eq_getElem hn) (h4 n _ _ (List.getElem?_eq_getElem hn1) (Array.getElem?_eq_getElem hn2))).2 (h3 _ (List.getElem_mem hn1))
      · rw [List.getElem?_map, Option.map_eq_some_iff] at hr
        obtain ⟨d, hd', rfl⟩ := hr
        have hj : j = 0 := by have := (List.getElem?_eq_some_iff.1 hc).1; simpa using this
        subst hj
        simp only [List.getElem?_cons_zero, Option.some.injEq] at hc
        subst hc
        rw [Nat.mul_one, Nat.add_zero] at hv
        have hn1 : i < cells.length := by have := (List.getElem?_eq_some_iff.1 hd').1; have := hd.1; omega
        exact (hd.2 i _ _ _ (List.getElem?_eq_getElem hn1) hd' (h4 i _ _ (List.getElem?_eq_getElem hn1) hv)).1
  refine { h2 with slot := fun t' => ?_ }
  simp only [setSlot]
  by_cases c : t' = t
  · subst c
    rw [if_pos rfl, hu]
    have := Rep.own (E := E1) (w := w) id cells.length 1 q1 q2
    rwa [q3] at this
  · rw [if_neg c]
    exact h2.slot t'
theorem AWp.shutL {c : Code} {n : Nat} {Q : Post} (t id k : Nat) {ty : TypeId} {cells : List SV} {ds : List Dat} {is : List Nat} (hs : s.slots t = .lin id k) (hm : s.mem id = some (.box ty cells false)) (he : escL s.mem cells = some (ds, is)) (hk : cells.length = k) (hk2 : k ≤ maxLen)
    (h : AWp P tp ns c n { slots := setSlot s.slots (some t) (.own id k 1), mem := setMem (frzM s.mem is) id (some (.row ty 1 (ds.map fun d => [d]) false)) } Q) : AWp P tp ns c n s Q := fun W0 R0 E a w ht hs' => by
  obtain ⟨E', h2⟩ := hs'.shutL hs hm he hk hk2
  exact h W0 R0 E' a w ht h2
end Go.Proofs.Ytigpefjeelgfdaa.Eng

/-
  Layer 1's statements, by the engine: who is to blame.
-/
namespace Go.Proofs.Ytigpefjeelgfdaa.Eng
open Go.RowKit

/-- Some of the rules, under short names. -/
theorem mixed_on : Try.prog.follows .mixedOrders = true := by kernel_rfl
section
variable {P : Program} {tp : Bool} {ns : Nat}
theorem g1 {x y : Code} {n : Nat} {s : St} {Q : Post} (h : ∀ k : KK P tp ns y Q, AWp P tp ns x n s (thenP k.K Q)) : AWp P tp ns (.seq x y) n s Q := AWp.seqK h
theorem g2 {id n : Nat} {c : Code} {s : St} {Q : Post} (h : ∀ b : BB id Q, AWp P tp ns c n s b.B) : AWp P tp ns (.block id c) n s Q := AWp.blockK h
theorem g3 {y : Code} {Q : Post} {k : KK P tp ns y Q} {n : Nat} {s : St} (h : AWp P tp ns y n s Q) : k.K n s := KK.go h
theorem g5 {c : Operand} {x y : Code} {n : Nat} {s : St} {Q : Post} (h : ∀ (kx : KK P tp ns x Q) (ky : KK P tp ns y Q), CondG (opd ns s c) (kx.K n s) (ky.K n s)) : AWp P tp ns (.cond c x y) n s Q := AWp.condK h
theorem g7 {id : Nat} {Q : Post} {b : BB id Q} {e : Exit} {n : Nat} {s : St} (h : blockP id Q e n s) : b.B e n s := BB.go h
end
theorem g4 {tp : Bool} {ns id n : Nat} {l : List Oper} {s : St} {Q : Post} (h : Exec0 Try.prog tp TB l.toArray ns n l s (fun s' => Q .normal (n + l.length) s')) : AWp Try.prog tp ns (.region id l.toArray false) n s Q := AWp.reg tabOk h
theorem g6 {tp : Bool} {ns id n : Nat} {l : List Oper} {s : St} {Q : Post} (h : Exec Try.prog TB l.toArray ns n l s [] (fun s' log => okLog l log = true ∧ Q .normal (n + l.length) s')) (hB : backB l.toArray = true := by kernel_rfl) : AWp Try.prog tp ns (.region id l.toArray true) n s Q := AWp.draws tabOk mixed_on hB h
theorem g8 {l : List Oper} {log : List Foot} {q : Prop} (h : q) (hl : okLog l log = true := by kernel_rfl) : okLog l log = true ∧ q := ⟨hl, h⟩
/-- What is left of a function's code behind some statements. -/
def tailO : Nat → Code → Option Code
  | 0, c => some c
  | n + 1, .seq _ b => tailO n b
  | _ + 1, _ => none
abbrev bW (x : Works) : Blk := .box 25 [.d (.list (rgRows x.bars)), .d (.list (stepRows x.steps))] true
abbrev bR (lo hi : Int) : Blk := .box 33 [.d (iD lo), .d (iD hi)] true
abbrev rw1 (i : Nat) (l : List Rec) (t : Int) : Nat × Blk := (i, .row 3 1 (iRows (seenL l t)) false)
abbrev rw2 (i : Nat) (l : List Rec) (t y : Int) : Nat × Blk := (i, .row 3 1 (iRows (seenL l t) ++ iRows [y]) false)
abbrev rw3 (i : Nat) (y : Int) : Nat × Blk := (i, .row 3 1 (iRows [y]) false)
abbrev s5 (B : List Int) (lr : List (List Int)) (M : Nat) (R : List Rec) (n : Nat) (many k : Int) (r : List (Nat × SV)) : List (Nat × SV) := [(4, .ptr 0 0 0), (12, .ptr 1 0 0), (13, .d (intL B)), (15, .d (.list (listRows lr))), (17, .d (iD M)), (22, .d (recsD R)), (23, .lin 2 n), (24, .d (iD many)), (25, .d (iD k))] ++ r
/-- What is known where the recipes are gone through. -/
structure BC (x : Works) (lo hi : Int) (S M : Nat) (B : List Int) (lr : List (List Int)) (R : List Rec) : Prop where
  hS : x.steps.length = S
  kyes : ∀ k r, R[k]? = some r → madeR x lo hi r = true → ACall Try.prog 30 [worksD x, recD r.1 r.2, rgD lo hi] (.tup [.list (iRows (histVals x r.1 r.2 lo hi)), iD 0]) ∧ ACall Try.prog 31 [worksD x, recD r.1 r.2, intL (histVals x r.1 r.2 lo hi), rgD lo hi] (bD true) ∧
      ACall Try.prog 49 [intL B, iD r.1] (bD true) ∧ mkK x lo hi (k + 1) = mkK x lo hi k ++ [r] ∧ r.2.length = S ∧
      ∀ i, i < S → lr[i]? = some (leftN x lo hi i) ∧ r.2[i]? = some (ofN r i) ∧ ACall Try.prog 49 [intL (leftN x lo hi i), iD (ofN r i)] (bD true)
  kno : ∀ k r, R[k]? = some r → madeR x lo hi r = false → ACall Try.prog 30 [worksD x, recD r.1 r.2, rgD lo hi] (.tup [.list [], iD 17]) ∧ mkK x lo hi (k + 1) = mkK x lo hi k
  mkall : mkK x lo hi R.length = mkN x lo hi
  mkne : mkK x lo hi R.length ≠ []
  mklen : (mkN x lo hi).length = M
  mkle : ∀ k, (mkK x lo hi k).length ≤ R.length
  hRl : R.length ≤ 1000
  hrl : lr.length = S
set_option maxRecDepth 100000 in
set_option maxHeartbeats 4000000 in
theorem blamed_out (x : Works) (nums lives : List Int) (a b : Int) (h : fineB x = false ∨ fullB x = true ∨ (20 : Int) < nums.length ∨ (20 : Int) < lives.length) : WCall Try.prog 9 [worksD x, kintL .u8 nums, kintL .u32 lives, .agg [.val (.int .u8 a), .val (.int .u8 b)]] (bD true) := by
  have hg := fine_c x
  have hf := full_c x
  have hw := works_c
  rcases hgb : fineB x <;> rw [hgb] at hg
  · refine wcallK tabOk Try.func9 rfl rfl (show 4 ≤ _ by decide) rfl fun _ => ?_; simp only [Try.ntmps9]
    repeat (first | (with_reducible first | refine AWp.seqK fun _ => ?_ | refine AWp.blockK fun _ => ?_ | refine KK.go ?_) | ((first | refine AWp.reg tabOk ?_ | refine AWp.condK fun _ _ => ?_ | refine AWp.draws tabOk (by kernel_rfl) (by kernel_rfl) ?_); simp [-getElem?_pos, z0, z1, z2, ]) | ((first | refine AWp.ret ?_ | refine AWp.skip ?_ | refine AWp.exit ?_); try simp only [thenP]) | (with_reducible refine BB.go ?_; simp only [blockP, thenP, if_true, if_false, reduceIte]) | (with_reducible refine And.intro (show okLog _ _ = true from by kernel_rfl) ?_))
    (first | refine Exec0.call [] hg ?_ rfl ?_ ?_ | refine Exec.call [] hg ?_ rfl ?_ ?_); (focus simp [-getElem?_pos, ]); (focus simp [-getElem?_pos, z0, z1, z2, ]); simp [-getElem?_pos, z0, z1, z2, ]
    repeat (first | (with_reducible first | refine AWp.seqK fun _ => ?_ | refine AWp.blockK fun _ => ?_ | refine KK.go ?_) | ((first | refine AWp.reg tabOk ?_ | refine AWp.condK fun _ _ => ?_ | refine AWp.draws tabOk (by kernel_rfl) (by kernel_rfl) ?_); simp [-getElem?_pos, z0, z1, z2, ]) | ((first | refine AWp.ret ?_ | refine AWp.skip ?_ | refine AWp.exit ?_); try simp only [thenP]) | (with_reducible refine BB.go ?_; simp only [blockP, thenP, if_true, if_false, reduceIte]) | (with_reducible refine And.intro (show okLog _ _ = true from by kernel_rfl) ?_))
    (first | refine Exec0.call [] hw ?_ rfl ?_ ?_ | refine Exec.call [] hw ?_ rfl ?_ ?_); (focus simp [-getElem?_pos, ]); (focus simp [-getElem?_pos, z0, z1, z2, ]); simp [-getElem?_pos, z0, z1, z2, ]
    repeat (first | (with_reducible first | refine AWp.seqK fun _ => ?_ | refine AWp.blockK fun _ => ?_ | refine KK.go ?_) | ((first | refine AWp.reg tabOk ?_ | refine AWp.condK fun _ _ => ?_ | refine AWp.draws tabOk (by kernel_rfl) (by kernel_rfl) ?_); simp [-getElem?_pos, z0, z1, z2, ]) | ((first | refine AWp.ret ?_ | refine AWp.skip ?_ | refine AWp.exit ?_); try simp only [thenP]) | (with_reducible refine BB.go ?_; simp only [blockP, thenP, if_true, if_false, reduceIte]) | (with_reducible refine And.intro (show okLog _ _ = true from by kernel_rfl) ?_))
    (first | refine RR.ret ?_ | refine RR.normal ?_); simp []
  rcases hfb : fullB x <;> rw [hfb] at hf
  · by_cases hl : (20 : Int) < nums.length
    · refine wcallK tabOk Try.func9 rfl rfl (show 4 ≤ _ by decide) rfl fun _ => ?_; simp only [Try.ntmps9]
      repeat (first | (with_reducible first | refine AWp.seqK fun _ => ?_ | refine AWp.blockK fun _ => ?_ | refine KK.go ?_) | ((first | refine AWp.reg tabOk ?_ | refine AWp.condK fun _ _ => ?_ | refine AWp.draws tabOk (by kernel_rfl) (by kernel_rfl) ?_); simp [-getElem?_pos, z0, z1, z2, hl]) | ((first | refine AWp.ret ?_ | refine AWp.skip ?_ | refine AWp.exit ?_); try simp only [thenP]) | (with_reducible refine BB.go ?_; simp only [blockP, thenP, if_true, if_false, reduceIte]) | (with_reducible refine And.intro (show okLog _ _ = true from by kernel_rfl) ?_))
      (first | refine Exec0.call [] hg ?_ rfl ?_ ?_ | refine Exec.call [] hg ?_ rfl ?_ ?_); (focus simp [-getElem?_pos, ]); (focus simp [-getElem?_pos, z0, z1, z2, ]); simp [-getElem?_pos, z0, z1, z2, ]
      repeat (first | (with_reducible first | refine AWp.seqK fun _ => ?_ | refine AWp.blockK fun _ => ?_ | refine KK.go ?_) | ((first | refine AWp.reg tabOk ?_ | refine AWp.condK fun _ _ => ?_ | refine AWp.draws tabOk (by kernel_rfl) (by kernel_rfl) ?_); simp [-getElem?_pos, z0, z1, z2, hl]) | ((first | refine AWp.ret ?_ | refine AWp.skip ?_ | refine AWp.exit ?_); try simp only [thenP]) | (with_reducible refine BB.go ?_; simp only [blockP, thenP, if_true, if_false, reduceIte]) | (with_reducible refine And.intro (show okLog _ _ = true from by kernel_rfl) ?_))
      (first | refine Exec0.call [] hf ?_ rfl ?_ ?_ | refine Exec.call [] hf ?_ rfl ?_ ?_); (focus simp [-getElem?_pos, hl]); (focus simp [-getElem?_pos, z0, z1, z2, hl]); simp [-getElem?_pos, z0, z1, z2, hl]
      repeat (first | (with_reducible first | refine AWp.seqK fun _ => ?_ | refine AWp.blockK fun _ => ?_ | refine KK.go ?_) | ((first | refine AWp.reg tabOk ?_ | refine AWp.condK fun _ _ => ?_ | refine AWp.draws tabOk (by kernel_rfl) (by kernel_rfl) ?_); simp [-getElem?_pos, z0, z1, z2, hl]) | ((first | refine AWp.ret ?_ | refine AWp.skip ?_ | refine AWp.exit ?_); try simp only [thenP]) | (with_reducible refine BB.go ?_; simp only [blockP, thenP, if_true, if_false, reduceIte]) | (with_reducible refine And.intro (show okLog _ _ = true from by kernel_rfl) ?_))
      (first | refine Exec0.call [] hw ?_ rfl ?_ ?_ | refine Exec.call [] hw ?_ rfl ?_ ?_); (focus simp [-getElem?_pos, ]); (focus simp [-getElem?_pos, z0, z1, z2, ]); simp [-getElem?_pos, z0, z1, z2, ]
      repeat (first | (with_reducible first | refine AWp.seqK fun _ => ?_ | refine AWp.blockK fun _ => ?_ | refine KK.go ?_) | ((first | refine AWp.reg tabOk ?_ | refine AWp.condK fun _ _ => ?_ | refine AWp.draws tabOk (by kernel_rfl) (by kernel_rfl) ?_); simp [-getElem?_pos, z0, z1, z2, ]) | ((first | refine AWp.ret ?_ | refine AWp.skip ?_ | refine AWp.exit ?_); try simp only [thenP]) | (with_reducible refine BB.go ?_; simp only [blockP, thenP, if_true, if_false, reduceIte]) | (with_reducible refine And.intro (show okLog _ _ = true from by kernel_rfl) ?_))
      (first | refine RR.ret ?_ | refine RR.normal ?_); simp []
    · by_cases hl2 : (20 : Int) < lives.length
      · refine wcallK tabOk Try.func9 rfl rfl (show 4 ≤ _ by decide) rfl fun _ => ?_; simp only [Try.ntmps9]
        repeat (first | (with_reducible first | refine AWp.seqK fun _ => ?_ | refine AWp.blockK fun _ => ?_ | refine KK.go ?_) | ((first | refine AWp.reg tabOk ?_ | refine AWp.condK fun _ _ => ?_ | refine AWp.draws tabOk (by kernel_rfl) (by kernel_rfl) ?_); simp [-getElem?_pos, z0, z1, z2, hl, hl2]) | ((first | refine AWp.ret ?_ | refine AWp.skip ?_ | refine AWp.exit ?_); try simp only [thenP]) | (with_reducible refine BB.go ?_; simp only [blockP, thenP, if_true, if_false, reduceIte]) | (with_reducible refine And.intro (show okLog _ _ = true from by kernel_rfl) ?_))
        (first | refine Exec0.call [] hg ?_ rfl ?_ ?_ | refine Exec.call [] hg ?_ rfl ?_ ?_); (focus simp [-getElem?_pos, ]); (focus simp [-getElem?_pos, z0, z1, z2, ]); simp [-getElem?_pos, z0, z1, z2, ]
        repeat (first | (with_reducible first | refine AWp.seqK fun _ => ?_ | refine AWp.blockK fun _ => ?_ | refine KK.go ?_) | ((first | refine AWp.reg tabOk ?_ | refine AWp.condK fun _ _ => ?_ | refine AWp.draws tabOk (by kernel_rfl) (by kernel_rfl) ?_); simp [-getElem?_pos, z0, z1, z2, hl, hl2]) | ((first | refine AWp.ret ?_ | refine AWp.skip ?_ | refine AWp.exit ?_); try simp only [thenP]) | (with_reducible refine BB.go ?_; simp only [blockP, thenP, if_true, if_false, reduceIte]) | (with_reducible refine And.intro (show okLog _ _ = true from by kernel_rfl) ?_))
        (first | refine Exec0.call [] hf ?_ rfl ?_ ?_ | refine Exec.call [] hf ?_ rfl ?_ ?_); (focus simp [-getElem?_pos, hl, hl2]); (focus simp [-getElem?_pos, z0, z1, z2, hl, hl2]); simp [-getElem?_pos, z0, z1, z2, hl, hl2]
        repeat (first | (with_reducible first | refine AWp.seqK fun _ => ?_ | refine AWp.blockK fun _ => ?_ | refine KK.go ?_) | ((first | refine AWp.reg tabOk ?_ | refine AWp.condK fun _ _ => ?_ | refine AWp.draws tabOk (by kernel_rfl) (by kernel_rfl) ?_); simp [-getElem?_pos, z0, z1, z2, hl, hl2]) | ((first | refine AWp.ret ?_ | refine AWp.skip ?_ | refine AWp.exit ?_); try simp only [thenP]) | (with_reducible refine BB.go ?_; simp only [blockP, thenP, if_true, if_false, reduceIte]) | (with_reducible refine And.intro (show okLog _ _ = true from by kernel_rfl) ?_))
        (first | refine Exec0.call [] hw ?_ rfl ?_ ?_ | refine Exec.call [] hw ?_ rfl ?_ ?_); (focus simp [-getElem?_pos, ]); (focus simp [-getElem?_pos, z0, z1, z2, ]); simp [-getElem?_pos, z0, z1, z2, ]
        repeat (first | (with_reducible first | refine AWp.seqK fun _ => ?_ | refine AWp.blockK fun _ => ?_ | refine KK.go ?_) | ((first | refine AWp.reg tabOk ?_ | refine AWp.condK fun _ _ => ?_ | refine AWp.draws tabOk (by kernel_rfl) (by kernel_rfl) ?_); simp [-getElem?_pos, z0, z1, z2, ]) | ((first | refine AWp.ret ?_ | refine AWp.skip ?_ | refine AWp.exit ?_); try simp only [thenP]) | (with_reducible refine BB.go ?_; simp only [blockP, thenP, if_true, if_false, reduceIte]) | (with_reducible refine And.intro (show okLog _ _ = true from by kernel_rfl) ?_))
        (first | refine RR.ret ?_ | refine RR.normal ?_); simp []
      · simp [hgb, hfb, hl, hl2] at h
  · refine wcallK tabOk Try.func9 rfl rfl (show 4 ≤ _ by decide) rfl fun _ => ?_; simp only [Try.ntmps9]
    repeat (first | (with_reducible first | refine AWp.seqK fun _ => ?_ | refine AWp.blockK fun _ => ?_ | refine KK.go ?_) | ((first | refine AWp.reg tabOk ?_ | refine AWp.condK fun _ _ => ?_ | refine AWp.draws tabOk (by kernel_rfl) (by kernel_rfl) ?_); simp [-getElem?_pos, z0, z1, z2, ]) | ((first | refine AWp.ret ?_ | refine AWp.skip ?_ | refine AWp.exit ?_); try simp only [thenP]) | (with_reducible refine BB.go ?_; simp only [blockP, thenP, if_true, if_false, reduceIte]) | (with_reducible refine And.intro (show okLog _ _ = true from by kernel_rfl) ?_))
    (first | refine Exec0.call [] hg ?_ rfl ?_ ?_ | refine Exec.call [] hg ?_ rfl ?_ ?_); (focus simp [-getElem?_pos, ]); (focus simp [-getElem?_pos, z0, z1, z2, ]); simp [-getElem?_pos, z0, z1, z2, ]
    repeat (first | (with_reducible first | refine AWp.seqK fun _ => ?_ | refine AWp.blockK fun _ => ?_ | refine KK.go ?_) | ((first | refine AWp.reg tabOk ?_ | refine AWp.condK fun _ _ => ?_ | refine AWp.draws tabOk (by kernel_rfl) (by kernel_rfl) ?_); simp [-getElem?_pos, z0, z1, z2, ]) | ((first | refine AWp.ret ?_ | refine AWp.skip ?_ | refine AWp.exit ?_); try simp only [thenP]) | (with_reducible refine BB.go ?_; simp only [blockP, thenP, if_true, if_false, reduceIte]) | (with_reducible refine And.intro (show okLog _ _ = true from by kernel_rfl) ?_))
    (first | refine Exec0.call [] hf ?_ rfl ?_ ?_ | refine Exec.call [] hf ?_ rfl ?_ ?_); (focus simp [-getElem?_pos, ]); (focus simp [-getElem?_pos, z0, z1, z2, ]); simp [-getElem?_pos, z0, z1, z2, ]
    repeat (first | (with_reducible first | refine AWp.seqK fun _ => ?_ | refine AWp.blockK fun _ => ?_ | refine KK.go ?_) | ((first | refine AWp.reg tabOk ?_ | refine AWp.condK fun _ _ => ?_ | refine AWp.draws tabOk (by kernel_rfl) (by kernel_rfl) ?_); simp [-getElem?_pos, z0, z1, z2, ]) | ((first | refine AWp.ret ?_ | refine AWp.skip ?_ | refine AWp.exit ?_); try simp only [thenP]) | (with_reducible refine BB.go ?_; simp only [blockP, thenP, if_true, if_false, reduceIte]) | (with_reducible refine And.intro (show okLog _ _ = true from by kernel_rfl) ?_))
    (first | refine Exec0.call [] hw ?_ rfl ?_ ?_ | refine Exec.call [] hw ?_ rfl ?_ ?_); (focus simp [-getElem?_pos, ]); (focus simp [-getElem?_pos, z0, z1, z2, ]); simp [-getElem?_pos, z0, z1, z2, ]
    repeat (first | (with_reducible first | refine AWp.seqK fun _ => ?_ | refine AWp.blockK fun _ => ?_ | refine KK.go ?_) | ((first | refine AWp.reg tabOk ?_ | refine AWp.condK fun _ _ => ?_ | refine AWp.draws tabOk (by kernel_rfl) (by kernel_rfl) ?_); simp [-getElem?_pos, z0, z1, z2, ]) | ((first | refine AWp.ret ?_ | refine AWp.skip ?_ | refine AWp.exit ?_); try simp only [thenP]) | (with_reducible refine BB.go ?_; simp only [blockP, thenP, if_true, if_false, reduceIte]) | (with_reducible refine And.intro (show okLog _ _ = true from by kernel_rfl) ?_))
    (first | refine RR.ret ?_ | refine RR.normal ?_); simp []
end Go.Proofs.Ytigpefjeelgfdaa.Eng

/-
  Layer 1's statements, by the engine: HeatBlamed's loop over the recipes of a works of 0 steps.
-/
namespace Go.Proofs.Ytigpefjeelgfdaa.Eng
open Go.RowKit

set_option maxRecDepth 100000 in
set_option maxHeartbeats 8000000 in
theorem blame_case0 {x : Works} {lo hi : Int} {M : Nat} {B : List Int} {lr : List (List Int)} {R : List Rec} (bc : BC x lo hi 0 M B lr R) {cm cr : Code} (hm : Try.f9.body.bind (tailO 13) = some cm) (hr : Try.f9.body.bind (tailO 16) = some cr) {Q : Post}
    (hrest : AWp Try.prog true 330 cr 1 (mkSt [(13, .d (intL B)), (15, .d (.list (listRows lr))), (17, .d (iD M)), (23, .own 0 1 1), (24, .d (iD M))] [(0, .row 40 1 (listRows (seenRows (mkN x lo hi) 0)) false)]) Q) :
    AWp Try.prog true 330 cm 2 (mkSt [(4, .ptr 0 0 0), (12, .ptr 1 0 0), (13, .d (intL B)), (15, .d (.list (listRows lr))), (17, .d (iD M)), (22, .d (recsD R))] [(0, bW x), (1, bR lo hi)]) Q := by
  obtain ⟨hS, kyes, kno, mkall, mkne, mklen, mkle, hRl, hrl⟩ := bc
  have hlen2 : lr.length = 0 := hrl
  have wz : IntKind.i64.wrap 1 = 1 := by decide
  cases (show some _ = some cm from hm)
  cases (show some _ = some cr from hr)
  iterate 6 (first | (with_reducible first | refine g1 fun _ => ?_ | refine g2 fun _ => ?_ | refine g3 ?_) | ((first | refine g4 ?_ | refine g5 fun _ _ => ?_ | refine g6 ?_); simp [-getElem?_pos, z0, z1, z2, hS, wz]) | ((first | refine AWp.ret ?_ | refine AWp.skip ?_ | refine AWp.exit ?_); try simp only [thenP]) | (with_reducible refine g7 ?_; simp only [blockP, thenP, reduceIte]) | with_reducible refine g8 ?_)
  refine AWp.seqFits hrest fun kj => ?_
  repeat (first | (with_reducible first | refine g1 fun _ => ?_ | refine g2 fun _ => ?_ | refine g3 ?_) | ((first | refine g4 ?_ | refine g5 fun _ _ => ?_ | refine g6 ?_); simp [-getElem?_pos, z0, z1, z2, hS]) | ((first | refine AWp.ret ?_ | refine AWp.skip ?_ | refine AWp.exit ?_); try simp only [thenP]) | (with_reducible refine g7 ?_; simp only [blockP, thenP, reduceIte]) | with_reducible refine g8 ?_)
  refine AWp.loopK (ι := { k : Nat // k ≤ R.length }) (n := 4) (fun k => s5 B lr M R 1 (mkK x lo hi k.1).length k.1 []) (fun k => [(0, bW x), (1, bR lo hi), (2, .box 40 (if mkK x lo hi k.1 = [] then [.nilS] else [.own 3 (mkK x lo hi k.1).length 1]) false)] ++ (if mkK x lo hi k.1 = [] then [] else [rw1 3 (mkK x lo hi k.1) (-1)])) (fun k => R.length - k.1) ⟨0, Nat.zero_le _⟩ [0, 1, 6, 100] ?_ ?_
  · refine ⟨by rfl, by simp [mkK_zero], by simp [or_imp, forall_and, mkK_zero] <;> (try (intro _hne; simp [_hne])), by decide⟩
  rintro ⟨k, hk⟩ kk
  by_cases hlt : k < R.length
  · obtain ⟨r, hr⟩ : ∃ r, R[k]? = some r := ⟨_, List.getElem?_eq_getElem hlt⟩
    have wk : IntKind.i64.wrap ((k : Int) + 1) = (k : Int) + 1 := wrap64_in (by omega)
    rcases hm : madeR x lo hi r with _ | _
    · obtain ⟨a1, a2⟩ := kno k r hr hm
      by_cases hM0 : mkK x lo hi k = []
      all_goals
        repeat (first | (with_reducible first | refine g1 fun _ => ?_ | refine g2 fun _ => ?_ | refine g3 ?_) | ((first | refine g4 ?_ | refine g5 fun _ _ => ?_ | refine g6 ?_); simp [-getElem?_pos, z0, z1, z2, hlt, hr, hM0]) | ((first | refine AWp.ret ?_ | refine AWp.skip ?_ | refine AWp.exit ?_); try simp only [thenP]) | (with_reducible refine g7 ?_; simp only [blockP, thenP, reduceIte]) | with_reducible refine g8 ?_)
        refine Exec.call [] a1 ?_ rfl ?_ ?_; (focus simp [-getElem?_pos]); (focus simp [-getElem?_pos, z0, z1, z2, hlt, hr, hM0, recD]); simp [-getElem?_pos, z0, z1, z2, hlt, hr, hM0, recD]
        repeat (first | (with_reducible first | refine g1 fun _ => ?_ | refine g2 fun _ => ?_ | refine g3 ?_) | ((first | refine g4 ?_ | refine g5 fun _ _ => ?_ | refine g6 ?_); simp [-getElem?_pos, z0, z1, z2, wk]) | ((first | refine AWp.ret ?_ | refine AWp.skip ?_ | refine AWp.exit ?_); try simp only [thenP]) | (with_reducible refine g7 ?_; simp only [blockP, thenP, reduceIte]) | with_reducible refine g8 ?_)
        refine LL.go ⟨k + 1, hlt⟩ [0, 1, 2, 3] ⟨by rfl, by simp [a2, hM0], by simp [or_imp, forall_and, a2, hM0] <;> (try (intro _hne; simp [_hne])), by decide⟩ ?_
        simp; omega
    · obtain ⟨a1, a2, a3, a4, a5, a6⟩ := kyes k r hr hm
      have hl400 := Nat.le_trans (mkle k) hRl
      generalize histVals x r.1 r.2 lo hi = hv at *
      obtain ⟨y0, hy0⟩ : ∃ y, r.1 = y := ⟨_, rfl⟩
      have hof0 : ofN r (-1) = y0 := hy0
      obtain ⟨l, hl⟩ : ∃ l, mkK x lo hi k = l := ⟨_, rfl⟩
      rw [hl] at a4 hl400
      have wl : IntKind.i64.wrap ((l.length : Int) + 1) = (l.length : Int) + 1 := wrap64_in (by omega)
      have f0 : (seenL l (-1)).length = l.length := seenL_len l (-1)
      rw [hy0] at a3
      have fb : fitsB (l.length + 1) 8 = true := fitsB_small (by omega) (by decide)
      by_cases hM0 : l = []
      · subst hM0
        have w1 : IntKind.i64.wrap 1 = 1 := by decide
        repeat (first | (with_reducible first | refine g1 fun _ => ?_ | refine g2 fun _ => ?_ | refine g3 ?_) | ((first | refine g4 ?_ | refine g5 fun _ _ => ?_ | refine g6 ?_); simp [-getElem?_pos, z0, z1, z2, hlt, hr, hl, hy0]) | ((first | refine AWp.ret ?_ | refine AWp.skip ?_ | refine AWp.exit ?_); try simp only [thenP]) | (with_reducible refine g7 ?_; simp only [blockP, thenP, reduceIte]) | with_reducible refine g8 ?_)
        refine Exec.call [] a1 ?_ rfl ?_ ?_; (focus simp [-getElem?_pos]); (focus simp [-getElem?_pos, z0, z1, z2, hlt, hr, hl, hy0, recD]); simp [-getElem?_pos, z0, z1, z2, hlt, hr, hl, hy0, recD]
        repeat (first | (with_reducible first | refine g1 fun _ => ?_ | refine g2 fun _ => ?_ | refine g3 ?_) | ((first | refine g4 ?_ | refine g5 fun _ _ => ?_ | refine g6 ?_); simp [-getElem?_pos, z0, z1, z2, hlt, hr, hl, hy0]) | ((first | refine AWp.ret ?_ | refine AWp.skip ?_ | refine AWp.exit ?_); try simp only [thenP]) | (with_reducible refine g7 ?_; simp only [blockP, thenP, reduceIte]) | with_reducible refine g8 ?_)
        refine Exec.call [] a2 ?_ rfl ?_ ?_; (focus simp [-getElem?_pos]); (focus simp [-getElem?_pos, z0, z1, z2, hlt, hr, hl, hy0, recD]); simp [-getElem?_pos, z0, z1, z2, hlt, hr, hl, hy0, recD]
        refine Exec.call [] a3 ?_ rfl ?_ ?_; (focus simp [-getElem?_pos]); (focus simp [-getElem?_pos, z0, z1, z2, hlt, hr, hl, hy0, recD]); simp [-getElem?_pos, z0, z1, z2, hlt, hr, hl, hy0, recD]
        repeat (first | (with_reducible first | refine g1 fun _ => ?_ | refine g2 fun _ => ?_ | refine g3 ?_) | ((first | refine g4 ?_ | refine g5 fun _ _ => ?_ | refine g6 ?_); simp [-getElem?_pos, z0, z1, z2, hlt, hr, hl, hy0, w1]) | ((first | refine AWp.ret ?_ | refine AWp.skip ?_ | refine AWp.exit ?_); try simp only [thenP]) | (with_reducible refine g7 ?_; simp only [blockP, thenP, reduceIte]) | with_reducible refine g8 ?_)
        refine AWp.loopK (ι := { i : Nat // i ≤ 0 }) (n := 4) (fun i => s5 B lr M R 1 (1) k [(28, .d (iD 0))]) (fun i => [(0, bW x), (1, bR lo hi), (2, .box 40 [.own 3 1 1] false), rw3 3 y0]) (fun i => 0 - i.1) ⟨0, by omega⟩ [0, 1, 2, 54] ?_ ?_
        · refine ⟨by rfl, by simp [hlt, hr, hl, hy0], by simp [or_imp, forall_and, hlt, hr, hl, hy0] <;> (try (intro _hne; simp [_hne])), by decide⟩
        rintro ⟨i, hi⟩ ki
        match i, hi with
        | 0, _ =>
          repeat (first | (with_reducible first | refine g1 fun _ => ?_ | refine g2 fun _ => ?_ | refine g3 ?_) | ((first | refine g4 ?_ | refine g5 fun _ _ => ?_ | refine g6 ?_); simp [-getElem?_pos, z0, z1, z2, hlen2, hlt, hr, hl, hy0, wk]) | ((first | refine AWp.ret ?_ | refine AWp.skip ?_ | refine AWp.exit ?_); try simp only [thenP]) | (with_reducible refine g7 ?_; simp only [blockP, thenP, reduceIte]) | with_reducible refine g8 ?_)
          refine LL.go ⟨k + 1, hlt⟩ [0, 1, 2, 3] ⟨by rfl, by simp [a4, seenL_app, seenL_one, iRows_app, hof0], by simp [or_imp, forall_and, a4, seenL_app, seenL_one, iRows_app, hof0] <;> (try (intro _hne; simp [_hne])), by decide⟩ ?_
          simp; omega
      · repeat (first | (with_reducible first | refine g1 fun _ => ?_ | refine g2 fun _ => ?_ | refine g3 ?_) | ((first | refine g4 ?_ | refine g5 fun _ _ => ?_ | refine g6 ?_); simp [-getElem?_pos, z0, z1, z2, hlt, hr, hl, hM0, hy0]) | ((first | refine AWp.ret ?_ | refine AWp.skip ?_ | refine AWp.exit ?_); try simp only [thenP]) | (with_reducible refine g7 ?_; simp only [blockP, thenP, reduceIte]) | with_reducible refine g8 ?_)
        refine Exec.call [] a1 ?_ rfl ?_ ?_; (focus simp [-getElem?_pos]); (focus simp [-getElem?_pos, z0, z1, z2, hlt, hr, hl, hM0, hy0, recD]); simp [-getElem?_pos, z0, z1, z2, hlt, hr, hl, hM0, hy0, recD]
        repeat (first | (with_reducible first | refine g1 fun _ => ?_ | refine g2 fun _ => ?_ | refine g3 ?_) | ((first | refine g4 ?_ | refine g5 fun _ _ => ?_ | refine g6 ?_); simp [-getElem?_pos, z0, z1, z2, hlt, hr, hl, hM0, hy0]) | ((first | refine AWp.ret ?_ | refine AWp.skip ?_ | refine AWp.exit ?_); try simp only [thenP]) | (with_reducible refine g7 ?_; simp only [blockP, thenP, reduceIte]) | with_reducible refine g8 ?_)
        refine Exec.call [] a2 ?_ rfl ?_ ?_; (focus simp [-getElem?_pos]); (focus simp [-getElem?_pos, z0, z1, z2, hlt, hr, hl, hM0, hy0, recD]); simp [-getElem?_pos, z0, z1, z2, hlt, hr, hl, hM0, hy0, recD]
        refine Exec.call [] a3 ?_ rfl ?_ ?_; (focus simp [-getElem?_pos]); (focus simp [-getElem?_pos, z0, z1, z2, hlt, hr, hl, hM0, hy0, recD]); simp [-getElem?_pos, z0, z1, z2, hlt, hr, hl, hM0, hy0, recD]
        repeat (first | (with_reducible first | refine g1 fun _ => ?_ | refine g2 fun _ => ?_ | refine g3 ?_) | ((first | refine g4 ?_ | refine g5 fun _ _ => ?_ | refine g6 ?_); simp [-getElem?_pos, z0, z1, z2, hlt, hr, hl, hM0, hy0, wl, f0, fb]) | ((first | refine AWp.ret ?_ | refine AWp.skip ?_ | refine AWp.exit ?_); try simp only [thenP]) | (with_reducible refine g7 ?_; simp only [blockP, thenP, reduceIte]) | with_reducible refine g8 ?_)
        refine AWp.loopK (ι := { i : Nat // i ≤ 0 }) (n := 4) (fun i => s5 B lr M R 1 ((l.length : Int) + 1) k [(28, .d (iD 0))]) (fun i => [(0, bW x), (1, bR lo hi), (2, .box 40 [.own 3 (l.length + 1) 1] false), rw2 3 l (-1) y0]) (fun i => 0 - i.1) ⟨0, by omega⟩ [0, 1, 2, 54] ?_ ?_
        · refine ⟨by rfl, by simp [hlt, hr, hl, hM0, hy0, f0, fb], by simp [or_imp, forall_and, hlt, hr, hl, hM0, hy0, f0, fb] <;> (try (intro _hne; simp [_hne])), by decide⟩
        rintro ⟨i, hi⟩ ki
        match i, hi with
        | 0, _ =>
          repeat (first | (with_reducible first | refine g1 fun _ => ?_ | refine g2 fun _ => ?_ | refine g3 ?_) | ((first | refine g4 ?_ | refine g5 fun _ _ => ?_ | refine g6 ?_); simp [-getElem?_pos, z0, z1, z2, hlen2, hlt, hr, hl, hM0, hy0, wk]) | ((first | refine AWp.ret ?_ | refine AWp.skip ?_ | refine AWp.exit ?_); try simp only [thenP]) | (with_reducible refine g7 ?_; simp only [blockP, thenP, reduceIte]) | with_reducible refine g8 ?_)
          refine LL.go ⟨k + 1, hlt⟩ [0, 1, 2, 3] ⟨by rfl, by simp [a4, seenL_app, seenL_one, iRows_app, hof0], by simp [or_imp, forall_and, a4, seenL_app, seenL_one, iRows_app, hof0] <;> (try (intro _hne; simp [_hne])), by decide⟩ ?_
          simp; omega
  · obtain rfl : k = R.length := by omega
    have hne := mkne
    refine AWp.shutL 23 2 1 (ty := 40) (cells := [.own 3 (mkK x lo hi R.length).length 1]) (ds := [.list (iRows (seenL (mkK x lo hi R.length) (-1)))]) (is := [3]) (by rfl) (by simp [hne]) (by simp [hne, seenL_len]) (by simp) (by simp [maxLen]) ?_
    repeat (first | (with_reducible first | refine g1 fun _ => ?_ | refine g2 fun _ => ?_ | refine g3 ?_) | ((first | refine g4 ?_ | refine g5 fun _ _ => ?_ | refine g6 ?_); simp [-getElem?_pos, z0, z1, z2, hne]) | ((first | refine AWp.ret ?_ | refine AWp.skip ?_ | refine AWp.exit ?_); try simp only [thenP]) | (with_reducible refine g7 ?_; simp only [blockP, thenP, reduceIte]) | with_reducible refine g8 ?_)
    exact JJ.go [2] ⟨by rfl, by simp [hne, mkall, mklen, seenRows, listRows, List.range_succ], by simp [or_imp, forall_and, hne, mkall, mklen, seenRows, listRows, List.range_succ], by decide⟩
end Go.Proofs.Ytigpefjeelgfdaa.Eng

/-
  Layer 1's statements, by the engine: HeatBlamed's loop over the recipes of a works of 1 steps.
-/
namespace Go.Proofs.Ytigpefjeelgfdaa.Eng
open Go.RowKit

set_option maxRecDepth 100000 in
set_option maxHeartbeats 8000000 in
theorem blame_case1 {x : Works} {lo hi : Int} {M : Nat} {B : List Int} {lr : List (List Int)} {R : List Rec} (bc : BC x lo hi 1 M B lr R) {cm cr : Code} (hm : Try.f9.body.bind (tailO 13) = some cm) (hr : Try.f9.body.bind (tailO 16) = some cr) {Q : Post}
    (hrest : AWp Try.prog true 330 cr 1 (mkSt [(13, .d (intL B)), (15, .d (.list (listRows lr))), (17, .d (iD M)), (23, .own 0 2 1), (24, .d (iD M))] [(0, .row 40 1 (listRows (seenRows (mkN x lo hi) 1)) false)]) Q) :
    AWp Try.prog true 330 cm 2 (mkSt [(4, .ptr 0 0 0), (12, .ptr 1 0 0), (13, .d (intL B)), (15, .d (.list (listRows lr))), (17, .d (iD M)), (22, .d (recsD R))] [(0, bW x), (1, bR lo hi)]) Q := by
  obtain ⟨hS, kyes, kno, mkall, mkne, mklen, mkle, hRl, hrl⟩ := bc
  have hlen2 : lr.length = 1 := hrl
  have wz : IntKind.i64.wrap 2 = 2 := by decide
  cases (show some _ = some cm from hm)
  cases (show some _ = some cr from hr)
  iterate 6 (first | (with_reducible first | refine g1 fun _ => ?_ | refine g2 fun _ => ?_ | refine g3 ?_) | ((first | refine g4 ?_ | refine g5 fun _ _ => ?_ | refine g6 ?_); simp [-getElem?_pos, z0, z1, z2, hS, wz]) | ((first | refine AWp.ret ?_ | refine AWp.skip ?_ | refine AWp.exit ?_); try simp only [thenP]) | (with_reducible refine g7 ?_; simp only [blockP, thenP, reduceIte]) | with_reducible refine g8 ?_)
  refine AWp.seqFits hrest fun kj => ?_
  repeat (first | (with_reducible first | refine g1 fun _ => ?_ | refine g2 fun _ => ?_ | refine g3 ?_) | ((first | refine g4 ?_ | refine g5 fun _ _ => ?_ | refine g6 ?_); simp [-getElem?_pos, z0, z1, z2, hS]) | ((first | refine AWp.ret ?_ | refine AWp.skip ?_ | refine AWp.exit ?_); try simp only [thenP]) | (with_reducible refine g7 ?_; simp only [blockP, thenP, reduceIte]) | with_reducible refine g8 ?_)
  refine AWp.loopK (ι := { k : Nat // k ≤ R.length }) (n := 5) (fun k => s5 B lr M R 2 (mkK x lo hi k.1).length k.1 []) (fun k => [(0, bW x), (1, bR lo hi), (2, .box 40 (if mkK x lo hi k.1 = [] then [.nilS, .nilS] else [.own 3 (mkK x lo hi k.1).length 1, .own 4 (mkK x lo hi k.1).length 1]) false)] ++ (if mkK x lo hi k.1 = [] then [] else [rw1 3 (mkK x lo hi k.1) (-1), rw1 4 (mkK x lo hi k.1) 0])) (fun k => R.length - k.1) ⟨0, Nat.zero_le _⟩ [0, 1, 6, 100, 101] ?_ ?_
  · refine ⟨by rfl, by simp [mkK_zero], by simp [or_imp, forall_and, mkK_zero] <;> (try (intro _hne; simp [_hne])), by decide⟩
  rintro ⟨k, hk⟩ kk
  by_cases hlt : k < R.length
  · obtain ⟨r, hr⟩ : ∃ r, R[k]? = some r := ⟨_, List.getElem?_eq_getElem hlt⟩
    have wk : IntKind.i64.wrap ((k : Int) + 1) = (k : Int) + 1 := wrap64_in (by omega)
    rcases hm : madeR x lo hi r with _ | _
    · obtain ⟨a1, a2⟩ := kno k r hr hm
      by_cases hM0 : mkK x lo hi k = []
      all_goals
        repeat (first | (with_reducible first | refine g1 fun _ => ?_ | refine g2 fun _ => ?_ | refine g3 ?_) | ((first | refine g4 ?_ | refine g5 fun _ _ => ?_ | refine g6 ?_); simp [-getElem?_pos, z0, z1, z2, hlt, hr, hM0]) | ((first | refine AWp.ret ?_ | refine AWp.skip ?_ | refine AWp.exit ?_); try simp only [thenP]) | (with_reducible refine g7 ?_; simp only [blockP, thenP, reduceIte]) | with_reducible refine g8 ?_)
        refine Exec.call [] a1 ?_ rfl ?_ ?_; (focus simp [-getElem?_pos]); (focus simp [-getElem?_pos, z0, z1, z2, hlt, hr, hM0, recD]); simp [-getElem?_pos, z0, z1, z2, hlt, hr, hM0, recD]
        repeat (first | (with_reducible first | refine g1 fun _ => ?_ | refine g2 fun _ => ?_ | refine g3 ?_) | ((first | refine g4 ?_ | refine g5 fun _ _ => ?_ | refine g6 ?_); simp [-getElem?_pos, z0, z1, z2, wk]) | ((first | refine AWp.ret ?_ | refine AWp.skip ?_ | refine AWp.exit ?_); try simp only [thenP]) | (with_reducible refine g7 ?_; simp only [blockP, thenP, reduceIte]) | with_reducible refine g8 ?_)
        refine LL.go ⟨k + 1, hlt⟩ [0, 1, 2, 3, 4] ⟨by rfl, by simp [a2, hM0], by simp [or_imp, forall_and, a2, hM0] <;> (try (intro _hne; simp [_hne])), by decide⟩ ?_
        simp; omega
    · obtain ⟨a1, a2, a3, a4, a5, a6⟩ := kyes k r hr hm
      obtain ⟨p1, q1, c1⟩ : lr[0]? = some (leftN x lo hi 0) ∧ r.2[0]? = some (ofN r 0) ∧ ACall Try.prog 49 [intL (leftN x lo hi 0), iD (ofN r 0)] (bD true) := a6 0 (by omega)
      have hl400 := Nat.le_trans (mkle k) hRl
      generalize histVals x r.1 r.2 lo hi = hv at *
      obtain ⟨y0, hy0⟩ : ∃ y, r.1 = y := ⟨_, rfl⟩
      have hof0 : ofN r (-1) = y0 := hy0
      obtain ⟨y1, hof1⟩ : ∃ y, ofN r 0 = y := ⟨_, rfl⟩
      obtain ⟨l1, hl1⟩ : ∃ l, leftN x lo hi 0 = l := ⟨_, rfl⟩
      rw [hof1] at q1 c1; rw [hl1] at p1 c1
      obtain ⟨l, hl⟩ : ∃ l, mkK x lo hi k = l := ⟨_, rfl⟩
      rw [hl] at a4 hl400
      have wl : IntKind.i64.wrap ((l.length : Int) + 1) = (l.length : Int) + 1 := wrap64_in (by omega)
      have f0 : (seenL l (-1)).length = l.length := seenL_len l (-1)
      have f1 : (seenL l 0).length = l.length := seenL_len l 0
      rw [hy0] at a3
      have fb : fitsB (l.length + 1) 8 = true := fitsB_small (by omega) (by decide)
      by_cases hM0 : l = []
      · subst hM0
        have w1 : IntKind.i64.wrap 1 = 1 := by decide
        repeat (first | (with_reducible first | refine g1 fun _ => ?_ | refine g2 fun _ => ?_ | refine g3 ?_) | ((first | refine g4 ?_ | refine g5 fun _ _ => ?_ | refine g6 ?_); simp [-getElem?_pos, z0, z1, z2, hlt, hr, hl, hy0]) | ((first | refine AWp.ret ?_ | refine AWp.skip ?_ | refine AWp.exit ?_); try simp only [thenP]) | (with_reducible refine g7 ?_; simp only [blockP, thenP, reduceIte]) | with_reducible refine g8 ?_)
        refine Exec.call [] a1 ?_ rfl ?_ ?_; (focus simp [-getElem?_pos]); (focus simp [-getElem?_pos, z0, z1, z2, hlt, hr, hl, hy0, recD]); simp [-getElem?_pos, z0, z1, z2, hlt, hr, hl, hy0, recD]
        repeat (first | (with_reducible first | refine g1 fun _ => ?_ | refine g2 fun _ => ?_ | refine g3 ?_) | ((first | refine g4 ?_ | refine g5 fun _ _ => ?_ | refine g6 ?_); simp [-getElem?_pos, z0, z1, z2, hlt, hr, hl, hy0]) | ((first | refine AWp.ret ?_ | refine AWp.skip ?_ | refine AWp.exit ?_); try simp only [thenP]) | (with_reducible refine g7 ?_; simp only [blockP, thenP, reduceIte]) | with_reducible refine g8 ?_)
        refine Exec.call [] a2 ?_ rfl ?_ ?_; (focus simp [-getElem?_pos]); (focus simp [-getElem?_pos, z0, z1, z2, hlt, hr, hl, hy0, recD]); simp [-getElem?_pos, z0, z1, z2, hlt, hr, hl, hy0, recD]
        refine Exec.call [] a3 ?_ rfl ?_ ?_; (focus simp [-getElem?_pos]); (focus simp [-getElem?_pos, z0, z1, z2, hlt, hr, hl, hy0, recD]); simp [-getElem?_pos, z0, z1, z2, hlt, hr, hl, hy0, recD]
        repeat (first | (with_reducible first | refine g1 fun _ => ?_ | refine g2 fun _ => ?_ | refine g3 ?_) | ((first | refine g4 ?_ | refine g5 fun _ _ => ?_ | refine g6 ?_); simp [-getElem?_pos, z0, z1, z2, hlt, hr, hl, hy0, w1]) | ((first | refine AWp.ret ?_ | refine AWp.skip ?_ | refine AWp.exit ?_); try simp only [thenP]) | (with_reducible refine g7 ?_; simp only [blockP, thenP, reduceIte]) | with_reducible refine g8 ?_)
        refine AWp.loopK (ι := { i : Nat // i ≤ 1 }) (n := 5) (fun i => if i.1 = 0 then s5 B lr M R 2 (1) k [(28, .d (iD 0))] else s5 B lr M R 2 (1) k [(28, .d (iD 1))]) (fun i => if i.1 = 0 then [(0, bW x), (1, bR lo hi), (2, .box 40 [.own 3 1 1, .nilS] false), rw3 3 y0] else [(0, bW x), (1, bR lo hi), (2, .box 40 [.own 3 1 1, .own 4 1 1] false), rw3 3 y0, rw3 4 y1]) (fun i => 1 - i.1) ⟨0, by omega⟩ [0, 1, 2, 55, 100] ?_ ?_
        · refine ⟨by rfl, by simp [hlt, hr, hl, hy0], by simp [or_imp, forall_and, hlt, hr, hl, hy0] <;> (try (intro _hne; simp [_hne])), by decide⟩
        rintro ⟨i, hi⟩ ki
        match i, hi with
        | 0, _ =>
          have wi : IntKind.i64.wrap 1 = 1 := by decide
          repeat (first | (with_reducible first | refine g1 fun _ => ?_ | refine g2 fun _ => ?_ | refine g3 ?_) | ((first | refine g4 ?_ | refine g5 fun _ _ => ?_ | refine g6 ?_); simp [-getElem?_pos, z0, z1, z2, hlen2, p1, q1, hlt, hr, a5]) | ((first | refine AWp.ret ?_ | refine AWp.skip ?_ | refine AWp.exit ?_); try simp only [thenP]) | (with_reducible refine g7 ?_; simp only [blockP, thenP, reduceIte]) | with_reducible refine g8 ?_)
          refine Exec.call [] c1 ?_ rfl ?_ ?_; (focus simp [-getElem?_pos]); (focus simp [-getElem?_pos, z0, z1, z2, hlen2, p1, q1, hlt, hr, a5]); simp [-getElem?_pos, z0, z1, z2, hlen2, p1, q1, hlt, hr, a5]
          repeat (first | (with_reducible first | refine g1 fun _ => ?_ | refine g2 fun _ => ?_ | refine g3 ?_) | ((first | refine g4 ?_ | refine g5 fun _ _ => ?_ | refine g6 ?_); simp [-getElem?_pos, z0, z1, z2, hlen2, p1, q1, hlt, hr, a5, wi]) | ((first | refine AWp.ret ?_ | refine AWp.skip ?_ | refine AWp.exit ?_); try simp only [thenP]) | (with_reducible refine g7 ?_; simp only [blockP, thenP, reduceIte]) | with_reducible refine g8 ?_)
          refine LL.go ⟨1, by omega⟩ [0, 1, 2, 3, 40] ⟨by rfl, by simp [hlen2, p1, q1, hlt, hr, a5, wi], by simp [or_imp, forall_and, hlen2, p1, q1, hlt, hr, a5, wi] <;> (try (intro _hne; simp [_hne])), by decide⟩ ?_
          simp
        | 1, _ =>
          repeat (first | (with_reducible first | refine g1 fun _ => ?_ | refine g2 fun _ => ?_ | refine g3 ?_) | ((first | refine g4 ?_ | refine g5 fun _ _ => ?_ | refine g6 ?_); simp [-getElem?_pos, z0, z1, z2, hlen2, hlt, hr, hl, hy0, wk]) | ((first | refine AWp.ret ?_ | refine AWp.skip ?_ | refine AWp.exit ?_); try simp only [thenP]) | (with_reducible refine g7 ?_; simp only [blockP, thenP, reduceIte]) | with_reducible refine g8 ?_)
          refine LL.go ⟨k + 1, hlt⟩ [0, 1, 2, 3, 4] ⟨by rfl, by simp [a4, seenL_app, seenL_one, iRows_app, hof0, hof1], by simp [or_imp, forall_and, a4, seenL_app, seenL_one, iRows_app, hof0, hof1] <;> (try (intro _hne; simp [_hne])), by decide⟩ ?_
          simp; omega
      · repeat (first | (with_reducible first | refine g1 fun _ => ?_ | refine g2 fun _ => ?_ | refine g3 ?_) | ((first | refine g4 ?_ | refine g5 fun _ _ => ?_ | refine g6 ?_); simp [-getElem?_pos, z0, z1, z2, hlt, hr, hl, hM0, hy0]) | ((first | refine AWp.ret ?_ | refine AWp.skip ?_ | refine AWp.exit ?_); try simp only [thenP]) | (with_reducible refine g7 ?_; simp only [blockP, thenP, reduceIte]) | with_reducible refine g8 ?_)
        refine Exec.call [] a1 ?_ rfl ?_ ?_; (focus simp [-getElem?_pos]); (focus simp [-getElem?_pos, z0, z1, z2, hlt, hr, hl, hM0, hy0, recD]); simp [-getElem?_pos, z0, z1, z2, hlt, hr, hl, hM0, hy0, recD]
        repeat (first | (with_reducible first | refine g1 fun _ => ?_ | refine g2 fun _ => ?_ | refine g3 ?_) | ((first | refine g4 ?_ | refine g5 fun _ _ => ?_ | refine g6 ?_); simp [-getElem?_pos, z0, z1, z2, hlt, hr, hl, hM0, hy0]) | ((first | refine AWp.ret ?_ | refine AWp.skip ?_ | refine AWp.exit ?_); try simp only [thenP]) | (with_reducible refine g7 ?_; simp only [blockP, thenP, reduceIte]) | with_reducible refine g8 ?_)
        refine Exec.call [] a2 ?_ rfl ?_ ?_; (focus simp [-getElem?_pos]); (focus simp [-getElem?_pos, z0, z1, z2, hlt, hr, hl, hM0, hy0, recD]); simp [-getElem?_pos, z0, z1, z2, hlt, hr, hl, hM0, hy0, recD]
        refine Exec.call [] a3 ?_ rfl ?_ ?_; (focus simp [-getElem?_pos]); (focus simp [-getElem?_pos, z0, z1, z2, hlt, hr, hl, hM0, hy0, recD]); simp [-getElem?_pos, z0, z1, z2, hlt, hr, hl, hM0, hy0, recD]
        repeat (first | (with_reducible first | refine g1 fun _ => ?_ | refine g2 fun _ => ?_ | refine g3 ?_) | ((first | refine g4 ?_ | refine g5 fun _ _ => ?_ | refine g6 ?_); simp [-getElem?_pos, z0, z1, z2, hlt, hr, hl, hM0, hy0, wl, f0, fb]) | ((first | refine AWp.ret ?_ | refine AWp.skip ?_ | refine AWp.exit ?_); try simp only [thenP]) | (with_reducible refine g7 ?_; simp only [blockP, thenP, reduceIte]) | with_reducible refine g8 ?_)
        refine AWp.loopK (ι := { i : Nat // i ≤ 1 }) (n := 5) (fun i => if i.1 = 0 then s5 B lr M R 2 ((l.length : Int) + 1) k [(28, .d (iD 0))] else s5 B lr M R 2 ((l.length : Int) + 1) k [(28, .d (iD 1))]) (fun i => if i.1 = 0 then [(0, bW x), (1, bR lo hi), (2, .box 40 [.own 3 (l.length + 1) 1, .own 4 l.length 1] false), rw2 3 l (-1) y0, rw1 4 l 0] else [(0, bW x), (1, bR lo hi), (2, .box 40 [.own 3 (l.length + 1) 1, .own 4 (l.length + 1) 1] false), rw2 3 l (-1) y0, rw2 4 l 0 y1]) (fun i => 1 - i.1) ⟨0, by omega⟩ [0, 1, 2, 55, 4] ?_ ?_
        · refine ⟨by rfl, by simp [hlt, hr, hl, hM0, hy0, f0, fb], by simp [or_imp, forall_and, hlt, hr, hl, hM0, hy0, f0, fb] <;> (try (intro _hne; simp [_hne])), by decide⟩
        rintro ⟨i, hi⟩ ki
        match i, hi with
        | 0, _ =>
          have wi : IntKind.i64.wrap 1 = 1 := by decide
          repeat (first | (with_reducible first | refine g1 fun _ => ?_ | refine g2 fun _ => ?_ | refine g3 ?_) | ((first | refine g4 ?_ | refine g5 fun _ _ => ?_ | refine g6 ?_); simp [-getElem?_pos, z0, z1, z2, hlen2, p1, q1, f1, hlt, hr, a5, fb]) | ((first | refine AWp.ret ?_ | refine AWp.skip ?_ | refine AWp.exit ?_); try simp only [thenP]) | (with_reducible refine g7 ?_; simp only [blockP, thenP, reduceIte]) | with_reducible refine g8 ?_)
          refine Exec.call [] c1 ?_ rfl ?_ ?_; (focus simp [-getElem?_pos]); (focus simp [-getElem?_pos, z0, z1, z2, hlen2, p1, q1, f1, hlt, hr, a5, fb]); simp [-getElem?_pos, z0, z1, z2, hlen2, p1, q1, f1, hlt, hr, a5, fb]
          repeat (first | (with_reducible first | refine g1 fun _ => ?_ | refine g2 fun _ => ?_ | refine g3 ?_) | ((first | refine g4 ?_ | refine g5 fun _ _ => ?_ | refine g6 ?_); simp [-getElem?_pos, z0, z1, z2, hlen2, p1, q1, f1, hlt, hr, a5, fb, wi]) | ((first | refine AWp.ret ?_ | refine AWp.skip ?_ | refine AWp.exit ?_); try simp only [thenP]) | (with_reducible refine g7 ?_; simp only [blockP, thenP, reduceIte]) | with_reducible refine g8 ?_)
          refine LL.go ⟨1, by omega⟩ [0, 1, 2, 3, 40] ⟨by rfl, by simp [hlen2, p1, q1, f1, hlt, hr, a5, fb, wi], by simp [or_imp, forall_and, hlen2, p1, q1, f1, hlt, hr, a5, fb, wi] <;> (try (intro _hne; simp [_hne])), by decide⟩ ?_
          simp
        | 1, _ =>
          repeat (first | (with_reducible first | refine g1 fun _ => ?_ | refine g2 fun _ => ?_ | refine g3 ?_) | ((first | refine g4 ?_ | refine g5 fun _ _ => ?_ | refine g6 ?_); simp [-getElem?_pos, z0, z1, z2, hlen2, hlt, hr, hl, hM0, hy0, wk]) | ((first | refine AWp.ret ?_ | refine AWp.skip ?_ | refine AWp.exit ?_); try simp only [thenP]) | (with_reducible refine g7 ?_; simp only [blockP, thenP, reduceIte]) | with_reducible refine g8 ?_)
          refine LL.go ⟨k + 1, hlt⟩ [0, 1, 2, 3, 4] ⟨by rfl, by simp [a4, seenL_app, seenL_one, iRows_app, hof0, hof1], by simp [or_imp, forall_and, a4, seenL_app, seenL_one, iRows_app, hof0, hof1] <;> (try (intro _hne; simp [_hne])), by decide⟩ ?_
          simp; omega
  · obtain rfl : k = R.length := by omega
    have hne := mkne
    refine AWp.shutL 23 2 2 (ty := 40) (cells := [.own 3 (mkK x lo hi R.length).length 1, .own 4 (mkK x lo hi R.length).length 1]) (ds := [.list (iRows (seenL (mkK x lo hi R.length) (-1))), .list (iRows (seenL (mkK x lo hi R.length) 0))]) (is := [3, 4]) (by rfl) (by simp [hne]) (by simp [hne, seenL_len]) (by simp) (by simp [maxLen]) ?_
    repeat (first | (with_reducible first | refine g1 fun _ => ?_ | refine g2 fun _ => ?_ | refine g3 ?_) | ((first | refine g4 ?_ | refine g5 fun _ _ => ?_ | refine g6 ?_); simp [-getElem?_pos, z0, z1, z2, hne]) | ((first | refine AWp.ret ?_ | refine AWp.skip ?_ | refine AWp.exit ?_); try simp only [thenP]) | (with_reducible refine g7 ?_; simp only [blockP, thenP, reduceIte]) | with_reducible refine g8 ?_)
    exact JJ.go [2] ⟨by rfl, by simp [hne, mkall, mklen, seenRows, listRows, List.range_succ], by simp [or_imp, forall_and, hne, mkall, mklen, seenRows, listRows, List.range_succ], by decide⟩
end Go.Proofs.Ytigpefjeelgfdaa.Eng

/-
  Layer 1's statements, by the engine: HeatBlamed's loop over the recipes of a works of 2 steps.
-/
namespace Go.Proofs.Ytigpefjeelgfdaa.Eng
open Go.RowKit

set_option maxRecDepth 100000 in
set_option maxHeartbeats 8000000 in
theorem blame_case2 {x : Works} {lo hi : Int} {M : Nat} {B : List Int} {lr : List (List Int)} {R : List Rec} (bc : BC x lo hi 2 M B lr R) {cm cr : Code} (hm : Try.f9.body.bind (tailO 13) = some cm) (hr : Try.f9.body.bind (tailO 16) = some cr) {Q : Post}
    (hrest : AWp Try.prog true 330 cr 1 (mkSt [(13, .d (intL B)), (15, .d (.list (listRows lr))), (17, .d (iD M)), (23, .own 0 3 1), (24, .d (iD M))] [(0, .row 40 1 (listRows (seenRows (mkN x lo hi) 2)) false)]) Q) :
    AWp Try.prog true 330 cm 2 (mkSt [(4, .ptr 0 0 0), (12, .ptr 1 0 0), (13, .d (intL B)), (15, .d (.list (listRows lr))), (17, .d (iD M)), (22, .d (recsD R))] [(0, bW x), (1, bR lo hi)]) Q := by
  obtain ⟨hS, kyes, kno, mkall, mkne, mklen, mkle, hRl, hrl⟩ := bc
  have hlen2 : lr.length = 2 := hrl
  have wz : IntKind.i64.wrap 3 = 3 := by decide
  cases (show some _ = some cm from hm)
  cases (show some _ = some cr from hr)
  iterate 6 (first | (with_reducible first | refine g1 fun _ => ?_ | refine g2 fun _ => ?_ | refine g3 ?_) | ((first | refine g4 ?_ | refine g5 fun _ _ => ?_ | refine g6 ?_); simp [-getElem?_pos, z0, z1, z2, hS, wz]) | ((first | refine AWp.ret ?_ | refine AWp.skip ?_ | refine AWp.exit ?_); try simp only [thenP]) | (with_reducible refine g7 ?_; simp only [blockP, thenP, reduceIte]) | with_reducible refine g8 ?_)
  refine AWp.seqFits hrest fun kj => ?_
  repeat (first | (with_reducible first | refine g1 fun _ => ?_ | refine g2 fun _ => ?_ | refine g3 ?_) | ((first | refine g4 ?_ | refine g5 fun _ _ => ?_ | refine g6 ?_); simp [-getElem?_pos, z0, z1, z2, hS]) | ((first | refine AWp.ret ?_ | refine AWp.skip ?_ | refine AWp.exit ?_); try simp only [thenP]) | (with_reducible refine g7 ?_; simp only [blockP, thenP, reduceIte]) | with_reducible refine g8 ?_)
  refine AWp.loopK (ι := { k : Nat // k ≤ R.length }) (n := 6) (fun k => s5 B lr M R 3 (mkK x lo hi k.1).length k.1 []) (fun k => [(0, bW x), (1, bR lo hi), (2, .box 40 (if mkK x lo hi k.1 = [] then [.nilS, .nilS, .nilS] else [.own 3 (mkK x lo hi k.1).length 1, .own 4 (mkK x lo hi k.1).length 1, .own 5 (mkK x lo hi k.1).length 1]) false)] ++ (if mkK x lo hi k.1 = [] then [] else [rw1 3 (mkK x lo hi k.1) (-1), rw1 4 (mkK x lo hi k.1) 0, rw1 5 (mkK x lo hi k.1) 1])) (fun k => R.length - k.1) ⟨0, Nat.zero_le _⟩ [0, 1, 6, 100, 101, 102] ?_ ?_
  · refine ⟨by rfl, by simp [mkK_zero], by simp [or_imp, forall_and, mkK_zero] <;> (try (intro _hne; simp [_hne])), by decide⟩
  rintro ⟨k, hk⟩ kk
  by_cases hlt : k < R.length
  · obtain ⟨r, hr⟩ : ∃ r, R[k]? = some r := ⟨_, List.getElem?_eq_getElem hlt⟩
    have wk : IntKind.i64.wrap ((k : Int) + 1) = (k : Int) + 1 := wrap64_in (by omega)
    rcases hm : madeR x lo hi r with _ | _
    · obtain ⟨a1, a2⟩ := kno k r hr hm
      by_cases hM0 : mkK x lo hi k = []
      all_goals
        repeat (first | (with_reducible first | refine g1 fun _ => ?_ | refine g2 fun _ => ?_ | refine g3 ?_) | ((first | refine g4 ?_ | refine g5 fun _ _ => ?_ | refine g6 ?_); simp [-getElem?_pos, z0, z1, z2, hlt, hr, hM0]) | ((first | refine AWp.ret ?_ | refine AWp.skip ?_ | refine AWp.exit ?_); try simp only [thenP]) | (with_reducible refine g7 ?_; simp only [blockP, thenP, reduceIte]) | with_reducible refine g8 ?_)
        refine Exec.call [] a1 ?_ rfl ?_ ?_; (focus simp [-getElem?_pos]); (focus simp [-getElem?_pos, z0, z1, z2, hlt, hr, hM0, recD]); simp [-getElem?_pos, z0, z1, z2, hlt, hr, hM0, recD]
        repeat (first | (with_reducible first | refine g1 fun _ => ?_ | refine g2 fun _ => ?_ | refine g3 ?_) | ((first | refine g4 ?_ | refine g5 fun _ _ => ?_ | refine g6 ?_); simp [-getElem?_pos, z0, z1, z2, wk]) | ((first | refine AWp.ret ?_ | refine AWp.skip ?_ | refine AWp.exit ?_); try simp only [thenP]) | (with_reducible refine g7 ?_; simp only [blockP, thenP, reduceIte]) | with_reducible refine g8 ?_)
        refine LL.go ⟨k + 1, hlt⟩ [0, 1, 2, 3, 4, 5] ⟨by rfl, by simp [a2, hM0], by simp [or_imp, forall_and, a2, hM0] <;> (try (intro _hne; simp [_hne])), by decide⟩ ?_
        simp; omega
    · obtain ⟨a1, a2, a3, a4, a5, a6⟩ := kyes k r hr hm
      obtain ⟨p1, q1, c1⟩ : lr[0]? = some (leftN x lo hi 0) ∧ r.2[0]? = some (ofN r 0) ∧ ACall Try.prog 49 [intL (leftN x lo hi 0), iD (ofN r 0)] (bD true) := a6 0 (by omega)
      obtain ⟨p2, q2, c2⟩ : lr[1]? = some (leftN x lo hi 1) ∧ r.2[1]? = some (ofN r 1) ∧ ACall Try.prog 49 [intL (leftN x lo hi 1), iD (ofN r 1)] (bD true) := a6 1 (by omega)
      have hl400 := Nat.le_trans (mkle k) hRl
      generalize histVals x r.1 r.2 lo hi = hv at *
      obtain ⟨y0, hy0⟩ : ∃ y, r.1 = y := ⟨_, rfl⟩
      have hof0 : ofN r (-1) = y0 := hy0
      obtain ⟨y1, hof1⟩ : ∃ y, ofN r 0 = y := ⟨_, rfl⟩
      obtain ⟨l1, hl1⟩ : ∃ l, leftN x lo hi 0 = l := ⟨_, rfl⟩
      rw [hof1] at q1 c1; rw [hl1] at p1 c1
      obtain ⟨y2, hof2⟩ : ∃ y, ofN r 1 = y := ⟨_, rfl⟩
      obtain ⟨l2, hl2⟩ : ∃ l, leftN x lo hi 1 = l := ⟨_, rfl⟩
      rw [hof2] at q2 c2; rw [hl2] at p2 c2
      obtain ⟨l, hl⟩ : ∃ l, mkK x lo hi k = l := ⟨_, rfl⟩
      rw [hl] at a4 hl400
      have wl : IntKind.i64.wrap ((l.length : Int) + 1) = (l.length : Int) + 1 := wrap64_in (by omega)
      have f0 : (seenL l (-1)).length = l.length := seenL_len l (-1)
      have f1 : (seenL l 0).length = l.length := seenL_len l 0
      have f2 : (seenL l 1).length = l.length := seenL_len l 1
      rw [hy0] at a3
      have fb : fitsB (l.length + 1) 8 = true := fitsB_small (by omega) (by decide)
      by_cases hM0 : l = []
      · subst hM0
        have w1 : IntKind.i64.wrap 1 = 1 := by decide
        repeat (first | (with_reducible first | refine g1 fun _ => ?_ | refine g2 fun _ => ?_ | refine g3 ?_) | ((first | refine g4 ?_ | refine g5 fun _ _ => ?_ | refine g6 ?_); simp [-getElem?_pos, z0, z1, z2, hlt, hr, hl, hy0]) | ((first | refine AWp.ret ?_ | refine AWp.skip ?_ | refine AWp.exit ?_); try simp only [thenP]) | (with_reducible refine g7 ?_; simp only [blockP, thenP, reduceIte]) | with_reducible refine g8 ?_)
        refine Exec.call [] a1 ?_ rfl ?_ ?_; (focus simp [-getElem?_pos]); (focus simp [-getElem?_pos, z0, z1, z2, hlt, hr, hl, hy0, recD]); simp [-getElem?_pos, z0, z1, z2, hlt, hr, hl, hy0, recD]
        repeat (first | (with_reducible first | refine g1 fun _ => ?_ | refine g2 fun _ => ?_ | refine g3 ?_) | ((first | refine g4 ?_ | refine g5 fun _ _ => ?_ | refine g6 ?_); simp [-getElem?_pos, z0, z1, z2, hlt, hr, hl, hy0]) | ((first | refine AWp.ret ?_ | refine AWp.skip ?_ | refine AWp.exit ?_); try simp only [thenP]) | (with_reducible refine g7 ?_; simp only [blockP, thenP, reduceIte]) | with_reducible refine g8 ?_)
        refine Exec.call [] a2 ?_ rfl ?_ ?_; (focus simp [-getElem?_pos]); (focus simp [-getElem?_pos, z0, z1, z2, hlt, hr, hl, hy0, recD]); simp [-getElem?_pos, z0, z1, z2, hlt, hr, hl, hy0, recD]
        refine Exec.call [] a3 ?_ rfl ?_ ?_; (focus simp [-getElem?_pos]); (focus simp [-getElem?_pos, z0, z1, z2, hlt, hr, hl, hy0, recD]); simp [-getElem?_pos, z0, z1, z2, hlt, hr, hl, hy0, recD]
        repeat (first | (with_reducible first | refine g1 fun _ => ?_ | refine g2 fun _ => ?_ | refine g3 ?_) | ((first | refine g4 ?_ | refine g5 fun _ _ => ?_ | refine g6 ?_); simp [-getElem?_pos, z0, z1, z2, hlt, hr, hl, hy0, w1]) | ((first | refine AWp.ret ?_ | refine AWp.skip ?_ | refine AWp.exit ?_); try simp only [thenP]) | (with_reducible refine g7 ?_; simp only [blockP, thenP, reduceIte]) | with_reducible refine g8 ?_)
        refine AWp.loopK (ι := { i : Nat // i ≤ 2 }) (n := 6) (fun i => if i.1 = 0 then s5 B lr M R 3 (1) k [(28, .d (iD 0))] else if i.1 = 1 then s5 B lr M R 3 (1) k [(28, .d (iD 1))] else s5 B lr M R 3 (1) k [(28, .d (iD 2))]) (fun i => if i.1 = 0 then [(0, bW x), (1, bR lo hi), (2, .box 40 [.own 3 1 1, .nilS, .nilS] false), rw3 3 y0] else if i.1 = 1 then [(0, bW x), (1, bR lo hi), (2, .box 40 [.own 3 1 1, .own 4 1 1, .nilS] false), rw3 3 y0, rw3 4 y1] else [(0, bW x), (1, bR lo hi), (2, .box 40 [.own 3 1 1, .own 4 1 1, .own 5 1 1] false), rw3 3 y0, rw3 4 y1, rw3 5 y2]) (fun i => 2 - i.1) ⟨0, by omega⟩ [0, 1, 2, 56, 100, 101] ?_ ?_
        · refine ⟨by rfl, by simp [hlt, hr, hl, hy0], by simp [or_imp, forall_and, hlt, hr, hl, hy0] <;> (try (intro _hne; simp [_hne])), by decide⟩
        rintro ⟨i, hi⟩ ki
        match i, hi with
        | 0, _ =>
          have wi : IntKind.i64.wrap 1 = 1 := by decide
          repeat (first | (with_reducible first | refine g1 fun _ => ?_ | refine g2 fun _ => ?_ | refine g3 ?_) | ((first | refine g4 ?_ | refine g5 fun _ _ => ?_ | refine g6 ?_); simp [-getElem?_pos, z0, z1, z2, hlen2, p1, q1, hlt, hr, a5]) | ((first | refine AWp.ret ?_ | refine AWp.skip ?_ | refine AWp.exit ?_); try simp only [thenP]) | (with_reducible refine g7 ?_; simp only [blockP, thenP, reduceIte]) | with_reducible refine g8 ?_)
          refine Exec.call [] c1 ?_ rfl ?_ ?_; (focus simp [-getElem?_pos]); (focus simp [-getElem?_pos, z0, z1, z2, hlen2, p1, q1, hlt, hr, a5]); simp [-getElem?_pos, z0, z1, z2, hlen2, p1, q1, hlt, hr, a5]
          repeat (first | (with_reducible first | refine g1 fun _ => ?_ | refine g2 fun _ => ?_ | refine g3 ?_) | ((first | refine g4 ?_ | refine g5 fun _ _ => ?_ | refine g6 ?_); simp [-getElem?_pos, z0, z1, z2, hlen2, p1, q1, hlt, hr, a5, wi]) | ((first | refine AWp.ret ?_ | refine AWp.skip ?_ | refine AWp.exit ?_); try simp only [thenP]) | (with_reducible refine g7 ?_; simp only [blockP, thenP, reduceIte]) | with_reducible refine g8 ?_)
          refine LL.go ⟨1, by omega⟩ [0, 1, 2, 3, 41, 102] ⟨by rfl, by simp [hlen2, p1, q1, hlt, hr, a5, wi], by simp [or_imp, forall_and, hlen2, p1, q1, hlt, hr, a5, wi] <;> (try (intro _hne; simp [_hne])), by decide⟩ ?_
          simp
        | 1, _ =>
          have wi : IntKind.i64.wrap 2 = 2 := by decide
          repeat (first | (with_reducible first | refine g1 fun _ => ?_ | refine g2 fun _ => ?_ | refine g3 ?_) | ((first | refine g4 ?_ | refine g5 fun _ _ => ?_ | refine g6 ?_); simp [-getElem?_pos, z0, z1, z2, hlen2, p2, q2, hlt, hr, a5]) | ((first | refine AWp.ret ?_ | refine AWp.skip ?_ | refine AWp.exit ?_); try simp only [thenP]) | (with_reducible refine g7 ?_; simp only [blockP, thenP, reduceIte]) | with_reducible refine g8 ?_)
          refine Exec.call [] c2 ?_ rfl ?_ ?_; (focus simp [-getElem?_pos]); (focus simp [-getElem?_pos, z0, z1, z2, hlen2, p2, q2, hlt, hr, a5]); simp [-getElem?_pos, z0, z1, z2, hlen2, p2, q2, hlt, hr, a5]
          repeat (first | (with_reducible first | refine g1 fun _ => ?_ | refine g2 fun _ => ?_ | refine g3 ?_) | ((first | refine g4 ?_ | refine g5 fun _ _ => ?_ | refine g6 ?_); simp [-getElem?_pos, z0, z1, z2, hlen2, p2, q2, hlt, hr, a5, wi]) | ((first | refine AWp.ret ?_ | refine AWp.skip ?_ | refine AWp.exit ?_); try simp only [thenP]) | (with_reducible refine g7 ?_; simp only [blockP, thenP, reduceIte]) | with_reducible refine g8 ?_)
          refine LL.go ⟨2, by omega⟩ [0, 1, 2, 3, 4, 41] ⟨by rfl, by simp [hlen2, p2, q2, hlt, hr, a5, wi], by simp [or_imp, forall_and, hlen2, p2, q2, hlt, hr, a5, wi] <;> (try (intro _hne; simp [_hne])), by decide⟩ ?_
          simp
        | 2, _ =>
          repeat (first | (with_reducible first | refine g1 fun _ => ?_ | refine g2 fun _ => ?_ | refine g3 ?_) | ((first | refine g4 ?_ | refine g5 fun _ _ => ?_ | refine g6 ?_); simp [-getElem?_pos, z0, z1, z2, hlen2, hlt, hr, hl, hy0, wk]) | ((first | refine AWp.ret ?_ | refine AWp.skip ?_ | refine AWp.exit ?_); try simp only [thenP]) | (with_reducible refine g7 ?_; simp only [blockP, thenP, reduceIte]) | with_reducible refine g8 ?_)
          refine LL.go ⟨k + 1, hlt⟩ [0, 1, 2, 3, 4, 5] ⟨by rfl, by simp [a4, seenL_app, seenL_one, iRows_app, hof0, hof1, hof2], by simp [or_imp, forall_and, a4, seenL_app, seenL_one, iRows_app, hof0, hof1, hof2] <;> (try (intro _hne; simp [_hne])), by decide⟩ ?_
          simp; omega
      · repeat (first | (with_reducible first | refine g1 fun _ => ?_ | refine g2 fun _ => ?_ | refine g3 ?_) | ((first | refine g4 ?_ | refine g5 fun _ _ => ?_ | refine g6 ?_); simp [-getElem?_pos, z0, z1, z2, hlt, hr, hl, hM0, hy0]) | ((first | refine AWp.ret ?_ | refine AWp.skip ?_ | refine AWp.exit ?_); try simp only [thenP]) | (with_reducible refine g7 ?_; simp only [blockP, thenP, reduceIte]) | with_reducible refine g8 ?_)
        refine Exec.call [] a1 ?_ rfl ?_ ?_; (focus simp [-getElem?_pos]); (focus simp [-getElem?_pos, z0, z1, z2, hlt, hr, hl, hM0, hy0, recD]); simp [-getElem?_pos, z0, z1, z2, hlt, hr, hl, hM0, hy0, recD]
        repeat (first | (with_reducible first | refine g1 fun _ => ?_ | refine g2 fun _ => ?_ | refine g3 ?_) | ((first | refine g4 ?_ | refine g5 fun _ _ => ?_ | refine g6 ?_); simp [-getElem?_pos, z0, z1, z2, hlt, hr, hl, hM0, hy0]) | ((first | refine AWp.ret ?_ | refine AWp.skip ?_ | refine AWp.exit ?_); try simp only [thenP]) | (with_reducible refine g7 ?_; simp only [blockP, thenP, reduceIte]) | with_reducible refine g8 ?_)
        refine Exec.call [] a2 ?_ rfl ?_ ?_; (focus simp [-getElem?_pos]); (focus simp [-getElem?_pos, z0, z1, z2, hlt, hr, hl, hM0, hy0, recD]); simp [-getElem?_pos, z0, z1, z2, hlt, hr, hl, hM0, hy0, recD]
        refine Exec.call [] a3 ?_ rfl ?_ ?_; (focus simp [-getElem?_pos]); (focus simp [-getElem?_pos, z0, z1, z2, hlt, hr, hl, hM0, hy0, recD]); simp [-getElem?_pos, z0, z1, z2, hlt, hr, hl, hM0, hy0, recD]
        repeat (first | (with_reducible first | refine g1 fun _ => ?_ | refine g2 fun _ => ?_ | refine g3 ?_) | ((first | refine g4 ?_ | refine g5 fun _ _ => ?_ | refine g6 ?_); simp [-getElem?_pos, z0, z1, z2, hlt, hr, hl, hM0, hy0, wl, f0, fb]) | ((first | refine AWp.ret ?_ | refine AWp.skip ?_ | refine AWp.exit ?_); try simp only [thenP]) | (with_reducible refine g7 ?_; simp only [blockP, thenP, reduceIte]) | with_reducible refine g8 ?_)
        refine AWp.loopK (ι := { i : Nat // i ≤ 2 }) (n := 6) (fun i => if i.1 = 0 then s5 B lr M R 3 ((l.length : Int) + 1) k [(28, .d (iD 0))] else if i.1 = 1 then s5 B lr M R 3 ((l.length : Int) + 1) k [(28, .d (iD 1))] else s5 B lr M R 3 ((l.length : Int) + 1) k [(28, .d (iD 2))]) (fun i => if i.1 = 0 then [(0, bW x), (1, bR lo hi), (2, .box 40 [.own 3 (l.length + 1) 1, .own 4 l.length 1, .own 5 l.length 1] false), rw2 3 l (-1) y0, rw1 4 l 0, rw1 5 l 1] else if i.1 = 1 then [(0, bW x), (1, bR lo hi), (2, .box 40 [.own 3 (l.length + 1) 1, .own 4 (l.length + 1) 1, .own 5 l.length 1] false), rw2 3 l (-1) y0, rw2 4 l 0 y1, rw1 5 l 1] else [(0, bW x), (1, bR lo hi), (2, .box 40 [.own 3 (l.length + 1) 1, .own 4 (l.length + 1) 1, .own 5 (l.length + 1) 1] false), rw2 3 l (-1) y0, rw2 4 l 0 y1, rw2 5 l 1 y2]) (fun i => 2 - i.1) ⟨0, by omega⟩ [0, 1, 2, 56, 4, 5] ?_ ?_
        · refine ⟨by rfl, by simp [hlt, hr, hl, hM0, hy0, f0, fb], by simp [or_imp, forall_and, hlt, hr, hl, hM0, hy0, f0, fb] <;> (try (intro _hne; simp [_hne])), by decide⟩
        rintro ⟨i, hi⟩ ki
        match i, hi with
        | 0, _ =>
          have wi : IntKind.i64.wrap 1 = 1 := by decide
          repeat (first | (with_reducible first | refine g1 fun _ => ?_ | refine g2 fun _ => ?_ | refine g3 ?_) | ((first | refine g4 ?_ | refine g5 fun _ _ => ?_ | refine g6 ?_); simp [-getElem?_pos, z0, z1, z2, hlen2, p1, q1, f1, hlt, hr, a5, fb]) | ((first | refine AWp.ret ?_ | refine AWp.skip ?_ | refine AWp.exit ?_); try simp only [thenP]) | (with_reducible refine g7 ?_; simp only [blockP, thenP, reduceIte]) | with_reducible refine g8 ?_)
          refine Exec.call [] c1 ?_ rfl ?_ ?_; (focus simp [-getElem?_pos]); (focus simp [-getElem?_pos, z0, z1, z2, hlen2, p1, q1, f1, hlt, hr, a5, fb]); simp [-getElem?_pos, z0, z1, z2, hlen2, p1, q1, f1, hlt, hr, a5, fb]
          repeat (first | (with_reducible first | refine g1 fun _ => ?_ | refine g2 fun _ => ?_ | refine g3 ?_) | ((first | refine g4 ?_ | refine g5 fun _ _ => ?_ | refine g6 ?_); simp [-getElem?_pos, z0, z1, z2, hlen2, p1, q1, f1, hlt, hr, a5, fb, wi]) | ((first | refine AWp.ret ?_ | refine AWp.skip ?_ | refine AWp.exit ?_); try simp only [thenP]) | (with_reducible refine g7 ?_; simp only [blockP, thenP, reduceIte]) | with_reducible refine g8 ?_)
          refine LL.go ⟨1, by omega⟩ [0, 1, 2, 3, 41, 5] ⟨by rfl, by simp [hlen2, p1, q1, f1, hlt, hr, a5, fb, wi], by simp [or_imp, forall_and, hlen2, p1, q1, f1, hlt, hr, a5, fb, wi] <;> (try (intro _hne; simp [_hne])), by decide⟩ ?_
          simp
        | 1, _ =>
          have wi : IntKind.i64.wrap 2 = 2 := by decide
          repeat (first | (with_reducible first | refine g1 fun _ => ?_ | refine g2 fun _ => ?_ | refine g3 ?_) | ((first | refine g4 ?_ | refine g5 fun _ _ => ?_ | refine g6 ?_); simp [-getElem?_pos, z0, z1, z2, hlen2, p2, q2, f2, hlt, hr, a5, fb]) | ((first | refine AWp.ret ?_ | refine AWp.skip ?_ | refine AWp.exit ?_); try simp only [thenP]) | (with_reducible refine g7 ?_; simp only [blockP, thenP, reduceIte]) | with_reducible refine g8 ?_)
          refine Exec.call [] c2 ?_ rfl ?_ ?_; (focus simp [-getElem?_pos]); (focus simp [-getElem?_pos, z0, z1, z2, hlen2, p2, q2, f2, hlt, hr, a5, fb]); simp [-getElem?_pos, z0, z1, z2, hlen2, p2, q2, f2, hlt, hr, a5, fb]
          repeat (first | (with_reducible first | refine g1 fun _ => ?_ | refine g2 fun _ => ?_ | refine g3 ?_) | ((first | refine g4 ?_ | refine g5 fun _ _ => ?_ | refine g6 ?_); simp [-getElem?_pos, z0, z1, z2, hlen2, p2, q2, f2, hlt, hr, a5, fb, wi]) | ((first | refine AWp.ret ?_ | refine AWp.skip ?_ | refine AWp.exit ?_); try simp only [thenP]) | (with_reducible refine g7 ?_; simp only [blockP, thenP, reduceIte]) | with_reducible refine g8 ?_)
          refine LL.go ⟨2, by omega⟩ [0, 1, 2, 3, 4, 41] ⟨by rfl, by simp [hlen2, p2, q2, f2, hlt, hr, a5, fb, wi], by simp [or_imp, forall_and, hlen2, p2, q2, f2, hlt, hr, a5, fb, wi] <;> (try (intro _hne; simp [_hne])), by decide⟩ ?_
          simp
        | 2, _ =>
          repeat (first | (with_reducible first | refine g1 fun _ => ?_ | refine g2 fun _ => ?_ | refine g3 ?_) | ((first | refine g4 ?_ | refine g5 fun _ _ => ?_ | refine g6 ?_); simp [-getElem?_pos, z0, z1, z2, hlen2, hlt, hr, hl, hM0, hy0, wk]) | ((first | refine AWp.ret ?_ | refine AWp.skip ?_ | refine AWp.exit ?_); try simp only [thenP]) | (with_reducible refine g7 ?_; simp only [blockP, thenP, reduceIte]) | with_reducible refine g8 ?_)
          refine LL.go ⟨k + 1, hlt⟩ [0, 1, 2, 3, 4, 5] ⟨by rfl, by simp [a4, seenL_app, seenL_one, iRows_app, hof0, hof1, hof2], by simp [or_imp, forall_and, a4, seenL_app, seenL_one, iRows_app, hof0, hof1, hof2] <;> (try (intro _hne; simp [_hne])), by decide⟩ ?_
          simp; omega
  · obtain rfl : k = R.length := by omega
    have hne := mkne
    refine AWp.shutL 23 2 3 (ty := 40) (cells := [.own 3 (mkK x lo hi R.length).length 1, .own 4 (mkK x lo hi R.length).length 1, .own 5 (mkK x lo hi R.length).length 1]) (ds := [.list (iRows (seenL (mkK x lo hi R.length) (-1))), .list (iRows (seenL (mkK x lo hi R.length) 0)), .list (iRows (seenL (mkK x lo hi R.length) 1))]) (is := [3, 4, 5]) (by rfl) (by simp [hne]) (by simp [hne, seenL_len]) (by simp) (by simp [maxLen]) ?_
    repeat (first | (with_reducible first | refine g1 fun _ => ?_ | refine g2 fun _ => ?_ | refine g3 ?_) | ((first | refine g4 ?_ | refine g5 fun _ _ => ?_ | refine g6 ?_); simp [-getElem?_pos, z0, z1, z2, hne]) | ((first | refine AWp.ret ?_ | refine AWp.skip ?_ | refine AWp.exit ?_); try simp only [thenP]) | (with_reducible refine g7 ?_; simp only [blockP, thenP, reduceIte]) | with_reducible refine g8 ?_)
    exact JJ.go [2] ⟨by rfl, by simp [hne, mkall, mklen, seenRows, listRows, List.range_succ], by simp [or_imp, forall_and, hne, mkall, mklen, seenRows, listRows, List.range_succ], by decide⟩
end Go.Proofs.Ytigpefjeelgfdaa.Eng

/-
  Layer 1's statements, by the engine: HeatBlamed's loop over the recipes of a works of 3 steps.
-/
namespace Go.Proofs.Ytigpefjeelgfdaa.Eng
open Go.RowKit

set_option maxRecDepth 100000 in
set_option maxHeartbeats 8000000 in
theorem blame_case3 {x : Works} {lo hi : Int} {M : Nat} {B : List Int} {lr : List (List Int)} {R : List Rec} (bc : BC x lo hi 3 M B lr R) {cm cr : Code} (hm : Try.f9.body.bind (tailO 13) = some cm) (hr : Try.f9.body.bind (tailO 16) = some cr) {Q : Post}
    (hrest : AWp Try.prog true 330 cr 1 (mkSt [(13, .d (intL B)), (15, .d (.list (listRows lr))), (17, .d (iD M)), (23, .own 0 4 1), (24, .d (iD M))] [(0, .row 40 1 (listRows (seenRows (mkN x lo hi) 3)) false)]) Q) :
    AWp Try.prog true 330 cm 2 (mkSt [(4, .ptr 0 0 0), (12, .ptr 1 0 0), (13, .d (intL B)), (15, .d (.list (listRows lr))), (17, .d (iD M)), (22, .d (recsD R))] [(0, bW x), (1, bR lo hi)]) Q := by
  obtain ⟨hS, kyes, kno, mkall, mkne, mklen, mkle, hRl, hrl⟩ := bc
  have hlen2 : lr.length = 3 := hrl
  have wz : IntKind.i64.wrap 4 = 4 := by decide
  cases (show some _ = some cm from hm)
  cases (show some _ = some cr from hr)
  iterate 6 (first | (with_reducible first | refine g1 fun _ => ?_ | refine g2 fun _ => ?_ | refine g3 ?_) | ((first | refine g4 ?_ | refine g5 fun _ _ => ?_ | refine g6 ?_); simp [-getElem?_pos, z0, z1, z2, hS, wz]) | ((first | refine AWp.ret ?_ | refine AWp.skip ?_ | refine AWp.exit ?_); try simp only [thenP]) | (with_reducible refine g7 ?_; simp only [blockP, thenP, reduceIte]) | with_reducible refine g8 ?_)
  refine AWp.seqFits hrest fun kj => ?_
  repeat (first | (with_reducible first | refine g1 fun _ => ?_ | refine g2 fun _ => ?_ | refine g3 ?_) | ((first | refine g4 ?_ | refine g5 fun _ _ => ?_ | refine g6 ?_); simp [-getElem?_pos, z0, z1, z2, hS]) | ((first | refine AWp.ret ?_ | refine AWp.skip ?_ | refine AWp.exit ?_); try simp only [thenP]) | (with_reducible refine g7 ?_; simp only [blockP, thenP, reduceIte]) | with_reducible refine g8 ?_)
  refine AWp.loopK (ι := { k : Nat // k ≤ R.length }) (n := 7) (fun k => s5 B lr M R 4 (mkK x lo hi k.1).length k.1 []) (fun k => [(0, bW x), (1, bR lo hi), (2, .box 40 (if mkK x lo hi k.1 = [] then [.nilS, .nilS, .nilS, .nilS] else [.own 3 (mkK x lo hi k.1).length 1, .own 4 (mkK x lo hi k.1).length 1, .own 5 (mkK x lo hi k.1).length 1, .own 6 (mkK x lo hi k.1).length 1]) false)] ++ (if mkK x lo hi k.1 = [] then [] else [rw1 3 (mkK x lo hi k.1) (-1), rw1 4 (mkK x lo hi k.1) 0, rw1 5 (mkK x lo hi k.1) 1, rw1 6 (mkK x lo hi k.1) 2])) (fun k => R.length - k.1) ⟨0, Nat.zero_le _⟩ [0, 1, 6, 100, 101, 102, 103] ?_ ?_
  · refine ⟨by rfl, by simp [mkK_zero], by simp [or_imp, forall_and, mkK_zero] <;> (try (intro _hne; simp [_hne])), by decide⟩
  rintro ⟨k, hk⟩ kk
  by_cases hlt : k < R.length
  · obtain ⟨r, hr⟩ : ∃ r, R[k]? = some r := ⟨_, List.getElem?_eq_getElem hlt⟩
    have wk : IntKind.i64.wrap ((k : Int) + 1) = (k : Int) + 1 := wrap64_in (by omega)
    rcases hm : madeR x lo hi r with _ | _
    · obtain ⟨a1, a2⟩ := kno k r hr hm
      by_cases hM0 : mkK x lo hi k = []
      all_goals
        repeat (first | (with_reducible first | refine g1 fun _ => ?_ | refine g2 fun _ => ?_ | refine g3 ?_) | ((first | refine g4 ?_ | refine g5 fun _ _ => ?_ | refine g6 ?_); simp [-getElem?_pos, z0, z1, z2, hlt, hr, hM0]) | ((first | refine AWp.ret ?_ | refine AWp.skip ?_ | refine AWp.exit ?_); try simp only [thenP]) | (with_reducible refine g7 ?_; simp only [blockP, thenP, reduceIte]) | with_reducible refine g8 ?_)
        refine Exec.call [] a1 ?_ rfl ?_ ?_; (focus simp [-getElem?_pos]); (focus simp [-getElem?_pos, z0, z1, z2, hlt, hr, hM0, recD]); simp [-getElem?_pos, z0, z1, z2, hlt, hr, hM0, recD]
        repeat (first | (with_reducible first | refine g1 fun _ => ?_ | refine g2 fun _ => ?_ | refine g3 ?_) | ((first | refine g4 ?_ | refine g5 fun _ _ => ?_ | refine g6 ?_); simp [-getElem?_pos, z0, z1, z2, wk]) | ((first | refine AWp.ret ?_ | refine AWp.skip ?_ | refine AWp.exit ?_); try simp only [thenP]) | (with_reducible refine g7 ?_; simp only [blockP, thenP, reduceIte]) | with_reducible refine g8 ?_)
        refine LL.go ⟨k + 1, hlt⟩ [0, 1, 2, 3, 4, 5, 6] ⟨by rfl, by simp [a2, hM0], by simp [or_imp, forall_and, a2, hM0] <;> (try (intro _hne; simp [_hne])), by decide⟩ ?_
        simp; omega
    · obtain ⟨a1, a2, a3, a4, a5, a6⟩ := kyes k r hr hm
      obtain ⟨p1, q1, c1⟩ : lr[0]? = some (leftN x lo hi 0) ∧ r.2[0]? = some (ofN r 0) ∧ ACall Try.prog 49 [intL (leftN x lo hi 0), iD (ofN r 0)] (bD true) := a6 0 (by omega)
      obtain ⟨p2, q2, c2⟩ : lr[1]? = some (leftN x lo hi 1) ∧ r.2[1]? = some (ofN r 1) ∧ ACall Try.prog 49 [intL (leftN x lo hi 1), iD (ofN r 1)] (bD true) := a6 1 (by omega)
      obtain ⟨p3, q3, c3⟩ : lr[2]? = some (leftN x lo hi 2) ∧ r.2[2]? = some (ofN r 2) ∧ ACall Try.prog 49 [intL (leftN x lo hi 2), iD (ofN r 2)] (bD true) := a6 2 (by omega)
      have hl400 := Nat.le_trans (mkle k) hRl
      generalize histVals x r.1 r.2 lo hi = hv at *
      obtain ⟨y0, hy0⟩ : ∃ y, r.1 = y := ⟨_, rfl⟩
      have hof0 : ofN r (-1) = y0 := hy0
      obtain ⟨y1, hof1⟩ : ∃ y, ofN r 0 = y := ⟨_, rfl⟩
      obtain ⟨l1, hl1⟩ : ∃ l, leftN x lo hi 0 = l := ⟨_, rfl⟩
      rw [hof1] at q1 c1; rw [hl1] at p1 c1
      obtain ⟨y2, hof2⟩ : ∃ y, ofN r 1 = y := ⟨_, rfl⟩
      obtain ⟨l2, hl2⟩ : ∃ l, leftN x lo hi 1 = l := ⟨_, rfl⟩
      rw [hof2] at q2 c2; rw [hl2] at p2 c2
      obtain ⟨y3, hof3⟩ : ∃ y, ofN r 2 = y := ⟨_, rfl⟩
      obtain ⟨l3, hl3⟩ : ∃ l, leftN x lo hi 2 = l := ⟨_, rfl⟩
      rw [hof3] at q3 c3; rw [hl3] at p3 c3
      obtain ⟨l, hl⟩ : ∃ l, mkK x lo hi k = l := ⟨_, rfl⟩
      rw [hl] at a4 hl400
      have wl : IntKind.i64.wrap ((l.length : Int) + 1) = (l.length : Int) + 1 := wrap64_in (by omega)
      have f0 : (seenL l (-1)).length = l.length := seenL_len l (-1)
      have f1 : (seenL l 0).length = l.length := seenL_len l 0
      have f2 : (seenL l 1).length = l.length := seenL_len l 1
      have f3 : (seenL l 2).length = l.length := seenL_len l 2
      rw [hy0] at a3
      have fb : fitsB (l.length + 1) 8 = true := fitsB_small (by omega) (by decide)
      by_cases hM0 : l = []
      · subst hM0
        have w1 : IntKind.i64.wrap 1 = 1 := by decide
        repeat (first | (with_reducible first | refine g1 fun _ => ?_ | refine g2 fun _ => ?_ | refine g3 ?_) | ((first | refine g4 ?_ | refine g5 fun _ _ => ?_ | refine g6 ?_); simp [-getElem?_pos, z0, z1, z2, hlt, hr, hl, hy0]) | ((first | refine AWp.ret ?_ | refine AWp.skip ?_ | refine AWp.exit ?_); try simp only [thenP]) | (with_reducible refine g7 ?_; simp only [blockP, thenP, reduceIte]) | with_reducible refine g8 ?_)
        refine Exec.call [] a1 ?_ rfl ?_ ?_; (focus simp [-getElem?_pos]); (focus simp [-getElem?_pos, z0, z1, z2, hlt, hr, hl, hy0, recD]); simp [-getElem?_pos, z0, z1, z2, hlt, hr, hl, hy0, recD]
        repeat (first | (with_reducible first | refine g1 fun _ => ?_ | refine g2 fun _ => ?_ | refine g3 ?_) | ((first | refine g4 ?_ | refine g5 fun _ _ => ?_ | refine g6 ?_); simp [-getElem?_pos, z0, z1, z2, hlt, hr, hl, hy0]) | ((first | refine AWp.ret ?_ | refine AWp.skip ?_ | refine AWp.exit ?_); try simp only [thenP]) | (with_reducible refine g7 ?_; simp only [blockP, thenP, reduceIte]) | with_reducible refine g8 ?_)
        refine Exec.call [] a2 ?_ rfl ?_ ?_; (focus simp [-getElem?_pos]); (focus simp [-getElem?_pos, z0, z1, z2, hlt, hr, hl, hy0, recD]); simp [-getElem?_pos, z0, z1, z2, hlt, hr, hl, hy0, recD]
        refine Exec.call [] a3 ?_ rfl ?_ ?_; (focus simp [-getElem?_pos]); (focus simp [-getElem?_pos, z0, z1, z2, hlt, hr, hl, hy0, recD]); simp [-getElem?_pos, z0, z1, z2, hlt, hr, hl, hy0, recD]
        repeat (first | (with_reducible first | refine g1 fun _ => ?_ | refine g2 fun _ => ?_ | refine g3 ?_) | ((first | refine g4 ?_ | refine g5 fun _ _ => ?_ | refine g6 ?_); simp [-getElem?_pos, z0, z1, z2, hlt, hr, hl, hy0, w1]) | ((first | refine AWp.ret ?_ | refine AWp.skip ?_ | refine AWp.exit ?_); try simp only [thenP]) | (with_reducible refine g7 ?_; simp only [blockP, thenP, reduceIte]) | with_reducible refine g8 ?_)
        refine AWp.loopK (ι := { i : Nat // i ≤ 3 }) (n := 7) (fun i => if i.1 = 0 then s5 B lr M R 4 (1) k [(28, .d (iD 0))] else if i.1 = 1 then s5 B lr M R 4 (1) k [(28, .d (iD 1))] else if i.1 = 2 then s5 B lr M R 4 (1) k [(28, .d (iD 2))] else s5 B lr M R 4 (1) k [(28, .d (iD 3))]) (fun i => if i.1 = 0 then [(0, bW x), (1, bR lo hi), (2, .box 40 [.own 3 1 1, .nilS, .nilS, .nilS] false), rw3 3 y0] else if i.1 = 1 then [(0, bW x), (1, bR lo hi), (2, .box 40 [.own 3 1 1, .own 4 1 1, .nilS, .nilS] false), rw3 3 y0, rw3 4 y1] else if i.1 = 2 then [(0, bW x), (1, bR lo hi), (2, .box 40 [.own 3 1 1, .own 4 1 1, .own 5 1 1, .nilS] false), rw3 3 y0, rw3 4 y1, rw3 5 y2] else [(0, bW x), (1, bR lo hi), (2, .box 40 [.own 3 1 1, .own 4 1 1, .own 5 1 1, .own 6 1 1] false), rw3 3 y0, rw3 4 y1, rw3 5 y2, rw3 6 y3]) (fun i => 3 - i.1) ⟨0, by omega⟩ [0, 1, 2, 57, 100, 101, 102] ?_ ?_
        · refine ⟨by rfl, by simp [hlt, hr, hl, hy0], by simp [or_imp, forall_and, hlt, hr, hl, hy0] <;> (try (intro _hne; simp [_hne])), by decide⟩
        rintro ⟨i, hi⟩ ki
        match i, hi with
        | 0, _ =>
          have wi : IntKind.i64.wrap 1 = 1 := by decide
          repeat (first | (with_reducible first | refine g1 fun _ => ?_ | refine g2 fun _ => ?_ | refine g3 ?_) | ((first | refine g4 ?_ | refine g5 fun _ _ => ?_ | refine g6 ?_); simp [-getElem?_pos, z0, z1, z2, hlen2, p1, q1, hlt, hr, a5]) | ((first | refine AWp.ret ?_ | refine AWp.skip ?_ | refine AWp.exit ?_); try simp only [thenP]) | (with_reducible refine g7 ?_; simp only [blockP, thenP, reduceIte]) | with_reducible refine g8 ?_)
          refine Exec.call [] c1 ?_ rfl ?_ ?_; (focus simp [-getElem?_pos]); (focus simp [-getElem?_pos, z0, z1, z2, hlen2, p1, q1, hlt, hr, a5]); simp [-getElem?_pos, z0, z1, z2, hlen2, p1, q1, hlt, hr, a5]
          repeat (first | (with_reducible first | refine g1 fun _ => ?_ | refine g2 fun _ => ?_ | refine g3 ?_) | ((first | refine g4 ?_ | refine g5 fun _ _ => ?_ | refine g6 ?_); simp [-getElem?_pos, z0, z1, z2, hlen2, p1, q1, hlt, hr, a5, wi]) | ((first | refine AWp.ret ?_ | refine AWp.skip ?_ | refine AWp.exit ?_); try simp only [thenP]) | (with_reducible refine g7 ?_; simp only [blockP, thenP, reduceIte]) | with_reducible refine g8 ?_)
          refine LL.go ⟨1, by omega⟩ [0, 1, 2, 3, 42, 102, 103] ⟨by rfl, by simp [hlen2, p1, q1, hlt, hr, a5, wi], by simp [or_imp, forall_and, hlen2, p1, q1, hlt, hr, a5, wi] <;> (try (intro _hne; simp [_hne])), by decide⟩ ?_
          simp
        | 1, _ =>
          have wi : IntKind.i64.wrap 2 = 2 := by decide
          repeat (first | (with_reducible first | refine g1 fun _ => ?_ | refine g2 fun _ => ?_ | refine g3 ?_) | ((first | refine g4 ?_ | refine g5 fun _ _ => ?_ | refine g6 ?_); simp [-getElem?_pos, z0, z1, z2, hlen2, p2, q2, hlt, hr, a5]) | ((first | refine AWp.ret ?_ | refine AWp.skip ?_ | refine AWp.exit ?_); try simp only [thenP]) | (with_reducible refine g7 ?_; simp only [blockP, thenP, reduceIte]) | with_reducible refine g8 ?_)
          refine Exec.call [] c2 ?_ rfl ?_ ?_; (focus simp [-getElem?_pos]); (focus simp [-getElem?_pos, z0, z1, z2, hlen2, p2, q2, hlt, hr, a5]); simp [-getElem?_pos, z0, z1, z2, hlen2, p2, q2, hlt, hr, a5]
          repeat (first | (with_reducible first | refine g1 fun _ => ?_ | refine g2 fun _ => ?_ | refine g3 ?_) | ((first | refine g4 ?_ | refine g5 fun _ _ => ?_ | refine g6 ?_); simp [-getElem?_pos, z0, z1, z2, hlen2, p2, q2, hlt, hr, a5, wi]) | ((first | refine AWp.ret ?_ | refine AWp.skip ?_ | refine AWp.exit ?_); try simp only [thenP]) | (with_reducible refine g7 ?_; simp only [blockP, thenP, reduceIte]) | with_reducible refine g8 ?_)
          refine LL.go ⟨2, by omega⟩ [0, 1, 2, 3, 4, 42, 103] ⟨by rfl, by simp [hlen2, p2, q2, hlt, hr, a5, wi], by simp [or_imp, forall_and, hlen2, p2, q2, hlt, hr, a5, wi] <;> (try (intro _hne; simp [_hne])), by decide⟩ ?_
          simp
        | 2, _ =>
          have wi : IntKind.i64.wrap 3 = 3 := by decide
          repeat (first | (with_reducible first | refine g1 fun _ => ?_ | refine g2 fun _ => ?_ | refine g3 ?_) | ((first | refine g4 ?_ | refine g5 fun _ _ => ?_ | refine g6 ?_); simp [-getElem?_pos, z0, z1, z2, hlen2, p3, q3, hlt, hr, a5]) | ((first | refine AWp.ret ?_ | refine AWp.skip ?_ | refine AWp.exit ?_); try simp only [thenP]) | (with_reducible refine g7 ?_; simp only [blockP, thenP, reduceIte]) | with_reducible refine g8 ?_)
          refine Exec.call [] c3 ?_ rfl ?_ ?_; (focus simp [-getElem?_pos]); (focus simp [-getElem?_pos, z0, z1, z2, hlen2, p3, q3, hlt, hr, a5]); simp [-getElem?_pos, z0, z1, z2, hlen2, p3, q3, hlt, hr, a5]
          repeat (first | (with_reducible first | refine g1 fun _ => ?_ | refine g2 fun _ => ?_ | refine g3 ?_) | ((first | refine g4 ?_ | refine g5 fun _ _ => ?_ | refine g6 ?_); simp [-getElem?_pos, z0, z1, z2, hlen2, p3, q3, hlt, hr, a5, wi]) | ((first | refine AWp.ret ?_ | refine AWp.skip ?_ | refine AWp.exit ?_); try simp only [thenP]) | (with_reducible refine g7 ?_; simp only [blockP, thenP, reduceIte]) | with_reducible refine g8 ?_)
          refine LL.go ⟨3, by omega⟩ [0, 1, 2, 3, 4, 5, 42] ⟨by rfl, by simp [hlen2, p3, q3, hlt, hr, a5, wi], by simp [or_imp, forall_and, hlen2, p3, q3, hlt, hr, a5, wi] <;> (try (intro _hne; simp [_hne])), by decide⟩ ?_
          simp
        | 3, _ =>
          repeat (first | (with_reducible first | refine g1 fun _ => ?_ | refine g2 fun _ => ?_ | refine g3 ?_) | ((first | refine g4 ?_ | refine g5 fun _ _ => ?_ | refine g6 ?_); simp [-getElem?_pos, z0, z1, z2, hlen2, hlt, hr, hl, hy0, wk]) | ((first | refine AWp.ret ?_ | refine AWp.skip ?_ | refine AWp.exit ?_); try simp only [thenP]) | (with_reducible refine g7 ?_; simp only [blockP, thenP, reduceIte]) | with_reducible refine g8 ?_)
          refine LL.go ⟨k + 1, hlt⟩ [0, 1, 2, 3, 4, 5, 6] ⟨by rfl, by simp [a4, seenL_app, seenL_one, iRows_app, hof0, hof1, hof2, hof3], by simp [or_imp, forall_and, a4, seenL_app, seenL_one, iRows_app, hof0, hof1, hof2, hof3] <;> (try (intro _hne; simp [_hne])), by decide⟩ ?_
          simp; omega
      · repeat (first | (with_reducible first | refine g1 fun _ => ?_ | refine g2 fun _ => ?_ | refine g3 ?_) | ((first | refine g4 ?_ | refine g5 fun _ _ => ?_ | refine g6 ?_); simp [-getElem?_pos, z0, z1, z2, hlt, hr, hl, hM0, hy0]) | ((first | refine AWp.ret ?_ | refine AWp.skip ?_ | refine AWp.exit ?_); try simp only [thenP]) | (with_reducible refine g7 ?_; simp only [blockP, thenP, reduceIte]) | with_reducible refine g8 ?_)
        refine Exec.call [] a1 ?_ rfl ?_ ?_; (focus simp [-getElem?_pos]); (focus simp [-getElem?_pos, z0, z1, z2, hlt, hr, hl, hM0, hy0, recD]); simp [-getElem?_pos, z0, z1, z2, hlt, hr, hl, hM0, hy0, recD]
        repeat (first | (with_reducible first | refine g1 fun _ => ?_ | refine g2 fun _ => ?_ | refine g3 ?_) | ((first | refine g4 ?_ | refine g5 fun _ _ => ?_ | refine g6 ?_); simp [-getElem?_pos, z0, z1, z2, hlt, hr, hl, hM0, hy0]) | ((first | refine AWp.ret ?_ | refine AWp.skip ?_ | refine AWp.exit ?_); try simp only [thenP]) | (with_reducible refine g7 ?_; simp only [blockP, thenP, reduceIte]) | with_reducible refine g8 ?_)
        refine Exec.call [] a2 ?_ rfl ?_ ?_; (focus simp [-getElem?_pos]); (focus simp [-getElem?_pos, z0, z1, z2, hlt, hr, hl, hM0, hy0, recD]); simp [-getElem?_pos, z0, z1, z2, hlt, hr, hl, hM0, hy0, recD]
        refine Exec.call [] a3 ?_ rfl ?_ ?_; (focus simp [-getElem?_pos]); (focus simp [-getElem?_pos, z0, z1, z2, hlt, hr, hl, hM0, hy0, recD]); simp [-getElem?_pos, z0, z1, z2, hlt, hr, hl, hM0, hy0, recD]
        repeat (first | (with_reducible first | refine g1 fun _ => ?_ | refine g2 fun _ => ?_ | refine g3 ?_) | ((first | refine g4 ?_ | refine g5 fun _ _ => ?_ | refine g6 ?_); simp [-getElem?_pos, z0, z1, z2, hlt, hr, hl, hM0, hy0, wl, f0, fb]) | ((first | refine AWp.ret ?_ | refine AWp.skip ?_ | refine AWp.exit ?_); try simp only [thenP]) | (with_reducible refine g7 ?_; simp only [blockP, thenP, reduceIte]) | with_reducible refine g8 ?_)
        refine AWp.loopK (ι := { i : Nat // i ≤ 3 }) (n := 7) (fun i => if i.1 = 0 then s5 B lr M R 4 ((l.length : Int) + 1) k [(28, .d (iD 0))] else if i.1 = 1 then s5 B lr M R 4 ((l.length : Int) + 1) k [(28, .d (iD 1))] else if i.1 = 2 then s5 B lr M R 4 ((l.length : Int) + 1) k [(28, .d (iD 2))] else s5 B lr M R 4 ((l.length : Int) + 1) k [(28, .d (iD 3))]) (fun i => if i.1 = 0 then [(0, bW x), (1, bR lo hi), (2, .box 40 [.own 3 (l.length + 1) 1, .own 4 l.length 1, .own 5 l.length 1, .own 6 l.length 1] false), rw2 3 l (-1) y0, rw1 4 l 0, rw1 5 l 1, rw1 6 l 2] else if i.1 = 1 then [(0, bW x), (1, bR lo hi), (2, .box 40 [.own 3 (l.length + 1) 1, .own 4 (l.length + 1) 1, .own 5 l.length 1, .own 6 l.length 1] false), rw2 3 l (-1) y0, rw2 4 l 0 y1, rw1 5 l 1, rw1 6 l 2] else if i.1 = 2 then [(0, bW x), (1, bR lo hi), (2, .box 40 [.own 3 (l.length + 1) 1, .own 4 (l.length + 1) 1, .own 5 (l.length + 1) 1, .own 6 l.length 1] false), rw2 3 l (-1) y0, rw2 4 l 0 y1, rw2 5 l 1 y2, rw1 6 l 2] else [(0, bW x), (1, bR lo hi), (2, .box 40 [.own 3 (l.length + 1) 1, .own 4 (l.length + 1) 1, .own 5 (l.length + 1) 1, .own 6 (l.length + 1) 1] false), rw2 3 l (-1) y0, rw2 4 l 0 y1, rw2 5 l 1 y2, rw2 6 l 2 y3]) (fun i => 3 - i.1) ⟨0, by omega⟩ [0, 1, 2, 57, 4, 5, 6] ?_ ?_
        · refine ⟨by rfl, by simp [hlt, hr, hl, hM0, hy0, f0, fb], by simp [or_imp, forall_and, hlt, hr, hl, hM0, hy0, f0, fb] <;> (try (intro _hne; simp [_hne])), by decide⟩
        rintro ⟨i, hi⟩ ki
        match i, hi with
        | 0, _ =>
          have wi : IntKind.i64.wrap 1 = 1 := by decide
          repeat (first | (with_reducible first | refine g1 fun _ => ?_ | refine g2 fun _ => ?_ | refine g3 ?_) | ((first | refine g4 ?_ | refine g5 fun _ _ => ?_ | refine g6 ?_); simp [-getElem?_pos, z0, z1, z2, hlen2, p1, q1, f1, hlt, hr, a5, fb]) | ((first | refine AWp.ret ?_ | refine AWp.skip ?_ | refine AWp.exit ?_); try simp only [thenP]) | (with_reducible refine g7 ?_; simp only [blockP, thenP, reduceIte]) | with_reducible refine g8 ?_)
          refine Exec.call [] c1 ?_ rfl ?_ ?_; (focus simp [-getElem?_pos]); (focus simp [-getElem?_pos, z0, z1, z2, hlen2, p1, q1, f1, hlt, hr, a5, fb]); simp [-getElem?_pos, z0, z1, z2, hlen2, p1, q1, f1, hlt, hr, a5, fb]
          repeat (first | (with_reducible first | refine g1 fun _ => ?_ | refine g2 fun _ => ?_ | refine g3 ?_) | ((first | refine g4 ?_ | refine g5 fun _ _ => ?_ | refine g6 ?_); simp [-getElem?_pos, z0, z1, z2, hlen2, p1, q1, f1, hlt, hr, a5, fb, wi]) | ((first | refine AWp.ret ?_ | refine AWp.skip ?_ | refine AWp.exit ?_); try simp only [thenP]) | (with_reducible refine g7 ?_; simp only [blockP, thenP, reduceIte]) | with_reducible refine g8 ?_)
          refine LL.go ⟨1, by omega⟩ [0, 1, 2, 3, 42, 5, 6] ⟨by rfl, by simp [hlen2, p1, q1, f1, hlt, hr, a5, fb, wi], by simp [or_imp, forall_and, hlen2, p1, q1, f1, hlt, hr, a5, fb, wi] <;> (try (intro _hne; simp [_hne])), by decide⟩ ?_
          simp
        | 1, _ =>
          have wi : IntKind.i64.wrap 2 = 2 := by decide
          repeat (first | (with_reducible first | refine g1 fun _ => ?_ | refine g2 fun _ => ?_ | refine g3 ?_) | ((first | refine g4 ?_ | refine g5 fun _ _ => ?_ | refine g6 ?_); simp [-getElem?_pos, z0, z1, z2, hlen2, p2, q2, f2, hlt, hr, a5, fb]) | ((first | refine AWp.ret ?_ | refine AWp.skip ?_ | refine AWp.exit ?_); try simp only [thenP]) | (with_reducible refine g7 ?_; simp only [blockP, thenP, reduceIte]) | with_reducible refine g8 ?_)
          refine Exec.call [] c2 ?_ rfl ?_ ?_; (focus simp [-getElem?_pos]); (focus simp [-getElem?_pos, z0, z1, z2, hlen2, p2, q2, f2, hlt, hr, a5, fb]); simp [-getElem?_pos, z0, z1, z2, hlen2, p2, q2, f2, hlt, hr, a5, fb]
          repeat (first | (with_reducible first | refine g1 fun _ => ?_ | refine g2 fun _ => ?_ | refine g3 ?_) | ((first | refine g4 ?_ | refine g5 fun _ _ => ?_ | refine g6 ?_); simp [-getElem?_pos, z0, z1, z2, hlen2, p2, q2, f2, hlt, hr, a5, fb, wi]) | ((first | refine AWp.ret ?_ | refine AWp.skip ?_ | refine AWp.exit ?_); try simp only [thenP]) | (with_reducible refine g7 ?_; simp only [blockP, thenP, reduceIte]) | with_reducible refine g8 ?_)
          refine LL.go ⟨2, by omega⟩ [0, 1, 2, 3, 4, 42, 6] ⟨by rfl, by simp [hlen2, p2, q2, f2, hlt, hr, a5, fb, wi], by simp [or_imp, forall_and, hlen2, p2, q2, f2, hlt, hr, a5, fb, wi] <;> (try (intro _hne; simp [_hne])), by decide⟩ ?_
          simp
        | 2, _ =>
          have wi : IntKind.i64.wrap 3 = 3 := by decide
          repeat (first | (with_reducible first | refine g1 fun _ => ?_ | refine g2 fun _ => ?_ | refine g3 ?_) | ((first | refine g4 ?_ | refine g5 fun _ _ => ?_ | refine g6 ?_); simp [-getElem?_pos, z0, z1, z2, hlen2, p3, q3, f3, hlt, hr, a5, fb]) | ((first | refine AWp.ret ?_ | refine AWp.skip ?_ | refine AWp.exit ?_); try simp only [thenP]) | (with_reducible refine g7 ?_; simp only [blockP, thenP, reduceIte]) | with_reducible refine g8 ?_)
          refine Exec.call [] c3 ?_ rfl ?_ ?_; (focus simp [-getElem?_pos]); (focus simp [-getElem?_pos, z0, z1, z2, hlen2, p3, q3, f3, hlt, hr, a5, fb]); simp [-getElem?_pos, z0, z1, z2, hlen2, p3, q3, f3, hlt, hr, a5, fb]
          repeat (first | (with_reducible first | refine g1 fun _ => ?_ | refine g2 fun _ => ?_ | refine g3 ?_) | ((first | refine g4 ?_ | refine g5 fun _ _ => ?_ | refine g6 ?_); simp [-getElem?_pos, z0, z1, z2, hlen2, p3, q3, f3, hlt, hr, a5, fb, wi]) | ((first | refine AWp.ret ?_ | refine AWp.skip ?_ | refine AWp.exit ?_); try simp only [thenP]) | (with_reducible refine g7 ?_; simp only [blockP, thenP, reduceIte]) | with_reducible refine g8 ?_)
          refine LL.go ⟨3, by omega⟩ [0, 1, 2, 3, 4, 5, 42] ⟨by rfl, by simp [hlen2, p3, q3, f3, hlt, hr, a5, fb, wi], by simp [or_imp, forall_and, hlen2, p3, q3, f3, hlt, hr, a5, fb, wi] <;> (try (intro _hne; simp [_hne])), by decide⟩ ?_
          simp
        | 3, _ =>
          repeat (first | (with_reducible first | refine g1 fun _ => ?_ | refine g2 fun _ => ?_ | refine g3 ?_) | ((first | refine g4 ?_ | refine g5 fun _ _ => ?_ | refine g6 ?_); simp [-getElem?_pos, z0, z1, z2, hlen2, hlt, hr, hl, hM0, hy0, wk]) | ((first | refine AWp.ret ?_ | refine AWp.skip ?_ | refine AWp.exit ?_); try simp only [thenP]) | (with_reducible refine g7 ?_; simp only [blockP, thenP, reduceIte]) | with_reducible refine g8 ?_)
          refine LL.go ⟨k + 1, hlt⟩ [0, 1, 2, 3, 4, 5, 6] ⟨by rfl, by simp [a4, seenL_app, seenL_one, iRows_app, hof0, hof1, hof2, hof3], by simp [or_imp, forall_and, a4, seenL_app, seenL_one, iRows_app, hof0, hof1, hof2, hof3] <;> (try (intro _hne; simp [_hne])), by decide⟩ ?_
          simp; omega
  · obtain rfl : k = R.length := by omega
    have hne := mkne
    refine AWp.shutL 23 2 4 (ty := 40) (cells := [.own 3 (mkK x lo hi R.length).length 1, .own 4 (mkK x lo hi R.length).length 1, .own 5 (mkK x lo hi R.length).length 1, .own 6 (mkK x lo hi R.length).length 1]) (ds := [.list (iRows (seenL (mkK x lo hi R.length) (-1))), .list (iRows (seenL (mkK x lo hi R.length) 0)), .list (iRows (seenL (mkK x lo hi R.length) 1)), .list (iRows (seenL (mkK x lo hi R.length) 2))]) (is := [3, 4, 5, 6]) (by rfl) (by simp [hne]) (by simp [hne, seenL_len]) (by simp) (by simp [maxLen]) ?_
    repeat (first | (with_reducible first | refine g1 fun _ => ?_ | refine g2 fun _ => ?_ | refine g3 ?_) | ((first | refine g4 ?_ | refine g5 fun _ _ => ?_ | refine g6 ?_); simp [-getElem?_pos, z0, z1, z2, hne]) | ((first | refine AWp.ret ?_ | refine AWp.skip ?_ | refine AWp.exit ?_); try simp only [thenP]) | (with_reducible refine g7 ?_; simp only [blockP, thenP, reduceIte]) | with_reducible refine g8 ?_)
    exact JJ.go [2] ⟨by rfl, by simp [hne, mkall, mklen, seenRows, listRows, List.range_succ], by simp [or_imp, forall_and, hne, mkall, mklen, seenRows, listRows, List.range_succ], by decide⟩
end Go.Proofs.Ytigpefjeelgfdaa.Eng

/-
  Layer 1's statements, by the engine: HeatBlamed's loop over the recipes of a works of 4 steps.
-/
namespace Go.Proofs.Ytigpefjeelgfdaa.Eng
open Go.RowKit

set_option maxRecDepth 100000 in
set_option maxHeartbeats 8000000 in
theorem blame_case4 {x : Works} {lo hi : Int} {M : Nat} {B : List Int} {lr : List (List Int)} {R : List Rec} (bc : BC x lo hi 4 M B lr R) {cm cr : Code} (hm : Try.f9.body.bind (tailO 13) = some cm) (hr : Try.f9.body.bind (tailO 16) = some cr) {Q : Post}
    (hrest : AWp Try.prog true 330 cr 1 (mkSt [(13, .d (intL B)), (15, .d (.list (listRows lr))), (17, .d (iD M)), (23, .own 0 5 1), (24, .d (iD M))] [(0, .row 40 1 (listRows (seenRows (mkN x lo hi) 4)) false)]) Q) :
    AWp Try.prog true 330 cm 2 (mkSt [(4, .ptr 0 0 0), (12, .ptr 1 0 0), (13, .d (intL B)), (15, .d (.list (listRows lr))), (17, .d (iD M)), (22, .d (recsD R))] [(0, bW x), (1, bR lo hi)]) Q := by
  obtain ⟨hS, kyes, kno, mkall, mkne, mklen, mkle, hRl, hrl⟩ := bc
  have hlen2 : lr.length = 4 := hrl
  have wz : IntKind.i64.wrap 5 = 5 := by decide
  cases (show some _ = some cm from hm)
  cases (show some _ = some cr from hr)
  iterate 6 (first | (with_reducible first | refine g1 fun _ => ?_ | refine g2 fun _ => ?_ | refine g3 ?_) | ((first | refine g4 ?_ | refine g5 fun _ _ => ?_ | refine g6 ?_); simp [-getElem?_pos, z0, z1, z2, hS, wz]) | ((first | refine AWp.ret ?_ | refine AWp.skip ?_ | refine AWp.exit ?_); try simp only [thenP]) | (with_reducible refine g7 ?_; simp only [blockP, thenP, reduceIte]) | with_reducible refine g8 ?_)
  refine AWp.seqFits hrest fun kj => ?_
  repeat (first | (with_reducible first | refine g1 fun _ => ?_ | refine g2 fun _ => ?_ | refine g3 ?_) | ((first | refine g4 ?_ | refine g5 fun _ _ => ?_ | refine g6 ?_); simp [-getElem?_pos, z0, z1, z2, hS]) | ((first | refine AWp.ret ?_ | refine AWp.skip ?_ | refine AWp.exit ?_); try simp only [thenP]) | (with_reducible refine g7 ?_; simp only [blockP, thenP, reduceIte]) | with_reducible refine g8 ?_)
  refine AWp.loopK (ι := { k : Nat // k ≤ R.length }) (n := 8) (fun k => s5 B lr M R 5 (mkK x lo hi k.1).length k.1 []) (fun k => [(0, bW x), (1, bR lo hi), (2, .box 40 (if mkK x lo hi k.1 = [] then [.nilS, .nilS, .nilS, .nilS, .nilS] else [.own 3 (mkK x lo hi k.1).length 1, .own 4 (mkK x lo hi k.1).length 1, .own 5 (mkK x lo hi k.1).length 1, .own 6 (mkK x lo hi k.1).length 1, .own 7 (mkK x lo hi k.1).length 1]) false)] ++ (if mkK x lo hi k.1 = [] then [] else [rw1 3 (mkK x lo hi k.1) (-1), rw1 4 (mkK x lo hi k.1) 0, rw1 5 (mkK x lo hi k.1) 1, rw1 6 (mkK x lo hi k.1) 2, rw1 7 (mkK x lo hi k.1) 3])) (fun k => R.length - k.1) ⟨0, Nat.zero_le _⟩ [0, 1, 6, 100, 101, 102, 103, 104] ?_ ?_
  · refine ⟨by rfl, by simp [mkK_zero], by simp [or_imp, forall_and, mkK_zero] <;> (try (intro _hne; simp [_hne])), by decide⟩
  rintro ⟨k, hk⟩ kk
  by_cases hlt : k < R.length
  · obtain ⟨r, hr⟩ : ∃ r, R[k]? = some r := ⟨_, List.getElem?_eq_getElem hlt⟩
    have wk : IntKind.i64.wrap ((k : Int) + 1) = (k : Int) + 1 := wrap64_in (by omega)
    rcases hm : madeR x lo hi r with _ | _
    · obtain ⟨a1, a2⟩ := kno k r hr hm
      by_cases hM0 : mkK x lo hi k = []
      all_goals
        repeat (first | (with_reducible first | refine g1 fun _ => ?_ | refine g2 fun _ => ?_ | refine g3 ?_) | ((first | refine g4 ?_ | refine g5 fun _ _ => ?_ | refine g6 ?_); simp [-getElem?_pos, z0, z1, z2, hlt, hr, hM0]) | ((first | refine AWp.ret ?_ | refine AWp.skip ?_ | refine AWp.exit ?_); try simp only [thenP]) | (with_reducible refine g7 ?_; simp only [blockP, thenP, reduceIte]) | with_reducible refine g8 ?_)
        refine Exec.call [] a1 ?_ rfl ?_ ?_; (focus simp [-getElem?_pos]); (focus simp [-getElem?_pos, z0, z1, z2, hlt, hr, hM0, recD]); simp [-getElem?_pos, z0, z1, z2, hlt, hr, hM0, recD]
        repeat (first | (with_reducible first | refine g1 fun _ => ?_ | refine g2 fun _ => ?_ | refine g3 ?_) | ((first | refine g4 ?_ | refine g5 fun _ _ => ?_ | refine g6 ?_); simp [-getElem?_pos, z0, z1, z2, wk]) | ((first | refine AWp.ret ?_ | refine AWp.skip ?_ | refine AWp.exit ?_); try simp only [thenP]) | (with_reducible refine g7 ?_; simp only [blockP, thenP, reduceIte]) | with_reducible refine g8 ?_)
        refine LL.go ⟨k + 1, hlt⟩ [0, 1, 2, 3, 4, 5, 6, 7] ⟨by rfl, by simp [a2, hM0], by simp [or_imp, forall_and, a2, hM0] <;> (try (intro _hne; simp [_hne])), by decide⟩ ?_
        simp; omega
    · obtain ⟨a1, a2, a3, a4, a5, a6⟩ := kyes k r hr hm
      obtain ⟨p1, q1, c1⟩ : lr[0]? = some (leftN x lo hi 0) ∧ r.2[0]? = some (ofN r 0) ∧ ACall Try.prog 49 [intL (leftN x lo hi 0), iD (ofN r 0)] (bD true) := a6 0 (by omega)
      obtain ⟨p2, q2, c2⟩ : lr[1]? = some (leftN x lo hi 1) ∧ r.2[1]? = some (ofN r 1) ∧ ACall Try.prog 49 [intL (leftN x lo hi 1), iD (ofN r 1)] (bD true) := a6 1 (by omega)
      obtain ⟨p3, q3, c3⟩ : lr[2]? = some (leftN x lo hi 2) ∧ r.2[2]? = some (ofN r 2) ∧ ACall Try.prog 49 [intL (leftN x lo hi 2), iD (ofN r 2)] (bD true) := a6 2 (by omega)
      obtain ⟨p4, q4, c4⟩ : lr[3]? = some (leftN x lo hi 3) ∧ r.2[3]? = some (ofN r 3) ∧ ACall Try.prog 49 [intL (leftN x lo hi 3), iD (ofN r 3)] (bD true) := a6 3 (by omega)
      have hl400 := Nat.le_trans (mkle k) hRl
      generalize histVals x r.1 r.2 lo hi = hv at *
      obtain ⟨y0, hy0⟩ : ∃ y, r.1 = y := ⟨_, rfl⟩
      have hof0 : ofN r (-1) = y0 := hy0
      obtain ⟨y1, hof1⟩ : ∃ y, ofN r 0 = y := ⟨_, rfl⟩
      obtain ⟨l1, hl1⟩ : ∃ l, leftN x lo hi 0 = l := ⟨_, rfl⟩
      rw [hof1] at q1 c1; rw [hl1] at p1 c1
      obtain ⟨y2, hof2⟩ : ∃ y, ofN r 1 = y := ⟨_, rfl⟩
      obtain ⟨l2, hl2⟩ : ∃ l, leftN x lo hi 1 = l := ⟨_, rfl⟩
      rw [hof2] at q2 c2; rw [hl2] at p2 c2
      obtain ⟨y3, hof3⟩ : ∃ y, ofN r 2 = y := ⟨_, rfl⟩
      obtain ⟨l3, hl3⟩ : ∃ l, leftN x lo hi 2 = l := ⟨_, rfl⟩
      rw [hof3] at q3 c3; rw [hl3] at p3 c3
      obtain ⟨y4, hof4⟩ : ∃ y, ofN r 3 = y := ⟨_, rfl⟩
      obtain ⟨l4, hl4⟩ : ∃ l, leftN x lo hi 3 = l := ⟨_, rfl⟩
      rw [hof4] at q4 c4; rw [hl4] at p4 c4
      obtain ⟨l, hl⟩ : ∃ l, mkK x lo hi k = l := ⟨_, rfl⟩
      rw [hl] at a4 hl400
      have wl : IntKind.i64.wrap ((l.length : Int) + 1) = (l.length : Int) + 1 := wrap64_in (by omega)
      have f0 : (seenL l (-1)).length = l.length := seenL_len l (-1)
      have f1 : (seenL l 0).length = l.length := seenL_len l 0
      have f2 : (seenL l 1).length = l.length := seenL_len l 1
      have f3 : (seenL l 2).length = l.length := seenL_len l 2
      have f4 : (seenL l 3).length = l.length := seenL_len l 3
      rw [hy0] at a3
      have fb : fitsB (l.length + 1) 8 = true := fitsB_small (by omega) (by decide)
      by_cases hM0 : l = []
      · subst hM0
        have w1 : IntKind.i64.wrap 1 = 1 := by decide
        repeat (first | (with_reducible first | refine g1 fun _ => ?_ | refine g2 fun _ => ?_ | refine g3 ?_) | ((first | refine g4 ?_ | refine g5 fun _ _ => ?_ | refine g6 ?_); simp [-getElem?_pos, z0, z1, z2, hlt, hr, hl, hy0]) | ((first | refine AWp.ret ?_ | refine AWp.skip ?_ | refine AWp.exit ?_); try simp only [thenP]) | (with_reducible refine g7 ?_; simp only [blockP, thenP, reduceIte]) | with_reducible refine g8 ?_)
        refine Exec.call [] a1 ?_ rfl ?_ ?_; (focus simp [-getElem?_pos]); (focus simp [-getElem?_pos, z0, z1, z2, hlt, hr, hl, hy0, recD]); simp [-getElem?_pos, z0, z1, z2, hlt, hr, hl, hy0, recD]
        repeat (first | (with_reducible first | refine g1 fun _ => ?_ | refine g2 fun _ => ?_ | refine g3 ?_) | ((first | refine g4 ?_ | refine g5 fun _ _ => ?_ | refine g6 ?_); simp [-getElem?_pos, z0, z1, z2, hlt, hr, hl, hy0]) | ((first | refine AWp.ret ?_ | refine AWp.skip ?_ | refine AWp.exit ?_); try simp only [thenP]) | (with_reducible refine g7 ?_; simp only [blockP, thenP, reduceIte]) | with_reducible refine g8 ?_)
        refine Exec.call [] a2 ?_ rfl ?_ ?_; (focus simp [-getElem?_pos]); (focus simp [-getElem?_pos, z0, z1, z2, hlt, hr, hl, hy0, recD]); simp [-getElem?_pos, z0, z1, z2, hlt, hr, hl, hy0, recD]
        refine Exec.call [] a3 ?_ rfl ?_ ?_; (focus simp [-getElem?_pos]); (focus simp [-getElem?_pos, z0, z1, z2, hlt, hr, hl, hy0, recD]); simp [-getElem?_pos, z0, z1, z2, hlt, hr, hl, hy0, recD]
        repeat (first | (with_reducible first | refine g1 fun _ => ?_ | refine g2 fun _ => ?_ | refine g3 ?_) | ((first | refine g4 ?_ | refine g5 fun _ _ => ?_ | refine g6 ?_); simp [-getElem?_pos, z0, z1, z2, hlt, hr, hl, hy0, w1]) | ((first | refine AWp.ret ?_ | refine AWp.skip ?_ | refine AWp.exit ?_); try simp only [thenP]) | (with_reducible refine g7 ?_; simp only [blockP, thenP, reduceIte]) | with_reducible refine g8 ?_)
        refine AWp.loopK (ι := { i : Nat // i ≤ 4 }) (n := 8) (fun i => if i.1 = 0 then s5 B lr M R 5 (1) k [(28, .d (iD 0))] else if i.1 = 1 then s5 B lr M R 5 (1) k [(28, .d (iD 1))] else if i.1 = 2 then s5 B lr M R 5 (1) k [(28, .d (iD 2))] else if i.1 = 3 then s5 B lr M R 5 (1) k [(28, .d (iD 3))] else s5 B lr M R 5 (1) k [(28, .d (iD 4))]) (fun i => if i.1 = 0 then [(0, bW x), (1, bR lo hi), (2, .box 40 [.own 3 1 1, .nilS, .nilS, .nilS, .nilS] false), rw3 3 y0] else if i.1 = 1 then [(0, bW x), (1, bR lo hi), (2, .box 40 [.own 3 1 1, .own 4 1 1, .nilS, .nilS, .nilS] false), rw3 3 y0, rw3 4 y1] else if i.1 = 2 then [(0, bW x), (1, bR lo hi), (2, .box 40 [.own 3 1 1, .own 4 1 1, .own 5 1 1, .nilS, .nilS] false), rw3 3 y0, rw3 4 y1, rw3 5 y2] else if i.1 = 3 then [(0, bW x), (1, bR lo hi), (2, .box 40 [.own 3 1 1, .own 4 1 1, .own 5 1 1, .own 6 1 1, .nilS] false), rw3 3 y0, rw3 4 y1, rw3 5 y2, rw3 6 y3] else [(0, bW x), (1, bR lo hi), (2, .box 40 [.own 3 1 1, .own 4 1 1, .own 5 1 1, .own 6 1 1, .own 7 1 1] false), rw3 3 y0, rw3 4 y1, rw3 5 y2, rw3 6 y3, rw3 7 y4]) (fun i => 4 - i.1) ⟨0, by omega⟩ [0, 1, 2, 58, 100, 101, 102, 103] ?_ ?_
        · refine ⟨by rfl, by simp [hlt, hr, hl, hy0], by simp [or_imp, forall_and, hlt, hr, hl, hy0] <;> (try (intro _hne; simp [_hne])), by decide⟩
        rintro ⟨i, hi⟩ ki
        match i, hi with
        | 0, _ =>
          have wi : IntKind.i64.wrap 1 = 1 := by decide
          repeat (first | (with_reducible first | refine g1 fun _ => ?_ | refine g2 fun _ => ?_ | refine g3 ?_) | ((first | refine g4 ?_ | refine g5 fun _ _ => ?_ | refine g6 ?_); simp [-getElem?_pos, z0, z1, z2, hlen2, p1, q1, hlt, hr, a5]) | ((first | refine AWp.ret ?_ | refine AWp.skip ?_ | refine AWp.exit ?_); try simp only [thenP]) | (with_reducible refine g7 ?_; simp only [blockP, thenP, reduceIte]) | with_reducible refine g8 ?_)
          refine Exec.call [] c1 ?_ rfl ?_ ?_; (focus simp [-getElem?_pos]); (focus simp [-getElem?_pos, z0, z1, z2, hlen2, p1, q1, hlt, hr, a5]); simp [-getElem?_pos, z0, z1, z2, hlen2, p1, q1, hlt, hr, a5]
          repeat (first | (with_reducible first | refine g1 fun _ => ?_ | refine g2 fun _ => ?_ | refine g3 ?_) | ((first | refine g4 ?_ | refine g5 fun _ _ => ?_ | refine g6 ?_); simp [-getElem?_pos, z0, z1, z2, hlen2, p1, q1, hlt, hr, a5, wi]) | ((first | refine AWp.ret ?_ | refine AWp.skip ?_ | refine AWp.exit ?_); try simp only [thenP]) | (with_reducible refine g7 ?_; simp only [blockP, thenP, reduceIte]) | with_reducible refine g8 ?_)
          refine LL.go ⟨1, by omega⟩ [0, 1, 2, 3, 43, 102, 103, 104] ⟨by rfl, by simp [hlen2, p1, q1, hlt, hr, a5, wi], by simp [or_imp, forall_and, hlen2, p1, q1, hlt, hr, a5, wi] <;> (try (intro _hne; simp [_hne])), by decide⟩ ?_
          simp
        | 1, _ =>
          have wi : IntKind.i64.wrap 2 = 2 := by decide
          repeat (first | (with_reducible first | refine g1 fun _ => ?_ | refine g2 fun _ => ?_ | refine g3 ?_) | ((first | refine g4 ?_ | refine g5 fun _ _ => ?_ | refine g6 ?_); simp [-getElem?_pos, z0, z1, z2, hlen2, p2, q2, hlt, hr, a5]) | ((first | refine AWp.ret ?_ | refine AWp.skip ?_ | refine AWp.exit ?_); try simp only [thenP]) | (with_reducible refine g7 ?_; simp only [blockP, thenP, reduceIte]) | with_reducible refine g8 ?_)
          refine Exec.call [] c2 ?_ rfl ?_ ?_; (focus simp [-getElem?_pos]); (focus simp [-getElem?_pos, z0, z1, z2, hlen2, p2, q2, hlt, hr, a5]); simp [-getElem?_pos, z0, z1, z2, hlen2, p2, q2, hlt, hr, a5]
          repeat (first | (with_reducible first | refine g1 fun _ => ?_ | refine g2 fun _ => ?_ | refine g3 ?_) | ((first | refine g4 ?_ | refine g5 fun _ _ => ?_ | refine g6 ?_); simp [-getElem?_pos, z0, z1, z2, hlen2, p2, q2, hlt, hr, a5, wi]) | ((first | refine AWp.ret ?_ | refine AWp.skip ?_ | refine AWp.exit ?_); try simp only [thenP]) | (with_reducible refine g7 ?_; simp only [blockP, thenP, reduceIte]) | with_reducible refine g8 ?_)
          refine LL.go ⟨2, by omega⟩ [0, 1, 2, 3, 4, 43, 103, 104] ⟨by rfl, by simp [hlen2, p2, q2, hlt, hr, a5, wi], by simp [or_imp, forall_and, hlen2, p2, q2, hlt, hr, a5, wi] <;> (try (intro _hne; simp [_hne])), by decide⟩ ?_
          simp
        | 2, _ =>
          have wi : IntKind.i64.wrap 3 = 3 := by decide
          repeat (first | (with_reducible first | refine g1 fun _ => ?_ | refine g2 fun _ => ?_ | refine g3 ?_) | ((first | refine g4 ?_ | refine g5 fun _ _ => ?_ | refine g6 ?_); simp [-getElem?_pos, z0, z1, z2, hlen2, p3, q3, hlt, hr, a5]) | ((first | refine AWp.ret ?_ | refine AWp.skip ?_ | refine AWp.exit ?_); try simp only [thenP]) | (with_reducible refine g7 ?_; simp only [blockP, thenP, reduceIte]) | with_reducible refine g8 ?_)
          refine Exec.call [] c3 ?_ rfl ?_ ?_; (focus simp [-getElem?_pos]); (focus simp [-getElem?_pos, z0, z1, z2, hlen2, p3, q3, hlt, hr, a5]); simp [-getElem?_pos, z0, z1, z2, hlen2, p3, q3, hlt, hr, a5]
          repeat (first | (with_reducible first | refine g1 fun _ => ?_ | refine g2 fun _ => ?_ | refine g3 ?_) | ((first | refine g4 ?_ | refine g5 fun _ _ => ?_ | refine g6 ?_); simp [-getElem?_pos, z0, z1, z2, hlen2, p3, q3, hlt, hr, a5, wi]) | ((first | refine AWp.ret ?_ | refine AWp.skip ?_ | refine AWp.exit ?_); try simp only [thenP]) | (with_reducible refine g7 ?_; simp only [blockP, thenP, reduceIte]) | with_reducible refine g8 ?_)
          refine LL.go ⟨3, by omega⟩ [0, 1, 2, 3, 4, 5, 43, 104] ⟨by rfl, by simp [hlen2, p3, q3, hlt, hr, a5, wi], by simp [or_imp, forall_and, hlen2, p3, q3, hlt, hr, a5, wi] <;> (try (intro _hne; simp [_hne])), by decide⟩ ?_
          simp
        | 3, _ =>
          have wi : IntKind.i64.wrap 4 = 4 := by decide
          repeat (first | (with_reducible first | refine g1 fun _ => ?_ | refine g2 fun _ => ?_ | refine g3 ?_) | ((first | refine g4 ?_ | refine g5 fun _ _ => ?_ | refine g6 ?_); simp [-getElem?_pos, z0, z1, z2, hlen2, p4, q4, hlt, hr, a5]) | ((first | refine AWp.ret ?_ | refine AWp.skip ?_ | refine AWp.exit ?_); try simp only [thenP]) | (with_reducible refine g7 ?_; simp only [blockP, thenP, reduceIte]) | with_reducible refine g8 ?_)
          refine Exec.call [] c4 ?_ rfl ?_ ?_; (focus simp [-getElem?_pos]); (focus simp [-getElem?_pos, z0, z1, z2, hlen2, p4, q4, hlt, hr, a5]); simp [-getElem?_pos, z0, z1, z2, hlen2, p4, q4, hlt, hr, a5]
          repeat (first | (with_reducible first | refine g1 fun _ => ?_ | refine g2 fun _ => ?_ | refine g3 ?_) | ((first | refine g4 ?_ | refine g5 fun _ _ => ?_ | refine g6 ?_); simp [-getElem?_pos, z0, z1, z2, hlen2, p4, q4, hlt, hr, a5, wi]) | ((first | refine AWp.ret ?_ | refine AWp.skip ?_ | refine AWp.exit ?_); try simp only [thenP]) | (with_reducible refine g7 ?_; simp only [blockP, thenP, reduceIte]) | with_reducible refine g8 ?_)
          refine LL.go ⟨4, by omega⟩ [0, 1, 2, 3, 4, 5, 6, 43] ⟨by rfl, by simp [hlen2, p4, q4, hlt, hr, a5, wi], by simp [or_imp, forall_and, hlen2, p4, q4, hlt, hr, a5, wi] <;> (try (intro _hne; simp [_hne])), by decide⟩ ?_
          simp
        | 4, _ =>
          repeat (first | (with_reducible first | refine g1 fun _ => ?_ | refine g2 fun _ => ?_ | refine g3 ?_) | ((first | refine g4 ?_ | refine g5 fun _ _ => ?_ | refine g6 ?_); simp [-getElem?_pos, z0, z1, z2, hlen2, hlt, hr, hl, hy0, wk]) | ((first | refine AWp.ret ?_ | refine AWp.skip ?_ | refine AWp.exit ?_); try simp only [thenP]) | (with_reducible refine g7 ?_; simp only [blockP, thenP, reduceIte]) | with_reducible refine g8 ?_)
          refine LL.go ⟨k + 1, hlt⟩ [0, 1, 2, 3, 4, 5, 6, 7] ⟨by rfl, by simp [a4, seenL_app, seenL_one, iRows_app, hof0, hof1, hof2, hof3, hof4], by simp [or_imp, forall_and, a4, seenL_app, seenL_one, iRows_app, hof0, hof1, hof2, hof3, hof4] <;> (try (intro _hne; simp [_hne])), by decide⟩ ?_
          simp; omega
      · repeat (first | (with_reducible first | refine g1 fun _ => ?_ | refine g2 fun _ => ?_ | refine g3 ?_) | ((first | refine g4 ?_ | refine g5 fun _ _ => ?_ | refine g6 ?_); simp [-getElem?_pos, z0, z1, z2, hlt, hr, hl, hM0, hy0]) | ((first | refine AWp.ret ?_ | refine AWp.skip ?_ | refine AWp.exit ?_); try simp only [thenP]) | (with_reducible refine g7 ?_; simp only [blockP, thenP, reduceIte]) | with_reducible refine g8 ?_)
        refine Exec.call [] a1 ?_ rfl ?_ ?_; (focus simp [-getElem?_pos]); (focus simp [-getElem?_pos, z0, z1, z2, hlt, hr, hl, hM0, hy0, recD]); simp [-getElem?_pos, z0, z1, z2, hlt, hr, hl, hM0, hy0, recD]
        repeat (first | (with_reducible first | refine g1 fun _ => ?_ | refine g2 fun _ => ?_ | refine g3 ?_) | ((first | refine g4 ?_ | refine g5 fun _ _ => ?_ | refine g6 ?_); simp [-getElem?_pos, z0, z1, z2, hlt, hr, hl, hM0, hy0]) | ((first | refine AWp.ret ?_ | refine AWp.skip ?_ | refine AWp.exit ?_); try simp only [thenP]) | (with_reducible refine g7 ?_; simp only [blockP, thenP, reduceIte]) | with_reducible refine g8 ?_)
        refine Exec.call [] a2 ?_ rfl ?_ ?_; (focus simp [-getElem?_pos]); (focus simp [-getElem?_pos, z0, z1, z2, hlt, hr, hl, hM0, hy0, recD]); simp [-getElem?_pos, z0, z1, z2, hlt, hr, hl, hM0, hy0, recD]
        refine Exec.call [] a3 ?_ rfl ?_ ?_; (focus simp [-getElem?_pos]); (focus simp [-getElem?_pos, z0, z1, z2, hlt, hr, hl, hM0, hy0, recD]); simp [-getElem?_pos, z0, z1, z2, hlt, hr, hl, hM0, hy0, recD]
        repeat (first | (with_reducible first | refine g1 fun _ => ?_ | refine g2 fun _ => ?_ | refine g3 ?_) | ((first | refine g4 ?_ | refine g5 fun _ _ => ?_ | refine g6 ?_); simp [-getElem?_pos, z0, z1, z2, hlt, hr, hl, hM0, hy0, wl, f0, fb]) | ((first | refine AWp.ret ?_ | refine AWp.skip ?_ | refine AWp.exit ?_); try simp only [thenP]) | (with_reducible refine g7 ?_; simp only [blockP, thenP, reduceIte]) | with_reducible refine g8 ?_)
        refine AWp.loopK (ι := { i : Nat // i ≤ 4 }) (n := 8) (fun i => if i.1 = 0 then s5 B lr M R 5 ((l.length : Int) + 1) k [(28, .d (iD 0))] else if i.1 = 1 then s5 B lr M R 5 ((l.length : Int) + 1) k [(28, .d (iD 1))] else if i.1 = 2 then s5 B lr M R 5 ((l.length : Int) + 1) k [(28, .d (iD 2))] else if i.1 = 3 then s5 B lr M R 5 ((l.length : Int) + 1) k [(28, .d (iD 3))] else s5 B lr M R 5 ((l.length : Int) + 1) k [(28, .d (iD 4))]) (fun i => if i.1 = 0 then [(0, bW x), (1, bR lo hi), (2, .box 40 [.own 3 (l.length + 1) 1, .own 4 l.length 1, .own 5 l.length 1, .own 6 l.length 1, .own 7 l.length 1] false), rw2 3 l (-1) y0, rw1 4 l 0, rw1 5 l 1, rw1 6 l 2, rw1 7 l 3] else if i.1 = 1 then [(0, bW x), (1, bR lo hi), (2, .box 40 [.own 3 (l.length + 1) 1, .own 4 (l.length + 1) 1, .own 5 l.length 1, .own 6 l.length 1, .own 7 l.length 1] false), rw2 3 l (-1) y0, rw2 4 l 0 y1, rw1 5 l 1, rw1 6 l 2, rw1 7 l 3] else if i.1 = 2 then [(0, bW x), (1, bR lo hi), (2, .box 40 [.own 3 (l.length + 1) 1, .own 4 (l.length + 1) 1, .own 5 (l.length + 1) 1, .own 6 l.length 1, .own 7 l.length 1] false), rw2 3 l (-1) y0, rw2 4 l 0 y1, rw2 5 l 1 y2, rw1 6 l 2, rw1 7 l 3] else if i.1 = 3 then [(0, bW x), (1, bR lo hi), (2, .box 40 [.own 3 (l.length + 1) 1, .own 4 (l.length + 1) 1, .own 5 (l.length + 1) 1, .own 6 (l.length + 1) 1, .own 7 l.length 1] false), rw2 3 l (-1) y0, rw2 4 l 0 y1, rw2 5 l 1 y2, rw2 6 l 2 y3, rw1 7 l 3] else [(0, bW x), (1, bR lo hi), (2, .box 40 [.own 3 (l.length + 1) 1, .own 4 (l.length + 1) 1, .own 5 (l.length + 1) 1, .own 6 (l.length + 1) 1, .own 7 (l.length + 1) 1] false), rw2 3 l (-1) y0, rw2 4 l 0 y1, rw2 5 l 1 y2, rw2 6 l 2 y3, rw2 7 l 3 y4]) (fun i => 4 - i.1) ⟨0, by omega⟩ [0, 1, 2, 58, 4, 5, 6, 7] ?_ ?_
        · refine ⟨by rfl, by simp [hlt, hr, hl, hM0, hy0, f0, fb], by simp [or_imp, forall_and, hlt, hr, hl, hM0, hy0, f0, fb] <;> (try (intro _hne; simp [_hne])), by decide⟩
        rintro ⟨i, hi⟩ ki
        match i, hi with
        | 0, _ =>
          have wi : IntKind.i64.wrap 1 = 1 := by decide
          repeat (first | (with_reducible first | refine g1 fun _ => ?_ | refine g2 fun _ => ?_ | refine g3 ?_) | ((first | refine g4 ?_ | refine g5 fun _ _ => ?_ | refine g6 ?_); simp [-getElem?_pos, z0, z1, z2, hlen2, p1, q1, f1, hlt, hr, a5, fb]) | ((first | refine AWp.ret ?_ | refine AWp.skip ?_ | refine AWp.exit ?_); try simp only [thenP]) | (with_reducible refine g7 ?_; simp only [blockP, thenP, reduceIte]) | with_reducible refine g8 ?_)
          refine Exec.call [] c1 ?_ rfl ?_ ?_; (focus simp [-getElem?_pos]); (focus simp [-getElem?_pos, z0, z1, z2, hlen2, p1, q1, f1, hlt, hr, a5, fb]); simp [-getElem?_pos, z0, z1, z2, hlen2, p1, q1, f1, hlt, hr, a5, fb]
          repeat (first | (with_reducible first | refine g1 fun _ => ?_ | refine g2 fun _ => ?_ | refine g3 ?_) | ((first | refine g4 ?_ | refine g5 fun _ _ => ?_ | refine g6 ?_); simp [-getElem?_pos, z0, z1, z2, hlen2, p1, q1, f1, hlt, hr, a5, fb, wi]) | ((first | refine AWp.ret ?_ | refine AWp.skip ?_ | refine AWp.exit ?_); try simp only [thenP]) | (with_reducible refine g7 ?_; simp only [blockP, thenP, reduceIte]) | with_reducible refine g8 ?_)
          refine LL.go ⟨1, by omega⟩ [0, 1, 2, 3, 43, 5, 6, 7] ⟨by rfl, by simp [hlen2, p1, q1, f1, hlt, hr, a5, fb, wi], by simp [or_imp, forall_and, hlen2, p1, q1, f1, hlt, hr, a5, fb, wi] <;> (try (intro _hne; simp [_hne])), by decide⟩ ?_
          simp
        | 1, _ =>
          have wi : IntKind.i64.wrap 2 = 2 := by decide
          repeat (first | (with_reducible first | refine g1 fun _ => ?_ | refine g2 fun _ => ?_ | refine g3 ?_) | ((first | refine g4 ?_ | refine g5 fun _ _ => ?_ | refine g6 ?_); simp [-getElem?_pos, z0, z1, z2, hlen2, p2, q2, f2, hlt, hr, a5, fb]) | ((first | refine AWp.ret ?_ | refine AWp.skip ?_ | refine AWp.exit ?_); try simp only [thenP]) | (with_reducible refine g7 ?_; simp only [blockP, thenP, reduceIte]) | with_reducible refine g8 ?_)
          refine Exec.call [] c2 ?_ rfl ?_ ?_; (focus simp [-getElem?_pos]); (focus simp [-getElem?_pos, z0, z1, z2, hlen2, p2, q2, f2, hlt, hr, a5, fb]); simp [-getElem?_pos, z0, z1, z2, hlen2, p2, q2, f2, hlt, hr, a5, fb]
          repeat (first | (with_reducible first | refine g1 fun _ => ?_ | refine g2 fun _ => ?_ | refine g3 ?_) | ((first | refine g4 ?_ | refine g5 fun _ _ => ?_ | refine g6 ?_); simp [-getElem?_pos, z0, z1, z2, hlen2, p2, q2, f2, hlt, hr, a5, fb, wi]) | ((first | refine AWp.ret ?_ | refine AWp.skip ?_ | refine AWp.exit ?_); try simp only [thenP]) | (with_reducible refine g7 ?_; simp only [blockP, thenP, reduceIte]) | with_reducible refine g8 ?_)
          refine LL.go ⟨2, by omega⟩ [0, 1, 2, 3, 4, 43, 6, 7] ⟨by rfl, by simp [hlen2, p2, q2, f2, hlt, hr, a5, fb, wi], by simp [or_imp, forall_and, hlen2, p2, q2, f2, hlt, hr, a5, fb, wi] <;> (try (intro _hne; simp [_hne])), by decide⟩ ?_
          simp
        | 2, _ =>
          have wi : IntKind.i64.wrap 3 = 3 := by decide
          repeat (first | (with_reducible first | refine g1 fun _ => ?_ | refine g2 fun _ => ?_ | refine g3 ?_) | ((first | refine g4 ?_ | refine g5 fun _ _ => ?_ | refine g6 ?_); simp [-getElem?_pos, z0, z1, z2, hlen2, p3, q3, f3, hlt, hr, a5, fb]) | ((first | refine AWp.ret ?_ | refine AWp.skip ?_ | refine AWp.exit ?_); try simp only [thenP]) | (with_reducible refine g7 ?_; simp only [blockP, thenP, reduceIte]) | with_reducible refine g8 ?_)
          refine Exec.call [] c3 ?_ rfl ?_ ?_; (focus simp [-getElem?_pos]); (focus simp [-getElem?_pos, z0, z1, z2, hlen2, p3, q3, f3, hlt, hr, a5, fb]); simp [-getElem?_pos, z0, z1, z2, hlen2, p3, q3, f3, hlt, hr, a5, fb]
          repeat (first | (with_reducible first | refine g1 fun _ => ?_ | refine g2 fun _ => ?_ | refine g3 ?_) | ((first | refine g4 ?_ | refine g5 fun _ _ => ?_ | refine g6 ?_); simp [-getElem?_pos, z0, z1, z2, hlen2, p3, q3, f3, hlt, hr, a5, fb, wi]) | ((first | refine AWp.ret ?_ | refine AWp.skip ?_ | refine AWp.exit ?_); try simp only [thenP]) | (with_reducible refine g7 ?_; simp only [blockP, thenP, reduceIte]) | with_reducible refine g8 ?_)
          refine LL.go ⟨3, by omega⟩ [0, 1, 2, 3, 4, 5, 43, 7] ⟨by rfl, by simp [hlen2, p3, q3, f3, hlt, hr, a5, fb, wi], by simp [or_imp, forall_and, hlen2, p3, q3, f3, hlt, hr, a5, fb, wi] <;> (try (intro _hne; simp [_hne])), by decide⟩ ?_
          simp
        | 3, _ =>
          have wi : IntKind.i64.wrap 4 = 4 := by decide
          repeat (first | (with_reducible first | refine g1 fun _ => ?_ | refine g2 fun _ => ?_ | refine g3 ?_) | ((first | refine g4 ?_ | refine g5 fun _ _ => ?_ | refine g6 ?_); simp [-getElem?_pos, z0, z1, z2, hlen2, p4, q4, f4, hlt, hr, a5, fb]) | ((first | refine AWp.ret ?_ | refine AWp.skip ?_ | refine AWp.exit ?_); try simp only [thenP]) | (with_reducible refine g7 ?_; simp only [blockP, thenP, reduceIte]) | with_reducible refine g8 ?_)
          refine Exec.call [] c4 ?_ rfl ?_ ?_; (focus simp [-getElem?_pos]); (focus simp [-getElem?_pos, z0, z1, z2, hlen2, p4, q4, f4, hlt, hr, a5, fb]); simp [-getElem?_pos, z0, z1, z2, hlen2, p4, q4, f4, hlt, hr, a5, fb]
          repeat (first | (with_reducible first | refine g1 fun _ => ?_ | refine g2 fun _ => ?_ | refine g3 ?_) | ((first | refine g4 ?_ | refine g5 fun _ _ => ?_ | refine g6 ?_); simp [-getElem?_pos, z0, z1, z2, hlen2, p4, q4, f4, hlt, hr, a5, fb, wi]) | ((first | refine AWp.ret ?_ | refine AWp.skip ?_ | refine AWp.exit ?_); try simp only [thenP]) | (with_reducible refine g7 ?_; simp only [blockP, thenP, reduceIte]) | with_reducible refine g8 ?_)
          refine LL.go ⟨4, by omega⟩ [0, 1, 2, 3, 4, 5, 6, 43] ⟨by rfl, by simp [hlen2, p4, q4, f4, hlt, hr, a5, fb, wi], by simp [or_imp, forall_and, hlen2, p4, q4, f4, hlt, hr, a5, fb, wi] <;> (try (intro _hne; simp [_hne])), by decide⟩ ?_
          simp
        | 4, _ =>
          repeat (first | (with_reducible first | refine g1 fun _ => ?_ | refine g2 fun _ => ?_ | refine g3 ?_) | ((first | refine g4 ?_ | refine g5 fun _ _ => ?_ | refine g6 ?_); simp [-getElem?_pos, z0, z1, z2, hlen2, hlt, hr, hl, hM0, hy0, wk]) | ((first | refine AWp.ret ?_ | refine AWp.skip ?_ | refine AWp.exit ?_); try simp only [thenP]) | (with_reducible refine g7 ?_; simp only [blockP, thenP, reduceIte]) | with_reducible refine g8 ?_)
          refine LL.go ⟨k + 1, hlt⟩ [0, 1, 2, 3, 4, 5, 6, 7] ⟨by rfl, by simp [a4, seenL_app, seenL_one, iRows_app, hof0, hof1, hof2, hof3, hof4], by simp [or_imp, forall_and, a4, seenL_app, seenL_one, iRows_app, hof0, hof1, hof2, hof3, hof4] <;> (try (intro _hne; simp [_hne])), by decide⟩ ?_
          simp; omega
  · obtain rfl : k = R.length := by omega
    have hne := mkne
    refine AWp.shutL 23 2 5 (ty := 40) (cells := [.own 3 (mkK x lo hi R.length).length 1, .own 4 (mkK x lo hi R.length).length 1, .own 5 (mkK x lo hi R.length).length 1, .own 6 (mkK x lo hi R.length).length 1, .own 7 (mkK x lo hi R.length).length 1]) (ds := [.list (iRows (seenL (mkK x lo hi R.length) (-1))), .list (iRows (seenL (mkK x lo hi R.length) 0)), .list (iRows (seenL (mkK x lo hi R.length) 1)), .list (iRows (seenL (mkK x lo hi R.length) 2)), .list (iRows (seenL (mkK x lo hi R.length) 3))]) (is := [3, 4, 5, 6, 7]) (by rfl) (by simp [hne]) (by simp [hne, seenL_len]) (by simp) (by simp [maxLen]) ?_
    repeat (first | (with_reducible first | refine g1 fun _ => ?_ | refine g2 fun _ => ?_ | refine g3 ?_) | ((first | refine g4 ?_ | refine g5 fun _ _ => ?_ | refine g6 ?_); simp [-getElem?_pos, z0, z1, z2, hne]) | ((first | refine AWp.ret ?_ | refine AWp.skip ?_ | refine AWp.exit ?_); try simp only [thenP]) | (with_reducible refine g7 ?_; simp only [blockP, thenP, reduceIte]) | with_reducible refine g8 ?_)
    exact JJ.go [2] ⟨by rfl, by simp [hne, mkall, mklen, seenRows, listRows, List.range_succ], by simp [or_imp, forall_and, hne, mkall, mklen, seenRows, listRows, List.range_succ], by decide⟩
end Go.Proofs.Ytigpefjeelgfdaa.Eng

/-
  Layer 1's statements, by the engine: HeatBlamed's loop over the recipes of a works of 5 steps.
-/
namespace Go.Proofs.Ytigpefjeelgfdaa.Eng
open Go.RowKit

set_option maxRecDepth 100000 in
set_option maxHeartbeats 8000000 in
theorem blame_case5 {x : Works} {lo hi : Int} {M : Nat} {B : List Int} {lr : List (List Int)} {R : List Rec} (bc : BC x lo hi 5 M B lr R) {cm cr : Code} (hm : Try.f9.body.bind (tailO 13) = some cm) (hr : Try.f9.body.bind (tailO 16) = some cr) {Q : Post}
    (hrest : AWp Try.prog true 330 cr 1 (mkSt [(13, .d (intL B)), (15, .d (.list (listRows lr))), (17, .d (iD M)), (23, .own 0 6 1), (24, .d (iD M))] [(0, .row 40 1 (listRows (seenRows (mkN x lo hi) 5)) false)]) Q) :
    AWp Try.prog true 330 cm 2 (mkSt [(4, .ptr 0 0 0), (12, .ptr 1 0 0), (13, .d (intL B)), (15, .d (.list (listRows lr))), (17, .d (iD M)), (22, .d (recsD R))] [(0, bW x), (1, bR lo hi)]) Q := by
  obtain ⟨hS, kyes, kno, mkall, mkne, mklen, mkle, hRl, hrl⟩ := bc
  have hlen2 : lr.length = 5 := hrl
  have wz : IntKind.i64.wrap 6 = 6 := by decide
  cases (show some _ = some cm from hm)
  cases (show some _ = some cr from hr)
  iterate 6 (first | (with_reducible first | refine g1 fun _ => ?_ | refine g2 fun _ => ?_ | refine g3 ?_) | ((first | refine g4 ?_ | refine g5 fun _ _ => ?_ | refine g6 ?_); simp [-getElem?_pos, z0, z1, z2, hS, wz]) | ((first | refine AWp.ret ?_ | refine AWp.skip ?_ | refine AWp.exit ?_); try simp only [thenP]) | (with_reducible refine g7 ?_; simp only [blockP, thenP, reduceIte]) | with_reducible refine g8 ?_)
  refine AWp.seqFits hrest fun kj => ?_
  repeat (first | (with_reducible first | refine g1 fun _ => ?_ | refine g2 fun _ => ?_ | refine g3 ?_) | ((first | refine g4 ?_ | refine g5 fun _ _ => ?_ | refine g6 ?_); simp [-getElem?_pos, z0, z1, z2, hS]) | ((first | refine AWp.ret ?_ | refine AWp.skip ?_ | refine AWp.exit ?_); try simp only [thenP]) | (with_reducible refine g7 ?_; simp only [blockP, thenP, reduceIte]) | with_reducible refine g8 ?_)
  refine AWp.loopK (ι := { k : Nat // k ≤ R.length }) (n := 9) (fun k => s5 B lr M R 6 (mkK x lo hi k.1).length k.1 []) (fun k => [(0, bW x), (1, bR lo hi), (2, .box 40 (if mkK x lo hi k.1 = [] then [.nilS, .nilS, .nilS, .nilS, .nilS, .nilS] else [.own 3 (mkK x lo hi k.1).length 1, .own 4 (mkK x lo hi k.1).length 1, .own 5 (mkK x lo hi k.1).length 1, .own 6 (mkK x lo hi k.1).length 1, .own 7 (mkK x lo hi k.1).length 1, .own 8 (mkK x lo hi k.1).length 1]) false)] ++ (if mkK x lo hi k.1 = [] then [] else [rw1 3 (mkK x lo hi k.1) (-1), rw1 4 (mkK x lo hi k.1) 0, rw1 5 (mkK x lo hi k.1) 1, rw1 6 (mkK x lo hi k.1) 2, rw1 7 (mkK x lo hi k.1) 3, rw1 8 (mkK x lo hi k.1) 4])) (fun k => R.length - k.1) ⟨0, Nat.zero_le _⟩ [0, 1, 6, 100, 101, 102, 103, 104, 105] ?_ ?_
  · refine ⟨by rfl, by simp [mkK_zero], by simp [or_imp, forall_and, mkK_zero] <;> (try (intro _hne; simp [_hne])), by decide⟩
  rintro ⟨k, hk⟩ kk
  by_cases hlt : k < R.length
  · obtain ⟨r, hr⟩ : ∃ r, R[k]? = some r := ⟨_, List.getElem?_eq_getElem hlt⟩
    have wk : IntKind.i64.wrap ((k : Int) + 1) = (k : Int) + 1 := wrap64_in (by omega)
    rcases hm : madeR x lo hi r with _ | _
    · obtain ⟨a1, a2⟩ := kno k r hr hm
      by_cases hM0 : mkK x lo hi k = []
      all_goals
        repeat (first | (with_reducible first | refine g1 fun _ => ?_ | refine g2 fun _ => ?_ | refine g3 ?_) | ((first | refine g4 ?_ | refine g5 fun _ _ => ?_ | refine g6 ?_); simp [-getElem?_pos, z0, z1, z2, hlt, hr, hM0]) | ((first | refine AWp.ret ?_ | refine AWp.skip ?_ | refine AWp.exit ?_); try simp only [thenP]) | (with_reducible refine g7 ?_; simp only [blockP, thenP, reduceIte]) | with_reducible refine g8 ?_)
        refine Exec.call [] a1 ?_ rfl ?_ ?_; (focus simp [-getElem?_pos]); (focus simp [-getElem?_pos, z0, z1, z2, hlt, hr, hM0, recD]); simp [-getElem?_pos, z0, z1, z2, hlt, hr, hM0, recD]
        repeat (first | (with_reducible first | refine g1 fun _ => ?_ | refine g2 fun _ => ?_ | refine g3 ?_) | ((first | refine g4 ?_ | refine g5 fun _ _ => ?_ | refine g6 ?_); simp [-getElem?_pos, z0, z1, z2, wk]) | ((first | refine AWp.ret ?_ | refine AWp.skip ?_ | refine AWp.exit ?_); try simp only [thenP]) | (with_reducible refine g7 ?_; simp only [blockP, thenP, reduceIte]) | with_reducible refine g8 ?_)
        refine LL.go ⟨k + 1, hlt⟩ [0, 1, 2, 3, 4, 5, 6, 7, 8] ⟨by rfl, by simp [a2, hM0], by simp [or_imp, forall_and, a2, hM0] <;> (try (intro _hne; simp [_hne])), by decide⟩ ?_
        simp; omega
    · obtain ⟨a1, a2, a3, a4, a5, a6⟩ := kyes k r hr hm
      obtain ⟨p1, q1, c1⟩ : lr[0]? = some (leftN x lo hi 0) ∧ r.2[0]? = some (ofN r 0) ∧ ACall Try.prog 49 [intL (leftN x lo hi 0), iD (ofN r 0)] (bD true) := a6 0 (by omega)
      obtain ⟨p2, q2, c2⟩ : lr[1]? = some (leftN x lo hi 1) ∧ r.2[1]? = some (ofN r 1) ∧ ACall Try.prog 49 [intL (leftN x lo hi 1), iD (ofN r 1)] (bD true) := a6 1 (by omega)
      obtain ⟨p3, q3, c3⟩ : lr[2]? = some (leftN x lo hi 2) ∧ r.2[2]? = some (ofN r 2) ∧ ACall Try.prog 49 [intL (leftN x lo hi 2), iD (ofN r 2)] (bD true) := a6 2 (by omega)
      obtain ⟨p4, q4, c4⟩ : lr[3]? = some (leftN x lo hi 3) ∧ r.2[3]? = some (ofN r 3) ∧ ACall Try.prog 49 [intL (leftN x lo hi 3), iD (ofN r 3)] (bD true) := a6 3 (by omega)
      obtain ⟨p5, q5, c5⟩ : lr[4]? = some (leftN x lo hi 4) ∧ r.2[4]? = some (ofN r 4) ∧ ACall Try.prog 49 [intL (leftN x lo hi 4), iD (ofN r 4)] (bD true) := a6 4 (by omega)
      have hl400 := Nat.le_trans (mkle k) hRl
      generalize histVals x r.1 r.2 lo hi = hv at *
      obtain ⟨y0, hy0⟩ : ∃ y, r.1 = y := ⟨_, rfl⟩
      have hof0 : ofN r (-1) = y0 := hy0
      obtain ⟨y1, hof1⟩ : ∃ y, ofN r 0 = y := ⟨_, rfl⟩
      obtain ⟨l1, hl1⟩ : ∃ l, leftN x lo hi 0 = l := ⟨_, rfl⟩
      rw [hof1] at q1 c1; rw [hl1] at p1 c1
      obtain ⟨y2, hof2⟩ : ∃ y, ofN r 1 = y := ⟨_, rfl⟩
      obtain ⟨l2, hl2⟩ : ∃ l, leftN x lo hi 1 = l := ⟨_, rfl⟩
      rw [hof2] at q2 c2; rw [hl2] at p2 c2
      obtain ⟨y3, hof3⟩ : ∃ y, ofN r 2 = y := ⟨_, rfl⟩
      obtain ⟨l3, hl3⟩ : ∃ l, leftN x lo hi 2 = l := ⟨_, rfl⟩
      rw [hof3] at q3 c3; rw [hl3] at p3 c3
      obtain ⟨y4, hof4⟩ : ∃ y, ofN r 3 = y := ⟨_, rfl⟩
      obtain ⟨l4, hl4⟩ : ∃ l, leftN x lo hi 3 = l := ⟨_, rfl⟩
      rw [hof4] at q4 c4; rw [hl4] at p4 c4
      obtain ⟨y5, hof5⟩ : ∃ y, ofN r 4 = y := ⟨_, rfl⟩
      obtain ⟨l5, hl5⟩ : ∃ l, leftN x lo hi 4 = l := ⟨_, rfl⟩
      rw [hof5] at q5 c5; rw [hl5] at p5 c5
      obtain ⟨l, hl⟩ : ∃ l, mkK x lo hi k = l := ⟨_, rfl⟩
      rw [hl] at a4 hl400
      have wl : IntKind.i64.wrap ((l.length : Int) + 1) = (l.length : Int) + 1 := wrap64_in (by omega)
      have f0 : (seenL l (-1)).length = l.length := seenL_len l (-1)
      have f1 : (seenL l 0).length = l.length := seenL_len l 0
      have f2 : (seenL l 1).length = l.length := seenL_len l 1
      have f3 : (seenL l 2).length = l.length := seenL_len l 2
      have f4 : (seenL l 3).length = l.length := seenL_len l 3
      have f5 : (seenL l 4).length = l.length := seenL_len l 4
      rw [hy0] at a3
      have fb : fitsB (l.length + 1) 8 = true := fitsB_small (by omega) (by decide)
      by_cases hM0 : l = []
      · subst hM0
        have w1 : IntKind.i64.wrap 1 = 1 := by decide
        repeat (first | (with_reducible first | refine g1 fun _ => ?_ | refine g2 fun _ => ?_ | refine g3 ?_) | ((first | refine g4 ?_ | refine g5 fun _ _ => ?_ | refine g6 ?_); simp [-getElem?_pos, z0, z1, z2, hlt, hr, hl, hy0]) | ((first | refine AWp.ret ?_ | refine AWp.skip ?_ | refine AWp.exit ?_); try simp only [thenP]) | (with_reducible refine g7 ?_; simp only [blockP, thenP, reduceIte]) | with_reducible refine g8 ?_)
        refine Exec.call [] a1 ?_ rfl ?_ ?_; (focus simp [-getElem?_pos]); (focus simp [-getElem?_pos, z0, z1, z2, hlt, hr, hl, hy0, recD]); simp [-getElem?_pos, z0, z1, z2, hlt, hr, hl, hy0, recD]
        repeat (first | (with_reducible first | refine g1 fun _ => ?_ | refine g2 fun _ => ?_ | refine g3 ?_) | ((first | refine g4 ?_ | refine g5 fun _ _ => ?_ | refine g6 ?_); simp [-getElem?_pos, z0, z1, z2, hlt, hr, hl, hy0]) | ((first | refine AWp.ret ?_ | refine AWp.skip ?_ | refine AWp.exit ?_); try simp only [thenP]) | (with_reducible refine g7 ?_; simp only [blockP, thenP, reduceIte]) | with_reducible refine g8 ?_)
        refine Exec.call [] a2 ?_ rfl ?_ ?_; (focus simp [-getElem?_pos]); (focus simp [-getElem?_pos, z0, z1, z2, hlt, hr, hl, hy0, recD]); simp [-getElem?_pos, z0, z1, z2, hlt, hr, hl, hy0, recD]
        refine Exec.call [] a3 ?_ rfl ?_ ?_; (focus simp [-getElem?_pos]); (focus simp [-getElem?_pos, z0, z1, z2, hlt, hr, hl, hy0, recD]); simp [-getElem?_pos, z0, z1, z2, hlt, hr, hl, hy0, recD]
        repeat (first | (with_reducible first | refine g1 fun _ => ?_ | refine g2 fun _ => ?_ | refine g3 ?_) | ((first | refine g4 ?_ | refine g5 fun _ _ => ?_ | refine g6 ?_); simp [-getElem?_pos, z0, z1, z2, hlt, hr, hl, hy0, w1]) | ((first | refine AWp.ret ?_ | refine AWp.skip ?_ | refine AWp.exit ?_); try simp only [thenP]) | (with_reducible refine g7 ?_; simp only [blockP, thenP, reduceIte]) | with_reducible refine g8 ?_)
        refine AWp.loopK (ι := { i : Nat // i ≤ 5 }) (n := 9) (fun i => if i.1 = 0 then s5 B lr M R 6 (1) k [(28, .d (iD 0))] else if i.1 = 1 then s5 B lr M R 6 (1) k [(28, .d (iD 1))] else if i.1 = 2 then s5 B lr M R 6 (1) k [(28, .d (iD 2))] else if i.1 = 3 then s5 B lr M R 6 (1) k [(28, .d (iD 3))] else if i.1 = 4 then s5 B lr M R 6 (1) k [(28, .d (iD 4))] else s5 B lr M R 6 (1) k [(28, .d (iD 5))]) (fun i => if i.1 = 0 then [(0, bW x), (1, bR lo hi), (2, .box 40 [.own 3 1 1, .nilS, .nilS, .nilS, .nilS, .nilS] false), rw3 3 y0] else if i.1 = 1 then [(0, bW x), (1, bR lo hi), (2, .box 40 [.own 3 1 1, .own 4 1 1, .nilS, .nilS, .nilS, .nilS] false), rw3 3 y0, rw3 4 y1] else if i.1 = 2 then [(0, bW x), (1, bR lo hi), (2, .box 40 [.own 3 1 1, .own 4 1 1, .own 5 1 1, .nilS, .nilS, .nilS] false), rw3 3 y0, rw3 4 y1, rw3 5 y2] else if i.1 = 3 then [(0, bW x), (1, bR lo hi), (2, .box 40 [.own 3 1 1, .own 4 1 1, .own 5 1 1, .own 6 1 1, .nilS, .nilS] false), rw3 3 y0, rw3 4 y1, rw3 5 y2, rw3 6 y3] else if i.1 = 4 then [(0, bW x), (1, bR lo hi), (2, .box 40 [.own 3 1 1, .own 4 1 1, .own 5 1 1, .own 6 1 1, .own 7 1 1, .nilS] false), rw3 3 y0, rw3 4 y1, rw3 5 y2, rw3 6 y3, rw3 7 y4] else [(0, bW x), (1, bR lo hi), (2, .box 40 [.own 3 1 1, .own 4 1 1, .own 5 1 1, .own 6 1 1, .own 7 1 1, .own 8 1 1] false), rw3 3 y0, rw3 4 y1, rw3 5 y2, rw3 6 y3, rw3 7 y4, rw3 8 y5]) (fun i => 5 - i.1) ⟨0, by omega⟩ [0, 1, 2, 59, 100, 101, 102, 103, 104] ?_ ?_
        · refine ⟨by rfl, by simp [hlt, hr, hl, hy0], by simp [or_imp, forall_and, hlt, hr, hl, hy0] <;> (try (intro _hne; simp [_hne])), by decide⟩
        rintro ⟨i, hi⟩ ki
        match i, hi with
        | 0, _ =>
          have wi : IntKind.i64.wrap 1 = 1 := by decide
          repeat (first | (with_reducible first | refine g1 fun _ => ?_ | refine g2 fun _ => ?_ | refine g3 ?_) | ((first | refine g4 ?_ | refine g5 fun _ _ => ?_ | refine g6 ?_); simp [-getElem?_pos, z0, z1, z2, hlen2, p1, q1, hlt, hr, a5]) | ((first | refine AWp.ret ?_ | refine AWp.skip ?_ | refine AWp.exit ?_); try simp only [thenP]) | (with_reducible refine g7 ?_; simp only [blockP, thenP, reduceIte]) | with_reducible refine g8 ?_)
          refine Exec.call [] c1 ?_ rfl ?_ ?_; (focus simp [-getElem?_pos]); (focus simp [-getElem?_pos, z0, z1, z2, hlen2, p1, q1, hlt, hr, a5]); simp [-getElem?_pos, z0, z1, z2, hlen2, p1, q1, hlt, hr, a5]
          repeat (first | (with_reducible first | refine g1 fun _ => ?_ | refine g2 fun _ => ?_ | refine g3 ?_) | ((first | refine g4 ?_ | refine g5 fun _ _ => ?_ | refine g6 ?_); simp [-getElem?_pos, z0, z1, z2, hlen2, p1, q1, hlt, hr, a5, wi]) | ((first | refine AWp.ret ?_ | refine AWp.skip ?_ | refine AWp.exit ?_); try simp only [thenP]) | (with_reducible refine g7 ?_; simp only [blockP, thenP, reduceIte]) | with_reducible refine g8 ?_)
          refine LL.go ⟨1, by omega⟩ [0, 1, 2, 3, 44, 102, 103, 104, 105] ⟨by rfl, by simp [hlen2, p1, q1, hlt, hr, a5, wi], by simp [or_imp, forall_and, hlen2, p1, q1, hlt, hr, a5, wi] <;> (try (intro _hne; simp [_hne])), by decide⟩ ?_
          simp
        | 1, _ =>
          have wi : IntKind.i64.wrap 2 = 2 := by decide
          repeat (first | (with_reducible first | refine g1 fun _ => ?_ | refine g2 fun _ => ?_ | refine g3 ?_) | ((first | refine g4 ?_ | refine g5 fun _ _ => ?_ | refine g6 ?_); simp [-getElem?_pos, z0, z1, z2, hlen2, p2, q2, hlt, hr, a5]) | ((first | refine AWp.ret ?_ | refine AWp.skip ?_ | refine AWp.exit ?_); try simp only [thenP]) | (with_reducible refine g7 ?_; simp only [blockP, thenP, reduceIte]) | with_reducible refine g8 ?_)
          refine Exec.call [] c2 ?_ rfl ?_ ?_; (focus simp [-getElem?_pos]); (focus simp [-getElem?_pos, z0, z1, z2, hlen2, p2, q2, hlt, hr, a5]); simp [-getElem?_pos, z0, z1, z2, hlen2, p2, q2, hlt, hr, a5]
          repeat (first | (with_reducible first | refine g1 fun _ => ?_ | refine g2 fun _ => ?_ | refine g3 ?_) | ((first | refine g4 ?_ | refine g5 fun _ _ => ?_ | refine g6 ?_); simp [-getElem?_pos, z0, z1, z2, hlen2, p2, q2, hlt, hr, a5, wi]) | ((first | refine AWp.ret ?_ | refine AWp.skip ?_ | refine AWp.exit ?_); try simp only [thenP]) | (with_reducible refine g7 ?_; simp only [blockP, thenP, reduceIte]) | with_reducible refine g8 ?_)
          refine LL.go ⟨2, by omega⟩ [0, 1, 2, 3, 4, 44, 103, 104, 105] ⟨by rfl, by simp [hlen2, p2, q2, hlt, hr, a5, wi], by simp [or_imp, forall_and, hlen2, p2, q2, hlt, hr, a5, wi] <;> (try (intro _hne; simp [_hne])), by decide⟩ ?_
          simp
        | 2, _ =>
          have wi : IntKind.i64.wrap 3 = 3 := by decide
          repeat (first | (with_reducible first | refine g1 fun _ => ?_ | refine g2 fun _ => ?_ | refine g3 ?_) | ((first | refine g4 ?_ | refine g5 fun _ _ => ?_ | refine g6 ?_); simp [-getElem?_pos, z0, z1, z2, hlen2, p3, q3, hlt, hr, a5]) | ((first | refine AWp.ret ?_ | refine AWp.skip ?_ | refine AWp.exit ?_); try simp only [thenP]) | (with_reducible refine g7 ?_; simp only [blockP, thenP, reduceIte]) | with_reducible refine g8 ?_)
          refine Exec.call [] c3 ?_ rfl ?_ ?_; (focus simp [-getElem?_pos]); (focus simp [-getElem?_pos, z0, z1, z2, hlen2, p3, q3, hlt, hr, a5]); simp [-getElem?_pos, z0, z1, z2, hlen2, p3, q3, hlt, hr, a5]
          repeat (first | (with_reducible first | refine g1 fun _ => ?_ | refine g2 fun _ => ?_ | refine g3 ?_) | ((first | refine g4 ?_ | refine g5 fun _ _ => ?_ | refine g6 ?_); simp [-getElem?_pos, z0, z1, z2, hlen2, p3, q3, hlt, hr, a5, wi]) | ((first | refine AWp.ret ?_ | refine AWp.skip ?_ | refine AWp.exit ?_); try simp only [thenP]) | (with_reducible refine g7 ?_; simp only [blockP, thenP, reduceIte]) | with_reducible refine g8 ?_)
          refine LL.go ⟨3, by omega⟩ [0, 1, 2, 3, 4, 5, 44, 104, 105] ⟨by rfl, by simp [hlen2, p3, q3, hlt, hr, a5, wi], by simp [or_imp, forall_and, hlen2, p3, q3, hlt, hr, a5, wi] <;> (try (intro _hne; simp [_hne])), by decide⟩ ?_
          simp
        | 3, _ =>
          have wi : IntKind.i64.wrap 4 = 4 := by decide
          repeat (first | (with_reducible first | refine g1 fun _ => ?_ | refine g2 fun _ => ?_ | refine g3 ?_) | ((first | refine g4 ?_ | refine g5 fun _ _ => ?_ | refine g6 ?_); simp [-getElem?_pos, z0, z1, z2, hlen2, p4, q4, hlt, hr, a5]) | ((first | refine AWp.ret ?_ | refine AWp.skip ?_ | refine AWp.exit ?_); try simp only [thenP]) | (with_reducible refine g7 ?_; simp only [blockP, thenP, reduceIte]) | with_reducible refine g8 ?_)
          refine Exec.call [] c4 ?_ rfl ?_ ?_; (focus simp [-getElem?_pos]); (focus simp [-getElem?_pos, z0, z1, z2, hlen2, p4, q4, hlt, hr, a5]); simp [-getElem?_pos, z0, z1, z2, hlen2, p4, q4, hlt, hr, a5]
          repeat (first | (with_reducible first | refine g1 fun _ => ?_ | refine g2 fun _ => ?_ | refine g3 ?_) | ((first | refine g4 ?_ | refine g5 fun _ _ => ?_ | refine g6 ?_); simp [-getElem?_pos, z0, z1, z2, hlen2, p4, q4, hlt, hr, a5, wi]) | ((first | refine AWp.ret ?_ | refine AWp.skip ?_ | refine AWp.exit ?_); try simp only [thenP]) | (with_reducible refine g7 ?_; simp only [blockP, thenP, reduceIte]) | with_reducible refine g8 ?_)
          refine LL.go ⟨4, by omega⟩ [0, 1, 2, 3, 4, 5, 6, 44, 105] ⟨by rfl, by simp [hlen2, p4, q4, hlt, hr, a5, wi], by simp [or_imp, forall_and, hlen2, p4, q4, hlt, hr, a5, wi] <;> (try (intro _hne; simp [_hne])), by decide⟩ ?_
          simp
        | 4, _ =>
          have wi : IntKind.i64.wrap 5 = 5 := by decide
          repeat (first | (with_reducible first | refine g1 fun _ => ?_ | refine g2 fun _ => ?_ | refine g3 ?_) | ((first | refine g4 ?_ | refine g5 fun _ _ => ?_ | refine g6 ?_); simp [-getElem?_pos, z0, z1, z2, hlen2, p5, q5, hlt, hr, a5]) | ((first | refine AWp.ret ?_ | refine AWp.skip ?_ | refine AWp.exit ?_); try simp only [thenP]) | (with_reducible refine g7 ?_; simp only [blockP, thenP, reduceIte]) | with_reducible refine g8 ?_)
          refine Exec.call [] c5 ?_ rfl ?_ ?_; (focus simp [-getElem?_pos]); (focus simp [-getElem?_pos, z0, z1, z2, hlen2, p5, q5, hlt, hr, a5]); simp [-getElem?_pos, z0, z1, z2, hlen2, p5, q5, hlt, hr, a5]
          repeat (first | (with_reducible first | refine g1 fun _ => ?_ | refine g2 fun _ => ?_ | refine g3 ?_) | ((first | refine g4 ?_ | refine g5 fun _ _ => ?_ | refine g6 ?_); simp [-getElem?_pos, z0, z1, z2, hlen2, p5, q5, hlt, hr, a5, wi]) | ((first | refine AWp.ret ?_ | refine AWp.skip ?_ | refine AWp.exit ?_); try simp only [thenP]) | (with_reducible refine g7 ?_; simp only [blockP, thenP, reduceIte]) | with_reducible refine g8 ?_)
          refine LL.go ⟨5, by omega⟩ [0, 1, 2, 3, 4, 5, 6, 7, 44] ⟨by rfl, by simp [hlen2, p5, q5, hlt, hr, a5, wi], by simp [or_imp, forall_and, hlen2, p5, q5, hlt, hr, a5, wi] <;> (try (intro _hne; simp [_hne])), by decide⟩ ?_
          simp
        | 5, _ =>
          repeat (first | (with_reducible first | refine g1 fun _ => ?_ | refine g2 fun _ => ?_ | refine g3 ?_) | ((first | refine g4 ?_ | refine g5 fun _ _ => ?_ | refine g6 ?_); simp [-getElem?_pos, z0, z1, z2, hlen2, hlt, hr, hl, hy0, wk]) | ((first | refine AWp.ret ?_ | refine AWp.skip ?_ | refine AWp.exit ?_); try simp only [thenP]) | (with_reducible refine g7 ?_; simp only [blockP, thenP, reduceIte]) | with_reducible refine g8 ?_)
          refine LL.go ⟨k + 1, hlt⟩ [0, 1, 2, 3, 4, 5, 6, 7, 8] ⟨by rfl, by simp [a4, seenL_app, seenL_one, iRows_app, hof0, hof1, hof2, hof3, hof4, hof5], by simp [or_imp, forall_and, a4, seenL_app, seenL_one, iRows_app, hof0, hof1, hof2, hof3, hof4, hof5] <;> (try (intro _hne; simp [_hne])), by decide⟩ ?_
          simp; omega
      · repeat (first | (with_reducible first | refine g1 fun _ => ?_ | refine g2 fun _ => ?_ | refine g3 ?_) | ((first | refine g4 ?_ | refine g5 fun _ _ => ?_ | refine g6 ?_); simp [-getElem?_pos, z0, z1, z2, hlt, hr, hl, hM0, hy0]) | ((first | refine AWp.ret ?_ | refine AWp.skip ?_ | refine AWp.exit ?_); try simp only [thenP]) | (with_reducible refine g7 ?_; simp only [blockP, thenP, reduceIte]) | with_reducible refine g8 ?_)
        refine Exec.call [] a1 ?_ rfl ?_ ?_; (focus simp [-getElem?_pos]); (focus simp [-getElem?_pos, z0, z1, z2, hlt, hr, hl, hM0, hy0, recD]); simp [-getElem?_pos, z0, z1, z2, hlt, hr, hl, hM0, hy0, recD]
        repeat (first | (with_reducible first | refine g1 fun _ => ?_ | refine g2 fun _ => ?_ | refine g3 ?_) | ((first | refine g4 ?_ | refine g5 fun _ _ => ?_ | refine g6 ?_); simp [-getElem?_pos, z0, z1, z2, hlt, hr, hl, hM0, hy0]) | ((first | refine AWp.ret ?_ | refine AWp.skip ?_ | refine AWp.exit ?_); try simp only [thenP]) | (with_reducible refine g7 ?_; simp only [blockP, thenP, reduceIte]) | with_reducible refine g8 ?_)
        refine Exec.call [] a2 ?_ rfl ?_ ?_; (focus simp [-getElem?_pos]); (focus simp [-getElem?_pos, z0, z1, z2, hlt, hr, hl, hM0, hy0, recD]); simp [-getElem?_pos, z0, z1, z2, hlt, hr, hl, hM0, hy0, recD]
        refine Exec.call [] a3 ?_ rfl ?_ ?_; (focus simp [-getElem?_pos]); (focus simp [-getElem?_pos, z0, z1, z2, hlt, hr, hl, hM0, hy0, recD]); simp [-getElem?_pos, z0, z1, z2, hlt, hr, hl, hM0, hy0, recD]
        repeat (first | (with_reducible first | refine g1 fun _ => ?_ | refine g2 fun _ => ?_ | refine g3 ?_) | ((first | refine g4 ?_ | refine g5 fun _ _ => ?_ | refine g6 ?_); simp [-getElem?_pos, z0, z1, z2, hlt, hr, hl, hM0, hy0, wl, f0, fb]) | ((first | refine AWp.ret ?_ | refine AWp.skip ?_ | refine AWp.exit ?_); try simp only [thenP]) | (with_reducible refine g7 ?_; simp only [blockP, thenP, reduceIte]) | with_reducible refine g8 ?_)
        refine AWp.loopK (ι := { i : Nat // i ≤ 5 }) (n := 9) (fun i => if i.1 = 0 then s5 B lr M R 6 ((l.length : Int) + 1) k [(28, .d (iD 0))] else if i.1 = 1 then s5 B lr M R 6 ((l.length : Int) + 1) k [(28, .d (iD 1))] else if i.1 = 2 then s5 B lr M R 6 ((l.length : Int) + 1) k [(28, .d (iD 2))] else if i.1 = 3 then s5 B lr M R 6 ((l.length : Int) + 1) k [(28, .d (iD 3))] else if i.1 = 4 then s5 B lr M R 6 ((l.length : Int) + 1) k [(28, .d (iD 4))] else s5 B lr M R 6 ((l.length : Int) + 1) k [(28, .d (iD 5))]) (fun i => if i.1 = 0 then [(0, bW x), (1, bR lo hi), (2, .box 40 [.own 3 (l.length + 1) 1, .own 4 l.length 1, .own 5 l.length 1, .own 6 l.length 1, .own 7 l.length 1, .own 8 l.length 1] false), rw2 3 l (-1) y0, rw1 4 l 0, rw1 5 l 1, rw1 6 l 2, rw1 7 l 3, rw1 8 l 4] else if i.1 = 1 then [(0, bW x), (1, bR lo hi), (2, .box 40 [.own 3 (l.length + 1) 1, .own 4 (l.length + 1) 1, .own 5 l.length 1, .own 6 l.length 1, .own 7 l.length 1, .own 8 l.length 1] false), rw2 3 l (-1) y0, rw2 4 l 0 y1, rw1 5 l 1, rw1 6 l 2, rw1 7 l 3, rw1 8 l 4] else if i.1 = 2 then [(0, bW x), (1, bR lo hi), (2, .box 40 [.own 3 (l.length + 1) 1, .own 4 (l.length + 1) 1, .own 5 (l.length + 1) 1, .own 6 l.length 1, .own 7 l.length 1, .own 8 l.length 1] false), rw2 3 l (-1) y0, rw2 4 l 0 y1, rw2 5 l 1 y2, rw1 6 l 2, rw1 7 l 3, rw1 8 l 4] else if i.1 = 3 then [(0, bW x), (1, bR lo hi), (2, .box 40 [.own 3 (l.length + 1) 1, .own 4 (l.length + 1) 1, .own 5 (l.length + 1) 1, .own 6 (l.length + 1) 1, .own 7 l.length 1, .own 8 l.length 1] false), rw2 3 l (-1) y0, rw2 4 l 0 y1, rw2 5 l 1 y2, rw2 6 l 2 y3, rw1 7 l 3, rw1 8 l 4] else if i.1 = 4 then [(0, bW x), (1, bR lo hi), (2, .box 40 [.own 3 (l.length + 1) 1, .own 4 (l.length + 1) 1, .own 5 (l.length + 1) 1, .own 6 (l.length + 1) 1, .own 7 (l.length + 1) 1, .own 8 l.length 1] false), rw2 3 l (-1) y0, rw2 4 l 0 y1, rw2 5 l 1 y2, rw2 6 l 2 y3, rw2 7 l 3 y4, rw1 8 l 4] else [(0, bW x), (1, bR lo hi), (2, .box 40 [.own 3 (l.length + 1) 1, .own 4 (l.length + 1) 1, .own 5 (l.length + 1) 1, .own 6 (l.length + 1) 1, .own 7 (l.length + 1) 1, .own 8 (l.length + 1) 1] false), rw2 3 l (-1) y0, rw2 4 l 0 y1, rw2 5 l 1 y2, rw2 6 l 2 y3, rw2 7 l 3 y4, rw2 8 l 4 y5]) (fun i => 5 - i.1) ⟨0, by omega⟩ [0, 1, 2, 59, 4, 5, 6, 7, 8] ?_ ?_
        · refine ⟨by rfl, by simp [hlt, hr, hl, hM0, hy0, f0, fb], by simp [or_imp, forall_and, hlt, hr, hl, hM0, hy0, f0, fb] <;> (try (intro _hne; simp [_hne])), by decide⟩
        rintro ⟨i, hi⟩ ki
        match i, hi with
        | 0, _ =>
          have wi : IntKind.i64.wrap 1 = 1 := by decide
          repeat (first | (with_reducible first | refine g1 fun _ => ?_ | refine g2 fun _ => ?_ | refine g3 ?_) | ((first | refine g4 ?_ | refine g5 fun _ _ => ?_ | refine g6 ?_); simp [-getElem?_pos, z0, z1, z2, hlen2, p1, q1, f1, hlt, hr, a5, fb]) | ((first | refine AWp.ret ?_ | refine AWp.skip ?_ | refine AWp.exit ?_); try simp only [thenP]) | (with_reducible refine g7 ?_; simp only [blockP, thenP, reduceIte]) | with_reducible refine g8 ?_)
          refine Exec.call [] c1 ?_ rfl ?_ ?_; (focus simp [-getElem?_pos]); (focus simp [-getElem?_pos, z0, z1, z2, hlen2, p1, q1, f1, hlt, hr, a5, fb]); simp [-getElem?_pos, z0, z1, z2, hlen2, p1, q1, f1, hlt, hr, a5, fb]
          repeat (first | (with_reducible first | refine g1 fun _ => ?_ | refine g2 fun _ => ?_ | refine g3 ?_) | ((first | refine g4 ?_ | refine g5 fun _ _ => ?_ | refine g6 ?_); simp [-getElem?_pos, z0, z1, z2, hlen2, p1, q1, f1, hlt, hr, a5, fb, wi]) | ((first | refine AWp.ret ?_ | refine AWp.skip ?_ | refine AWp.exit ?_); try simp only [thenP]) | (with_reducible refine g7 ?_; simp only [blockP, thenP, reduceIte]) | with_reducible refine g8 ?_)
          refine LL.go ⟨1, by omega⟩ [0, 1, 2, 3, 44, 5, 6, 7, 8] ⟨by rfl, by simp [hlen2, p1, q1, f1, hlt, hr, a5, fb, wi], by simp [or_imp, forall_and, hlen2, p1, q1, f1, hlt, hr, a5, fb, wi] <;> (try (intro _hne; simp [_hne])), by decide⟩ ?_
          simp
        | 1, _ =>
          have wi : IntKind.i64.wrap 2 = 2 := by decide
          repeat (first | (with_reducible first | refine g1 fun _ => ?_ | refine g2 fun _ => ?_ | refine g3 ?_) | ((first | refine g4 ?_ | refine g5 fun _ _ => ?_ | refine g6 ?_); simp [-getElem?_pos, z0, z1, z2, hlen2, p2, q2, f2, hlt, hr, a5, fb]) | ((first | refine AWp.ret ?_ | refine AWp.skip ?_ | refine AWp.exit ?_); try simp only [thenP]) | (with_reducible refine g7 ?_; simp only [blockP, thenP, reduceIte]) | with_reducible refine g8 ?_)
          refine Exec.call [] c2 ?_ rfl ?_ ?_; (focus simp [-getElem?_pos]); (focus simp [-getElem?_pos, z0, z1, z2, hlen2, p2, q2, f2, hlt, hr, a5, fb]); simp [-getElem?_pos, z0, z1, z2, hlen2, p2, q2, f2, hlt, hr, a5, fb]
          repeat (first | (with_reducible first | refine g1 fun _ => ?_ | refine g2 fun _ => ?_ | refine g3 ?_) | ((first | refine g4 ?_ | refine g5 fun _ _ => ?_ | refine g6 ?_); simp [-getElem?_pos, z0, z1, z2, hlen2, p2, q2, f2, hlt, hr, a5, fb, wi]) | ((first | refine AWp.ret ?_ | refine AWp.skip ?_ | refine AWp.exit ?_); try simp only [thenP]) | (with_reducible refine g7 ?_; simp only [blockP, thenP, reduceIte]) | with_reducible refine g8 ?_)
          refine LL.go ⟨2, by omega⟩ [0, 1, 2, 3, 4, 44, 6, 7, 8] ⟨by rfl, by simp [hlen2, p2, q2, f2, hlt, hr, a5, fb, wi], by simp [or_imp, forall_and, hlen2, p2, q2, f2, hlt, hr, a5, fb, wi] <;> (try (intro _hne; simp [_hne])), by decide⟩ ?_
          simp
        | 2, _ =>
          have wi : IntKind.i64.wrap 3 = 3 := by decide
          repeat (first | (with_reducible first | refine g1 fun _ => ?_ | refine g2 fun _ => ?_ | refine g3 ?_) | ((first | refine g4 ?_ | refine g5 fun _ _ => ?_ | refine g6 ?_); simp [-getElem?_pos, z0, z1, z2, hlen2, p3, q3, f3, hlt, hr, a5, fb]) | ((first | refine AWp.ret ?_ | refine AWp.skip ?_ | refine AWp.exit ?_); try simp only [thenP]) | (with_reducible refine g7 ?_; simp only [blockP, thenP, reduceIte]) | with_reducible refine g8 ?_)
          refine Exec.call [] c3 ?_ rfl ?_ ?_; (focus simp [-getElem?_pos]); (focus simp [-getElem?_pos, z0, z1, z2, hlen2, p3, q3, f3, hlt, hr, a5, fb]); simp [-getElem?_pos, z0, z1, z2, hlen2, p3, q3, f3, hlt, hr, a5, fb]
          repeat (first | (with_reducible first | refine g1 fun _ => ?_ | refine g2 fun _ => ?_ | refine g3 ?_) | ((first | refine g4 ?_ | refine g5 fun _ _ => ?_ | refine g6 ?_); simp [-getElem?_pos, z0, z1, z2, hlen2, p3, q3, f3, hlt, hr, a5, fb, wi]) | ((first | refine AWp.ret ?_ | refine AWp.skip ?_ | refine AWp.exit ?_); try simp only [thenP]) | (with_reducible refine g7 ?_; simp only [blockP, thenP, reduceIte]) | with_reducible refine g8 ?_)
          refine LL.go ⟨3, by omega⟩ [0, 1, 2, 3, 4, 5, 44, 7, 8] ⟨by rfl, by simp [hlen2, p3, q3, f3, hlt, hr, a5, fb, wi], by simp [or_imp, forall_and, hlen2, p3, q3, f3, hlt, hr, a5, fb, wi] <;> (try (intro _hne; simp [_hne])), by decide⟩ ?_
          simp
        | 3, _ =>
          have wi : IntKind.i64.wrap 4 = 4 := by decide
          repeat (first | (with_reducible first | refine g1 fun _ => ?_ | refine g2 fun _ => ?_ | refine g3 ?_) | ((first | refine g4 ?_ | refine g5 fun _ _ => ?_ | refine g6 ?_); simp [-getElem?_pos, z0, z1, z2, hlen2, p4, q4, f4, hlt, hr, a5, fb]) | ((first | refine AWp.ret ?_ | refine AWp.skip ?_ | refine AWp.exit ?_); try simp only [thenP]) | (with_reducible refine g7 ?_; simp only [blockP, thenP, reduceIte]) | with_reducible refine g8 ?_)
          refine Exec.call [] c4 ?_ rfl ?_ ?_; (focus simp [-getElem?_pos]); (focus simp [-getElem?_pos, z0, z1, z2, hlen2, p4, q4, f4, hlt, hr, a5, fb]); simp [-getElem?_pos, z0, z1, z2, hlen2, p4, q4, f4, hlt, hr, a5, fb]
          repeat (first | (with_reducible first | refine g1 fun _ => ?_ | refine g2 fun _ => ?_ | refine g3 ?_) | ((first | refine g4 ?_ | refine g5 fun _ _ => ?_ | refine g6 ?_); simp [-getElem?_pos, z0, z1, z2, hlen2, p4, q4, f4, hlt, hr, a5, fb, wi]) | ((first | refine AWp.ret ?_ | refine AWp.skip ?_ | refine AWp.exit ?_); try simp only [thenP]) | (with_reducible refine g7 ?_; simp only [blockP, thenP, reduceIte]) | with_reducible refine g8 ?_)
          refine LL.go ⟨4, by omega⟩ [0, 1, 2, 3, 4, 5, 6, 44, 8] ⟨by rfl, by simp [hlen2, p4, q4, f4, hlt, hr, a5, fb, wi], by simp [or_imp, forall_and, hlen2, p4, q4, f4, hlt, hr, a5, fb, wi] <;> (try (intro _hne; simp [_hne])), by decide⟩ ?_
          simp
        | 4, _ =>
          have wi : IntKind.i64.wrap 5 = 5 := by decide
          repeat (first | (with_reducible first | refine g1 fun _ => ?_ | refine g2 fun _ => ?_ | refine g3 ?_) | ((first | refine g4 ?_ | refine g5 fun _ _ => ?_ | refine g6 ?_); simp [-getElem?_pos, z0, z1, z2, hlen2, p5, q5, f5, hlt, hr, a5, fb]) | ((first | refine AWp.ret ?_ | refine AWp.skip ?_ | refine AWp.exit ?_); try simp only [thenP]) | (with_reducible refine g7 ?_; simp only [blockP, thenP, reduceIte]) | with_reducible refine g8 ?_)
          refine Exec.call [] c5 ?_ rfl ?_ ?_; (focus simp [-getElem?_pos]); (focus simp [-getElem?_pos, z0, z1, z2, hlen2, p5, q5, f5, hlt, hr, a5, fb]); simp [-getElem?_pos, z0, z1, z2, hlen2, p5, q5, f5, hlt, hr, a5, fb]
          repeat (first | (with_reducible first | refine g1 fun _ => ?_ | refine g2 fun _ => ?_ | refine g3 ?_) | ((first | refine g4 ?_ | refine g5 fun _ _ => ?_ | refine g6 ?_); simp [-getElem?_pos, z0, z1, z2, hlen2, p5, q5, f5, hlt, hr, a5, fb, wi]) | ((first | refine AWp.ret ?_ | refine AWp.skip ?_ | refine AWp.exit ?_); try simp only [thenP]) | (with_reducible refine g7 ?_; simp only [blockP, thenP, reduceIte]) | with_reducible refine g8 ?_)
          refine LL.go ⟨5, by omega⟩ [0, 1, 2, 3, 4, 5, 6, 7, 44] ⟨by rfl, by simp [hlen2, p5, q5, f5, hlt, hr, a5, fb, wi], by simp [or_imp, forall_and, hlen2, p5, q5, f5, hlt, hr, a5, fb, wi] <;> (try (intro _hne; simp [_hne])), by decide⟩ ?_
          simp
        | 5, _ =>
          repeat (first | (with_reducible first | refine g1 fun _ => ?_ | refine g2 fun _ => ?_ | refine g3 ?_) | ((first | refine g4 ?_ | refine g5 fun _ _ => ?_ | refine g6 ?_); simp [-getElem?_pos, z0, z1, z2, hlen2, hlt, hr, hl, hM0, hy0, wk]) | ((first | refine AWp.ret ?_ | refine AWp.skip ?_ | refine AWp.exit ?_); try simp only [thenP]) | (with_reducible refine g7 ?_; simp only [blockP, thenP, reduceIte]) | with_reducible refine g8 ?_)
          refine LL.go ⟨k + 1, hlt⟩ [0, 1, 2, 3, 4, 5, 6, 7, 8] ⟨by rfl, by simp [a4, seenL_app, seenL_one, iRows_app, hof0, hof1, hof2, hof3, hof4, hof5], by simp [or_imp, forall_and, a4, seenL_app, seenL_one, iRows_app, hof0, hof1, hof2, hof3, hof4, hof5] <;> (try (intro _hne; simp [_hne])), by decide⟩ ?_
          simp; omega
  · obtain rfl : k = R.length := by omega
    have hne := mkne
    refine AWp.shutL 23 2 6 (ty := 40) (cells := [.own 3 (mkK x lo hi R.length).length 1, .own 4 (mkK x lo hi R.length).length 1, .own 5 (mkK x lo hi R.length).length 1, .own 6 (mkK x lo hi R.length).length 1, .own 7 (mkK x lo hi R.length).length 1, .own 8 (mkK x lo hi R.length).length 1]) (ds := [.list (iRows (seenL (mkK x lo hi R.length) (-1))), .list (iRows (seenL (mkK x lo hi R.length) 0)), .list (iRows (seenL (mkK x lo hi R.length) 1)), .list (iRows (seenL (mkK x lo hi R.length) 2)), .list (iRows (seenL (mkK x lo hi R.length) 3)), .list (iRows (seenL (mkK x lo hi R.length) 4))]) (is := [3, 4, 5, 6, 7, 8]) (by rfl) (by simp [hne]) (by simp [hne, seenL_len]) (by simp) (by simp [maxLen]) ?_
    repeat (first | (with_reducible first | refine g1 fun _ => ?_ | refine g2 fun _ => ?_ | refine g3 ?_) | ((first | refine g4 ?_ | refine g5 fun _ _ => ?_ | refine g6 ?_); simp [-getElem?_pos, z0, z1, z2, hne]) | ((first | refine AWp.ret ?_ | refine AWp.skip ?_ | refine AWp.exit ?_); try simp only [thenP]) | (with_reducible refine g7 ?_; simp only [blockP, thenP, reduceIte]) | with_reducible refine g8 ?_)
    exact JJ.go [2] ⟨by rfl, by simp [hne, mkall, mklen, seenRows, listRows, List.range_succ], by simp [or_imp, forall_and, hne, mkall, mklen, seenRows, listRows, List.range_succ], by decide⟩
end Go.Proofs.Ytigpefjeelgfdaa.Eng
