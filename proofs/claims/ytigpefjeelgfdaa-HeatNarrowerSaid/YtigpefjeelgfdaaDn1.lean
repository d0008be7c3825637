/-
  HeatNarrower returns true, for every works, recipe, measured range and what makes it narrower: no recipe is added, no bar and no way, and no range of Had becomes wider. No condition.
-/
import Derived.Test.YtigpefjeelgfdaaDe6
import Derived.ProofKit
import Derived.OpenShut
import Derived.Below
import Derived.ChangeSame
import Derived.ReadAgain
import Derived.Deep.Slices
set_option linter.unusedSimpArgs false
set_option linter.unusedVariables false
/-
  Layer 1's reference, by the engine: Makers.
-/
namespace Go.Proofs.Ytigpefjeelgfdaa.Eng
open Go.RowKit

def madeR (x : Works) (lo hi : Int) (r : Rec) : Bool := madeB x r.1.toNat r.2 lo hi
def mkTo (x : Works) (lo hi : Int) (l : List Rec) (k : Nat) : List Rec := (l.take k).filter (madeR x lo hi)
theorem mkTo_yes {x : Works} {lo hi : Int} {l : List Rec} {k : Nat} {r : Rec} (h : l[k]? = some r) (hm : madeR x lo hi r = true) : mkTo x lo hi l (k + 1) = mkTo x lo hi l k ++ [r] := by
  rw [mkTo, take_some h, List.filter_append]; simp [mkTo, hm]
theorem mkTo_no {x : Works} {lo hi : Int} {l : List Rec} {k : Nat} {r : Rec} (h : l[k]? = some r) (hm : madeR x lo hi r = false) : mkTo x lo hi l (k + 1) = mkTo x lo hi l k := by
  rw [mkTo, take_some h, List.filter_append]; simp [mkTo, hm]
theorem mkTo_len (x : Works) (lo hi : Int) (l : List Rec) (k : Nat) : (mkTo x lo hi l k).length ≤ k := by
  refine Nat.le_trans (List.length_filter_le _ _) ?_
  simp; omega
/-- What is asked of all recipes of a works. -/
structure RecsOk (x : Works) (l : List Rec) : Prop where
  ok : ∀ r ∈ l, ∃ m : Nat, r.1 = (m : Int) ∧ RecOk x (m : Int) r.2
  few : l.length ≤ 1000
set_option maxRecDepth 100000 in
set_option maxHeartbeats 4000000 in
theorem makers_ok (x : Works) (lo hi : Int) (l : List Rec) (hl : RecsOk x l) (hr : ACall Try.prog 50 [worksD x] (recsD l)) : ACall Try.prog 75 [worksD x, rgD lo hi] (recsD (mkTo x lo hi l l.length)) := by
  obtain ⟨hok, hfew⟩ := hl
  refine acallK Try.func75 rfl rfl (show 2 ≤ _ by decide) rfl fun _ => ?_; simp only [Try.ntmps75]
  repeat (first | (with_reducible refine AWp.seqK fun _ => ?_) | (with_reducible refine AWp.blockK fun _ => ?_) | (with_reducible refine KK.go ?_) | (refine AWp.reg tabOk ?_; simp [-getElem?_pos, List.getElem?_cons_zero, List.getElem?_cons_succ, List.getElem?_nil, ]) | (refine AWp.condK fun _ _ => ?_; simp [-getElem?_pos, List.getElem?_cons_zero, List.getElem?_cons_succ, List.getElem?_nil, ]) | (refine AWp.ret ?_; try simp only [thenP]) | (refine AWp.skip ?_; try simp only [thenP]) | (refine AWp.exit ?_; try simp only [thenP]) | (with_reducible refine BB.go ?_; simp only [blockP, thenP, if_true, if_false, reduceIte]) | (refine AWp.draws tabOk (by kernel_rfl) (by kernel_rfl) ?_; simp [-getElem?_pos, List.getElem?_cons_zero, List.getElem?_cons_succ, List.getElem?_nil, ]) | (with_reducible refine And.intro (show okLog _ _ = true from by kernel_rfl) ?_))
  first | (refine Exec0.call [] hr (by simp [-getElem?_pos, ]) rfl (by simp [-getElem?_pos, List.getElem?_cons_zero, List.getElem?_cons_succ, List.getElem?_nil, ]) ?_; simp [-getElem?_pos, List.getElem?_cons_zero, List.getElem?_cons_succ, List.getElem?_nil, ]) | (refine Exec.call [] hr (by simp [-getElem?_pos, ]) rfl (by simp [-getElem?_pos, List.getElem?_cons_zero, List.getElem?_cons_succ, List.getElem?_nil, ]) ?_; simp [-getElem?_pos, List.getElem?_cons_zero, List.getElem?_cons_succ, List.getElem?_nil, ])
  repeat (first | (with_reducible refine AWp.seqK fun _ => ?_) | (with_reducible refine AWp.blockK fun _ => ?_) | (with_reducible refine KK.go ?_) | (refine AWp.reg tabOk ?_; simp [-getElem?_pos, List.getElem?_cons_zero, List.getElem?_cons_succ, List.getElem?_nil, ]) | (refine AWp.condK fun _ _ => ?_; simp [-getElem?_pos, List.getElem?_cons_zero, List.getElem?_cons_succ, List.getElem?_nil, ]) | (refine AWp.ret ?_; try simp only [thenP]) | (refine AWp.skip ?_; try simp only [thenP]) | (refine AWp.exit ?_; try simp only [thenP]) | (with_reducible refine BB.go ?_; simp only [blockP, thenP, if_true, if_false, reduceIte]) | (refine AWp.draws tabOk (by kernel_rfl) (by kernel_rfl) ?_; simp [-getElem?_pos, List.getElem?_cons_zero, List.getElem?_cons_succ, List.getElem?_nil, ]) | (with_reducible refine And.intro (show okLog _ _ = true from by kernel_rfl) ?_))
  refine AWp.loopK (ι := { k : Nat // k ≤ l.length }) (n := 3) (fun k => [(2, .ptr 0 0 0), (3, .ptr 1 0 0), (5, gS 2 2 (recRows (mkTo x lo hi l k.1))), (6, .d (recsD l)), (7, .d (iD k.1))]) (fun k => (0, .box 25 [.d (.list (rgRows x.bars)), .d (.list (stepRows x.steps))] false) :: (1, .box 33 [.d (iD lo), .d (iD hi)] false) :: gM 2 42 2 (recRows (mkTo x lo hi l k.1))) (fun k => l.length - k.1) ⟨0, Nat.zero_le _⟩ [0, 1, 2] ?_ ?_
  · refine ⟨by rfl, by simp [mkTo], by simp [or_imp, forall_and, mkTo] <;> (try (intro _hne; simp [_hne])), by decide⟩
  rintro ⟨k, hk⟩ kk
  have w1 : IntKind.i64.wrap ((k : Int) + 1) = (k : Int) + 1 := wrap64_in (by omega)
  have hlen := mkTo_len x lo hi l k
  by_cases hlt : k < l.length
  · obtain ⟨⟨r1, ways⟩, hx⟩ : ∃ r, l[k]? = some r := ⟨_, List.getElem?_eq_getElem hlt⟩
    obtain ⟨m, rfl, ok⟩ := hok _ (List.mem_of_getElem? hx)
    have hmc := made_c x m ways lo hi ok
    have hmr : madeR x lo hi ((m : Int), ways) = madeB x m ways lo hi := rfl
    rcases hmb : madeB x m ways lo hi <;> rw [hmb] at hmc hmr
    · have hs := mkTo_no hx hmr
      repeat (first | (with_reducible refine AWp.seqK fun _ => ?_) | (with_reducible refine AWp.blockK fun _ => ?_) | (with_reducible refine KK.go ?_) | (refine AWp.reg tabOk ?_; simp [-getElem?_pos, List.getElem?_cons_zero, List.getElem?_cons_succ, List.getElem?_nil, hlt, hx, w1]) | (refine AWp.condK fun _ _ => ?_; simp [-getElem?_pos, List.getElem?_cons_zero, List.getElem?_cons_succ, List.getElem?_nil, hlt, hx, w1]) | (refine AWp.ret ?_; try simp only [thenP]) | (refine AWp.skip ?_; try simp only [thenP]) | (refine AWp.exit ?_; try simp only [thenP]) | (with_reducible refine BB.go ?_; simp only [blockP, thenP, if_true, if_false, reduceIte]) | (refine AWp.draws tabOk (by kernel_rfl) (by kernel_rfl) ?_; simp [-getElem?_pos, List.getElem?_cons_zero, List.getElem?_cons_succ, List.getElem?_nil, hlt, hx, w1]) | (with_reducible refine And.intro (show okLog _ _ = true from by kernel_rfl) ?_))
      first | (refine Exec0.call [] hmc (by simp [-getElem?_pos, recD, hx]) rfl (by simp [-getElem?_pos, List.getElem?_cons_zero, List.getElem?_cons_succ, List.getElem?_nil, recD, hx]) ?_; simp [-getElem?_pos, List.getElem?_cons_zero, List.getElem?_cons_succ, List.getElem?_nil, recD, hx]) | (refine Exec.call [] hmc (by simp [-getElem?_pos, recD, hx]) rfl (by simp [-getElem?_pos, List.getElem?_cons_zero, List.getElem?_cons_succ, List.getElem?_nil, recD, hx]) ?_; simp [-getElem?_pos, List.getElem?_cons_zero, List.getElem?_cons_succ, List.getElem?_nil, recD, hx])
      repeat (first | (with_reducible refine AWp.seqK fun _ => ?_) | (with_reducible refine AWp.blockK fun _ => ?_) | (with_reducible refine KK.go ?_) | (refine AWp.reg tabOk ?_; simp [-getElem?_pos, List.getElem?_cons_zero, List.getElem?_cons_succ, List.getElem?_nil, hlt, hx, w1]) | (refine AWp.condK fun _ _ => ?_; simp [-getElem?_pos, List.getElem?_cons_zero, List.getElem?_cons_succ, List.getElem?_nil, hlt, hx, w1]) | (refine AWp.ret ?_; try simp only [thenP]) | (refine AWp.skip ?_; try simp only [thenP]) | (refine AWp.exit ?_; try simp only [thenP]) | (with_reducible refine BB.go ?_; simp only [blockP, thenP, if_true, if_false, reduceIte]) | (refine AWp.draws tabOk (by kernel_rfl) (by kernel_rfl) ?_; simp [-getElem?_pos, List.getElem?_cons_zero, List.getElem?_cons_succ, List.getElem?_nil, hlt, hx, w1]) | (with_reducible refine And.intro (show okLog _ _ = true from by kernel_rfl) ?_))
      refine LL.go ⟨k + 1, hlt⟩ [0, 1, 2] ⟨by rfl, by simp [hs], by simp [or_imp, forall_and, hs] <;> (try (intro _hne; simp [_hne])), by decide⟩ ?_
      simp; omega
    · have hs := mkTo_yes hx hmr
      have b1 : fitsB ((mkTo x lo hi l k).length + 1) 32 = true := fitsB_small (by omega) (by omega)
      by_cases hz : recRows (mkTo x lo hi l k) = []
      · repeat (first | (with_reducible refine AWp.seqK fun _ => ?_) | (with_reducible refine AWp.blockK fun _ => ?_) | (with_reducible refine KK.go ?_) | (refine AWp.reg tabOk ?_; simp [-getElem?_pos, List.getElem?_cons_zero, List.getElem?_cons_succ, List.getElem?_nil, hlt, hx, w1, hz]) | (refine AWp.condK fun _ _ => ?_; simp [-getElem?_pos, List.getElem?_cons_zero, List.getElem?_cons_succ, List.getElem?_nil, hlt, hx, w1, hz]) | (refine AWp.ret ?_; try simp only [thenP]) | (refine AWp.skip ?_; try simp only [thenP]) | (refine AWp.exit ?_; try simp only [thenP]) | (with_reducible refine BB.go ?_; simp only [blockP, thenP, if_true, if_false, reduceIte]) | (refine AWp.draws tabOk (by kernel_rfl) (by kernel_rfl) ?_; simp [-getElem?_pos, List.getElem?_cons_zero, List.getElem?_cons_succ, List.getElem?_nil, hlt, hx, w1, hz]) | (with_reducible refine And.intro (show okLog _ _ = true from by kernel_rfl) ?_))
        first | (refine Exec0.call [] hmc (by simp [-getElem?_pos, recD, hx]) rfl (by simp [-getElem?_pos, List.getElem?_cons_zero, List.getElem?_cons_succ, List.getElem?_nil, recD, hx]) ?_; simp [-getElem?_pos, List.getElem?_cons_zero, List.getElem?_cons_succ, List.getElem?_nil, recD, hx]) | (refine Exec.call [] hmc (by simp [-getElem?_pos, recD, hx]) rfl (by simp [-getElem?_pos, List.getElem?_cons_zero, List.getElem?_cons_succ, List.getElem?_nil, recD, hx]) ?_; simp [-getElem?_pos, List.getElem?_cons_zero, List.getElem?_cons_succ, List.getElem?_nil, recD, hx])
        repeat (first | (with_reducible refine AWp.seqK fun _ => ?_) | (with_reducible refine AWp.blockK fun _ => ?_) | (with_reducible refine KK.go ?_) | (refine AWp.reg tabOk ?_; simp [-getElem?_pos, List.getElem?_cons_zero, List.getElem?_cons_succ, List.getElem?_nil, hlt, hx, w1, hz]) | (refine AWp.condK fun _ _ => ?_; simp [-getElem?_pos, List.getElem?_cons_zero, List.getElem?_cons_succ, List.getElem?_nil, hlt, hx, w1, hz]) | (refine AWp.ret ?_; try simp only [thenP]) | (refine AWp.skip ?_; try simp only [thenP]) | (refine AWp.exit ?_; try simp only [thenP]) | (with_reducible refine BB.go ?_; simp only [blockP, thenP, if_true, if_false, reduceIte]) | (refine AWp.draws tabOk (by kernel_rfl) (by kernel_rfl) ?_; simp [-getElem?_pos, List.getElem?_cons_zero, List.getElem?_cons_succ, List.getElem?_nil, hlt, hx, w1, hz]) | (with_reducible refine And.intro (show okLog _ _ = true from by kernel_rfl) ?_))
        have hz2 : mkTo x lo hi l k = [] := by simpa [recRows] using hz
        refine LL.go ⟨k + 1, hlt⟩ [0, 1, 20] ⟨by rfl, by simp [hs, hz, hz2], by simp [or_imp, forall_and, hs, hz, hz2] <;> (try (intro _hne; simp [_hne])), by decide⟩ ?_
        simp; omega
      · repeat (first | (with_reducible refine AWp.seqK fun _ => ?_) | (with_reducible refine AWp.blockK fun _ => ?_) | (with_reducible refine KK.go ?_) | (refine AWp.reg tabOk ?_; simp [-getElem?_pos, List.getElem?_cons_zero, List.getElem?_cons_succ, List.getElem?_nil, hlt, hx, w1, gS_ne hz, hz]) | (refine AWp.condK fun _ _ => ?_; simp [-getElem?_pos, List.getElem?_cons_zero, List.getElem?_cons_succ, List.getElem?_nil, hlt, hx, w1, gS_ne hz, hz]) | (refine AWp.ret ?_; try simp only [thenP]) | (refine AWp.skip ?_; try simp only [thenP]) | (refine AWp.exit ?_; try simp only [thenP]) | (with_reducible refine BB.go ?_; simp only [blockP, thenP, if_true, if_false, reduceIte]) | (refine AWp.draws tabOk (by kernel_rfl) (by kernel_rfl) ?_; simp [-getElem?_pos, List.getElem?_cons_zero, List.getElem?_cons_succ, List.getElem?_nil, hlt, hx, w1, gS_ne hz, hz]) | (with_reducible refine And.intro (show okLog _ _ = true from by kernel_rfl) ?_))
        first | (refine Exec0.call [] hmc (by simp [-getElem?_pos, recD, hx]) rfl (by simp [-getElem?_pos, List.getElem?_cons_zero, List.getElem?_cons_succ, List.getElem?_nil, recD, hx]) ?_; simp [-getElem?_pos, List.getElem?_cons_zero, List.getElem?_cons_succ, List.getElem?_nil, recD, hx]) | (refine Exec.call [] hmc (by simp [-getElem?_pos, recD, hx]) rfl (by simp [-getElem?_pos, List.getElem?_cons_zero, List.getElem?_cons_succ, List.getElem?_nil, recD, hx]) ?_; simp [-getElem?_pos, List.getElem?_cons_zero, List.getElem?_cons_succ, List.getElem?_nil, recD, hx])
        repeat (first | (with_reducible refine AWp.seqK fun _ => ?_) | (with_reducible refine AWp.blockK fun _ => ?_) | (with_reducible refine KK.go ?_) | (refine AWp.reg tabOk ?_; simp [-getElem?_pos, List.getElem?_cons_zero, List.getElem?_cons_succ, List.getElem?_nil, hlt, hx, w1, gS_ne hz, hz, b1]) | (refine AWp.condK fun _ _ => ?_; simp [-getElem?_pos, List.getElem?_cons_zero, List.getElem?_cons_succ, List.getElem?_nil, hlt, hx, w1, gS_ne hz, hz, b1]) | (refine AWp.ret ?_; try simp only [thenP]) | (refine AWp.skip ?_; try simp only [thenP]) | (refine AWp.exit ?_; try simp only [thenP]) | (with_reducible refine BB.go ?_; simp only [blockP, thenP, if_true, if_false, reduceIte]) | (refine AWp.draws tabOk (by kernel_rfl) (by kernel_rfl) ?_; simp [-getElem?_pos, List.getElem?_cons_zero, List.getElem?_cons_succ, List.getElem?_nil, hlt, hx, w1, gS_ne hz, hz, b1]) | (with_reducible refine And.intro (show okLog _ _ = true from by kernel_rfl) ?_))
        refine LL.go ⟨k + 1, hlt⟩ [0, 1, 20] ⟨by rfl, by simp [hs, hz], by simp [or_imp, forall_and, hs, hz] <;> (try (intro _hne; simp [_hne])), by decide⟩ ?_
        simp; omega
  · obtain rfl : k = l.length := by omega
    repeat (first | (with_reducible refine AWp.seqK fun _ => ?_) | (with_reducible refine AWp.blockK fun _ => ?_) | (with_reducible refine KK.go ?_) | (refine AWp.reg tabOk ?_; simp [-getElem?_pos, List.getElem?_cons_zero, List.getElem?_cons_succ, List.getElem?_nil, hlt]) | (refine AWp.condK fun _ _ => ?_; simp [-getElem?_pos, List.getElem?_cons_zero, List.getElem?_cons_succ, List.getElem?_nil, hlt]) | (refine AWp.ret ?_; try simp only [thenP]) | (refine AWp.skip ?_; try simp only [thenP]) | (refine AWp.exit ?_; try simp only [thenP]) | (with_reducible refine BB.go ?_; simp only [blockP, thenP, if_true, if_false, reduceIte]) | (refine AWp.draws tabOk (by kernel_rfl) (by kernel_rfl) ?_; simp [-getElem?_pos, List.getElem?_cons_zero, List.getElem?_cons_succ, List.getElem?_nil, hlt]) | (with_reducible refine And.intro (show okLog _ _ = true from by kernel_rfl) ?_))
    refine RR.list (id := 2) (z := 2) (by simp) fun r o h => ?_
    simp [h]
end Go.Proofs.Ytigpefjeelgfdaa.Eng

/-
  Layer 1, plain: all recipes of a works one by one, and what is counted of them.
-/
namespace Go.Proofs.Ytigpefjeelgfdaa.Eng
open Go.RowKit

/-- All choices of ways for d steps, from step s on. -/
def tails (x : Works) : Nat → Nat → List (List Int)
  | 0, _ => [[]]
  | d + 1, s => (List.range (stepAt x.steps s).length).flatMap fun (k : Nat) => (tails x d (s + 1)).map ((k : Int) :: ·)
theorem tails_succ (x : Works) (d s : Nat) : tails x (d + 1) s = (List.range (stepAt x.steps s).length).flatMap fun (k : Nat) => (tails x d (s + 1)).map ((k : Int) :: ·) := rfl
theorem tails_snoc (x : Works) : ∀ d s, tails x (d + 1) s = (tails x d s).flatMap fun ws => (List.range (stepAt x.steps (s + d)).length).map fun (k : Nat) => ws ++ [(k : Int)]
  | 0, s => by
    simp only [tails, List.map_cons, List.map_nil, List.flatMap_cons, List.flatMap_nil, List.append_nil, List.nil_append, Nat.add_zero]
    exact List.map_eq_flatMap.symm
  | d + 1, s => by
    have ih := tails_snoc x d (s + 1)
    rw [tails_succ x (d + 1) s, ih, tails_succ x d s]
    simp only [List.map_flatMap, List.flatMap_assoc, List.flatMap_map, List.map_map]
    rw [show s + 1 + d = s + (d + 1) by omega]
    rfl
theorem recsTo_tails (x : Works) : ∀ i, i ≤ x.steps.length → recsTo x i = (List.range x.bars.length).flatMap fun (b : Nat) => (tails x i 0).map fun ws => ((b : Int), ws)
  | 0, _ => by
    simp only [recsTo, barRecs, tails, List.map_cons, List.map_nil]
    exact List.map_eq_flatMap
  | i + 1, hi => by
    obtain ⟨ws, hws⟩ : ∃ ws, x.steps[i]? = some ws := ⟨_, List.getElem?_eq_getElem (by omega)⟩
    have hl : stepAt x.steps (0 + i) = ws := by rw [Nat.zero_add]; exact stepAt_of (Lib.hid hws)
    have e : recsTo x (i + 1) = extTo (recsTo x i) ws.length (recsTo x i).length := by simp only [recsTo, hws]
    rw [e, extTo, List.take_of_length_le (Nat.le_refl _), recsTo_tails x i (by omega), tails_snoc, hl]
    simp only [List.map_flatMap, List.flatMap_assoc, List.flatMap_map, List.map_map, ext1]
    rfl
theorem tails_mem (x : Works) : ∀ d s ws, ws ∈ tails x d s → ws.length = d ∧ ∀ i, i < d → ∃ k : Nat, ws[i]? = some (k : Int) ∧ k < (stepAt x.steps (s + i)).length
  | 0, s, ws, h => by
    simp only [tails, List.mem_singleton] at h
    subst h
    exact ⟨rfl, fun i hi => by omega⟩
  | d + 1, s, ws, h => by
    rw [tails_succ, List.mem_flatMap] at h
    obtain ⟨k, hk, h⟩ := h
    obtain ⟨ws', hw, rfl⟩ := List.mem_map.1 h
    obtain ⟨h1, h2⟩ := tails_mem x d (s + 1) ws' hw
    refine ⟨by simp [h1], fun i hi => ?_⟩
    match i with
    | 0 => exact ⟨k, rfl, by simpa using hk⟩
    | i + 1 =>
      obtain ⟨k', e1, e2⟩ := h2 i (by omega)
      exact ⟨k', by simpa using e1, by rw [show s + (i + 1) = s + 1 + i by omega]; exact e2⟩
theorem recs_mem {x : Works} {r : Rec} (h : r ∈ recsTo x x.steps.length) : ∃ b : Nat, b < x.bars.length ∧ r.1 = (b : Int) ∧ r.2 ∈ tails x x.steps.length 0 := by
  rw [recsTo_tails x _ (Nat.le_refl _), List.mem_flatMap] at h
  obtain ⟨b, hb, h⟩ := h
  obtain ⟨ws, hw, rfl⟩ := List.mem_map.1 h
  exact ⟨b, by simpa using hb, rfl, hw⟩
theorem recs_ok {x : Works} (hx : worksErr x = 0) {b : Nat} (hb : b < x.bars.length) {ws : List Int} (h : ws ∈ tails x x.steps.length 0) : RecOk x (b : Int) ws := by
  obtain ⟨h1, h2⟩ := tails_mem x _ _ _ h
  refine ⟨hx, h1, by omega, by omega, fun i hi => ?_⟩
  obtain ⟨k, e1, e2⟩ := h2 i (by omega)
  rw [Nat.zero_add] at e2
  simp only [wayIn, intAt, List.getD_eq_getElem?_getD, e1, Option.getD_some, decide_eq_true_eq]
  omega

/-- The range that ways lead to, from step s on. -/
def rngFrom (x : Works) : Nat → Rg → List Int → Rg
  | _, r, [] => r
  | s, r, k :: ws => rngFrom x (s + 1) (thrAt x s k.toNat r.1 r.2) ws
theorem rngN_from {x : Works} {m : Nat} {ways : List Int} : ∀ (ws : List Int) (s : Nat), ways.drop s = ws → rngN x m ways (s + ws.length) = rngFrom x s (rngN x m ways s) ws
  | [], s, _ => rfl
  | k :: ws, s, h => by
    have h1 : ways[s]? = some k := by rw [← List.head?_drop, h]; rfl
    have h2 : ways.drop (s + 1) = ws := by rw [← List.tail_drop, h]; rfl
    have e : rngN x m ways (s + 1) = thrAt x s k.toNat (rngN x m ways s).1 (rngN x m ways s).2 := by
      simp only [rngN, wayOf, thrAt, thr, intAt, List.getD_eq_getElem?_getD, h1, Option.getD_some]
    rw [List.length_cons, show s + (ws.length + 1) = s + 1 + ws.length by omega, rngN_from ws (s + 1) h2, e]
    rfl
def over (mlo mhi : Int) (r : Rg) : Bool := decide (r.1 ≤ mhi) && decide (mlo ≤ r.2)
theorem made_over {x : Works} {b : Nat} {ws : List Int} (h : ws ∈ tails x x.steps.length 0) (mlo mhi : Int) : madeR x mlo mhi ((b : Int), ws) = over mlo mhi (rngFrom x 0 (rgAt x.bars b) ws) := by
  obtain ⟨h1, _⟩ := tails_mem x _ _ _ h
  have := rngN_from (x := x) (m := b) (ways := ws) ws 0 rfl
  rw [h1, Nat.zero_add] at this
  simp only [madeR, madeB, Int.toNat_natCast, this, over]
  rfl

theorem sumTo_congr {f g : Nat → Nat} (h : ∀ i, f i = g i) (n : Nat) : sumTo f n = sumTo g n := by rw [show f = g from funext h]
theorem sumTo_congr_lt {f g : Nat → Nat} : ∀ n, (∀ i, i < n → f i = g i) → sumTo f n = sumTo g n
  | 0, _ => rfl
  | n + 1, h => by rw [sumTo, sumTo, sumTo_congr_lt n fun i hi => h i (by omega), h n (by omega)]
theorem sumTo_zero : ∀ n, sumTo (fun _ => 0) n = 0
  | 0 => rfl
  | n + 1 => by rw [sumTo, sumTo_zero n]
theorem sumTo_pick (g : Nat → Nat) (j : Int) : ∀ n, sumTo (fun (k : Nat) => if (k : Int) = j then g k else 0) n = if 0 ≤ j ∧ j < n then g j.toNat else 0
  | 0 => by rw [if_neg (by omega)]; rfl
  | n + 1 => by
    rw [sumTo, sumTo_pick g j n]
    by_cases h : (n : Int) = j
    · subst h
      rw [if_neg (by omega), if_pos rfl, if_pos (by omega), Int.toNat_natCast]; omega
    · rw [if_neg h]
      by_cases h2 : 0 ≤ j ∧ j < n
      · rw [if_pos h2, if_pos (by omega)]; omega
      · rw [if_neg h2, if_neg (by omega)]
theorem countP_flat {β : Type} (p : β → Bool) (f : Nat → List β) : ∀ n, ((List.range n).flatMap f).countP p = sumTo (fun i => (f i).countP p) n
  | 0 => rfl
  | n + 1 => by
    rw [List.range_succ, List.flatMap_append, List.countP_append, countP_flat p f n, sumTo]
    simp only [List.flatMap_cons, List.flatMap_nil, List.append_nil]
theorem cntN_eq (x : Works) (mlo mhi : Int) : ∀ d s lo hi, cntN x mlo mhi d s lo hi = (tails x d s).countP fun ws => over mlo mhi (rngFrom x s (lo, hi) ws)
  | 0, s, lo, hi => by
    by_cases a : lo ≤ mhi <;> by_cases b : mlo ≤ hi <;> simp [cntN, tails, List.countP_cons, rngFrom, over, a, b]
  | d + 1, s, lo, hi => by
    rw [cntN, tails_succ, countP_flat]
    refine sumTo_congr (fun k => ?_) _
    rw [cntN_eq x mlo mhi d (s + 1), List.countP_map]
    rfl
def atB (s : Nat) (t j : Int) (ws : List Int) : Bool := decide ((s : Int) ≤ t) && (ws[(t - s).toNat]? == some j)
theorem addN_eq (x : Works) (mlo mhi : Int) : ∀ d s lo hi t j, addN x mlo mhi d s lo hi t j = (tails x d s).countP fun ws => over mlo mhi (rngFrom x s (lo, hi) ws) && atB s t j ws
  | 0, s, lo, hi, t, j => by simp [addN, tails, atB]
  | d + 1, s, lo, hi, t, j => by
    rw [addN, tails_succ, countP_flat]
    by_cases ht : t = s
    · subst ht
      rw [sumTo_congr (g := fun _ => 0) (fun i => ?_), sumTo_zero, Nat.add_zero]
      · rw [sumTo_congr (g := fun (k : Nat) => if (k : Int) = j then cntN x mlo mhi d (s + 1) (thrAt x s k lo hi).1 (thrAt x s k lo hi).2 else 0) (fun k => ?_), sumTo_pick]
        · simp
        · rw [List.countP_map, cntN_eq]
          by_cases hk : (k : Int) = j
          · rw [if_pos hk]
            refine List.countP_congr fun ws _ => ?_
            simp [atB, hk, rngFrom]
            subst hk
            simp
          · rw [if_neg hk, List.countP_eq_zero]
            intro ws _
            simp [atB, hk]
      · rw [addN_eq x mlo mhi d (s + 1), List.countP_eq_zero]
        intro ws _
        simp [atB]
        omega
    · rw [if_neg (by omega), Nat.zero_add]
      refine sumTo_congr (fun k => ?_) _
      rw [addN_eq x mlo mhi d (s + 1), List.countP_map]
      refine List.countP_congr fun ws _ => ?_
      have e : atB (s + 1) t j ws = atB s t j ((k : Int) :: ws) := by
        unfold atB
        by_cases h : (s : Int) ≤ t
        · have h2 : (t - s).toNat = (t - (s + 1 : Nat)).toNat + 1 := by omega
          have h3 : ((s + 1 : Nat) : Int) ≤ t := by omega
          rw [h2, List.getElem?_cons_succ]
          simp only [h, h3, decide_true]
        · have h3 : ¬ ((s + 1 : Nat) : Int) ≤ t := by omega
          simp only [h, h3, decide_false, Bool.false_and]
      rw [e]
      rfl
theorem totN_eq (x : Works) (mlo mhi : Int) : totN x mlo mhi = (recsTo x x.steps.length).countP (madeR x mlo mhi) := by
  rw [recsTo_tails x _ (Nat.le_refl _), countP_flat, totN]
  refine sumTo_congr (fun b => ?_) _
  rw [cntBar, cntN_eq, List.countP_map]
  refine List.countP_congr fun ws hw => ?_
  rw [Function.comp, made_over hw]
/-- A recipe has the bar (-1), or at step t the way, j. -/
def hasB (t j : Int) (r : Rec) : Bool := if t < 0 then r.1 == j else r.2[t.toNat]? == some j
theorem plcN_eq (x : Works) (mlo mhi t j : Int) (ht : -1 ≤ t) : plcN x mlo mhi t j = (recsTo x x.steps.length).countP fun r => madeR x mlo mhi r && hasB t j r := by
  rw [recsTo_tails x _ (Nat.le_refl _), countP_flat, plcN, totTo]
  by_cases h : t = -1
  · subst h
    rw [sumTo_congr (f := fun i => addN x mlo mhi x.steps.length 0 (rgAt x.bars i).1 (rgAt x.bars i).2 (-1) j) (g := fun _ => 0) (fun i => ?_), sumTo_zero, Nat.add_zero]
    · rw [sumTo_congr (g := fun (b : Nat) => if (b : Int) = j then cntBar x mlo mhi b else 0) (fun b => ?_), sumTo_pick]
      · simp
      · rw [List.countP_map, cntBar, cntN_eq]
        by_cases hk : (b : Int) = j
        · rw [if_pos hk]
          refine List.countP_congr fun ws hw => ?_
          rw [Function.comp, made_over hw]
          simp [hasB, hk]
        · rw [if_neg hk, List.countP_eq_zero]
          intro ws _
          simp [hasB, hk]
    · rw [addN_eq, List.countP_eq_zero]
      intro ws _
      simp [atB]
  · rw [if_neg (by omega), Nat.zero_add]
    refine sumTo_congr (fun b => ?_) _
    rw [List.countP_map, addN_eq]
    refine List.countP_congr fun ws hw => ?_
    rw [Function.comp, made_over hw]
    have h0 : (0 : Int) ≤ t := by omega
    have h1 : ¬ t < 0 := by omega
    simp [hasB, atB, h0, h1]
end Go.Proofs.Ytigpefjeelgfdaa.Eng

/-
  Layer 1, plain: what the reference counts is what package heat counts.
-/
namespace Go.Proofs.Ytigpefjeelgfdaa.Eng
open Go.RowKit

def prodTo (x : Works) : Nat → Nat
  | 0 => x.bars.length
  | i + 1 => prodTo x i * (stepAt x.steps i).length
theorem recsTo_len (x : Works) : ∀ i, i ≤ x.steps.length → (recsTo x i).length = prodTo x i
  | 0, _ => barRecs_len _
  | i + 1, hi => by
    obtain ⟨ws, hws⟩ : ∃ ws, x.steps[i]? = some ws := ⟨_, List.getElem?_eq_getElem (by omega)⟩
    have e : recsTo x (i + 1) = extTo (recsTo x i) ws.length (recsTo x i).length := by simp only [recsTo, hws]
    rw [e, extTo_len, List.take_of_length_le (Nat.le_refl _), recsTo_len x i (by omega), prodTo, stepAt_of (Lib.hid hws)]
theorem recsTo_over (x : Works) : ∀ e, recsTo x (x.steps.length + e) = recsTo x x.steps.length
  | 0 => rfl
  | e + 1 => by
    have h : x.steps[x.steps.length + e]? = none := List.getElem?_eq_none (by omega)
    have := recsTo_over x e
    rw [← Nat.add_assoc, recsTo, h]
    exact this
theorem bars_few {x : Works} (h : worksErr x = 0) : 1 ≤ x.bars.length ∧ x.bars.length ≤ 6 ∧ x.steps.length ≤ 6 := by
  have h1 := (worksOk_iff.1 h).1
  simp only [manyOk, Bool.and_eq_true, Bool.not_eq_true', decide_eq_false_iff_not] at h1
  omega
theorem ways_some {x : Works} (h : worksErr x = 0) {s : Nat} (hs : s < x.steps.length) : 1 ≤ (stepAt x.steps s).length := by
  have h1 := (worksOk_iff.1 h).1
  simp only [manyOk, Bool.and_eq_true] at h1
  have hw : x.steps[s]? = some x.steps[s] := List.getElem?_eq_getElem hs
  have := List.all_eq_true.1 h1.2 _ (List.mem_of_getElem? hw)
  rw [stepAt_of (Lib.hid hw)]
  simp only [waysMany, Bool.not_eq_true', decide_eq_false_iff_not] at this
  omega
theorem prod_mono {x : Works} (h : worksErr x = 0) (i : Nat) : ∀ e, i + e ≤ x.steps.length → prodTo x i ≤ prodTo x (i + e)
  | 0, _ => Nat.le_refl _
  | e + 1, he => by
    have h1 := prod_mono h i e (by omega)
    have h2 := ways_some h (s := i + e) (by omega)
    rw [← Nat.add_assoc, prodTo]
    exact Nat.le_trans h1 (Nat.le_mul_of_pos_right _ h2)
theorem prod_le {x : Works} (h : worksErr x = 0) : ∀ i, prodTo x i ≤ 6 * 5 ^ i
  | 0 => by have := bars_few h; simp [prodTo]; omega
  | i + 1 => by
    rw [prodTo, Nat.pow_succ, ← Nat.mul_assoc]
    exact Nat.mul_le_mul (prod_le h i) (ways_few h i)
theorem prod_few {x : Works} (h : worksErr x = 0) {i : Nat} (hi : i ≤ 6) : prodTo x i ≤ 93750 :=
  Nat.le_trans (prod_le h i) (Nat.le_trans (Nat.mul_le_mul_left 6 (Nat.pow_le_pow_right (by omega) hi)) (by decide))
/-- More recipes than a statement tries. -/
def fullB (x : Works) : Bool := decide (worksErr x = 0) && decide (400 < prodTo x x.steps.length)
theorem recs_few {x : Works} (h : worksErr x = 0) (hp : prodTo x x.steps.length ≤ 400) (i : Nat) : (recsTo x i).length ≤ 1000 := by
  rcases Nat.le_total i x.steps.length with hi | hi
  · rw [recsTo_len x i hi]
    have := prod_mono h i (x.steps.length - i) (by omega)
    rw [show i + (x.steps.length - i) = x.steps.length by omega] at this
    omega
  · rw [show i = x.steps.length + (i - x.steps.length) by omega, recsTo_over, recsTo_len x _ (Nat.le_refl _)]
    omega
theorem recs_short {x : Works} (h : worksErr x = 0) (i : Nat) : ∀ r ∈ recsTo x i, r.2.length ≤ 1000 := by
  have key : ∀ i, i ≤ x.steps.length → ∀ r ∈ recsTo x i, r.2.length ≤ 1000 := by
    intro i hi r hr
    rw [recsTo_tails x i hi, List.mem_flatMap] at hr
    obtain ⟨b, _, hr⟩ := hr
    obtain ⟨ws, hw, rfl⟩ := List.mem_map.1 hr
    have := (tails_mem x _ _ _ hw).1
    have := (bars_few h).2.2
    show ws.length ≤ 1000
    omega
  rcases Nat.le_total i x.steps.length with hi | hi
  · exact key i hi
  · rw [show i = x.steps.length + (i - x.steps.length) by omega, recsTo_over]
    exact key _ (Nat.le_refl _)
theorem recipes_c {x : Works} (h : worksErr x = 0) (hp : prodTo x x.steps.length ≤ 400) : ACall Try.prog 50 [worksD x] (recsD (recsTo x x.steps.length)) := by
  have hf := bars_few h
  refine recipes_ok x (by omega) (by omega) (fun ws hws => ?_) (recs_short h) (recs_few h hp)
  obtain ⟨s, hs⟩ := List.getElem?_of_mem hws
  have := ways_few h s
  rw [stepAt_of (Lib.hid hs)] at this
  omega
theorem recsOk {x : Works} (h : worksErr x = 0) (hp : prodTo x x.steps.length ≤ 400) : RecsOk x (recsTo x x.steps.length) :=
  ⟨fun r hr => by
    obtain ⟨b, hb, e, hw⟩ := recs_mem hr
    exact ⟨b, e, recs_ok h hb hw⟩, recs_few h hp _⟩
/-- All recipes that can have made a blade. -/
def mkN (x : Works) (lo hi : Int) : List Rec := (recsTo x x.steps.length).filter (madeR x lo hi)
theorem makers_c {x : Works} (h : worksErr x = 0) (hp : prodTo x x.steps.length ≤ 400) (lo hi : Int) : ACall Try.prog 75 [worksD x, rgD lo hi] (recsD (mkN x lo hi)) := by
  have := makers_ok x lo hi _ (recsOk h hp) (recipes_c h hp)
  rwa [mkTo, List.take_of_length_le (Nat.le_refl _)] at this
theorem mkN_len (x : Works) (lo hi : Int) : (mkN x lo hi).length = totN x lo hi := by rw [totN_eq, List.countP_eq_length_filter, mkN]
theorem mkN_few {x : Works} (h : worksErr x = 0) (hp : prodTo x x.steps.length ≤ 400) (lo hi : Int) : (mkN x lo hi).length ≤ 1000 := Nat.le_trans (List.length_filter_le _ _) (recs_few h hp _)
theorem mk_mem {x : Works} {lo hi : Int} {r : Rec} (h : r ∈ mkN x lo hi) : ∃ b : Nat, b < x.bars.length ∧ r.1 = (b : Int) ∧ r.2 ∈ tails x x.steps.length 0 := recs_mem (List.mem_filter.1 h).1
/-- What a recipe has at a step. -/
theorem of_has {x : Works} {r : Rec} {t : Int} (h1 : -1 ≤ t) (h2 : t < x.steps.length) (hr : ∃ b : Nat, b < x.bars.length ∧ r.1 = (b : Int) ∧ r.2 ∈ tails x x.steps.length 0) :
    t < r.2.length ∧ ∃ k : Nat, ofN r t = (k : Int) ∧ k < nCh x t ∧ ∀ j : Int, hasB t j r = ((k : Int) == j) := by
  obtain ⟨b, hb, e, hw⟩ := hr
  obtain ⟨w1, w2⟩ := tails_mem x _ _ _ hw
  refine ⟨by omega, ?_⟩
  by_cases h : t = -1
  · subst h
    exact ⟨b, by simp [ofN, e], by simpa [nCh] using hb, fun j => by simp [hasB, e]⟩
  · obtain ⟨s, rfl⟩ := Int.eq_ofNat_of_zero_le (show 0 ≤ t by omega)
    obtain ⟨k, k1, k2⟩ := w2 s (by omega)
    rw [Nat.zero_add] at k2
    have h0 : ¬ (s : Int) < 0 := by omega
    refine ⟨k, by simp [ofN, h0, k1], by rw [nCh, if_neg h, Int.toNat_natCast]; exact k2, fun j => ?_⟩
    simp [hasB, h0, k1]
theorem bump_plc {x : Works} (h : worksErr x = 0) (lo hi : Int) {t : Int} (h1 : -1 ≤ t) (h2 : t < x.steps.length) {j : Nat} (hj : j < 6) : (bumps (mkN x lo hi) t (mkN x lo hi).length).getD j 0 = (plcN x lo hi t j : Int) := by
  rw [bumps_val, List.take_of_length_le (Nat.le_refl _), plcN_eq x lo hi t j h1, ← List.countP_eq_length_filter, mkN, List.countP_filter]
  congr 1
  refine List.countP_congr fun r hr => ?_
  obtain ⟨_, k, k1, _, k3⟩ := of_has h1 h2 (recs_mem hr)
  rw [k3, k1, Int.toNat_natCast]
  simp [hj, and_comm]
  omega
theorem plc_zero {x : Works} (lo hi : Int) {t : Int} (h1 : -1 ≤ t) (h2 : t < x.steps.length) {j : Nat} (hj : nCh x t ≤ j) : plcN x lo hi t j = 0 := by
  rw [plcN_eq x lo hi t j h1, List.countP_eq_zero]
  intro r hr
  obtain ⟨_, k, _, k2, k3⟩ := of_has h1 h2 (recs_mem hr)
  have : ¬ (k : Int) = j := by omega
  rw [k3]
  simp [this]
theorem leftTo_more (f : Int → Int → Nat) (t : Int) (n : Nat) : ∀ e, (∀ j : Nat, n ≤ j → f t j = 0) → leftTo f t (n + e) = leftTo f t n
  | 0, _ => rfl
  | e + 1, h => by
    rw [← Nat.add_assoc, leftTo, if_pos (h (n + e) (by omega))]
    exact leftTo_more f t n e h
theorem worstTo_more (f : Int → Int → Nat) (t : Int) (n : Nat) : ∀ e, (∀ j : Nat, n ≤ j → f t j = 0) → worstTo f t (n + e) = worstTo f t n
  | 0, _ => rfl
  | e + 1, h => by
    rw [← Nat.add_assoc, worstTo, h (n + e) (by omega), worstTo_more f t n e h]
    omega
theorem leftTo_some {f : Int → Int → Nat} {t : Int} {l : List Int} : ∀ k, (∀ j : Nat, j < k → l.getD j 0 = (f t j : Int)) → leftTo f t k = someL l k
  | 0, _ => rfl
  | k + 1, h => by
    have h1 := leftTo_some k fun j hj => h j (by omega)
    have h2 := h k (by omega)
    rw [leftTo, h1]
    by_cases h0 : f t k = 0
    · rw [if_pos h0]
      simp [someL, List.range_succ, List.filter_append, List.getD_eq_getElem?_getD] at h2 ⊢
      simp [h2, h0]
    · rw [if_neg h0]
      simp [someL, List.range_succ, List.filter_append, List.getD_eq_getElem?_getD] at h2 ⊢
      have : 0 < f t k := by omega
      simp [h2, this]
/-- **The reference's list of what is left is the package's.** -/
theorem some_left {x : Works} (h : worksErr x = 0) (lo hi : Int) {t : Int} (h1 : -1 ≤ t) (h2 : t < x.steps.length) : someL (bumps (mkN x lo hi) t (mkN x lo hi).length) 6 = leftN x lo hi t := by
  rw [← leftTo_some 6 fun j hj => bump_plc h lo hi h1 h2 hj, leftN]
  have := leftTo_more (plcN x lo hi) t (nCh x t) (6 - nCh x t) fun j hj => plc_zero lo hi h1 h2 hj
  rw [← this]
  have := nCh_few h t
  congr 1
  omega
theorem worst_six {x : Works} (h : worksErr x = 0) (lo hi : Int) {t : Int} (h1 : -1 ≤ t) (h2 : t < x.steps.length) : worstTo (plcN x lo hi) t 6 = worstAt x lo hi t := by
  have := worstTo_more (plcN x lo hi) t (nCh x t) (6 - nCh x t) fun j hj => plc_zero lo hi h1 h2 hj
  rw [worstAt, ← this]
  have := nCh_few h t
  congr 1
  omega
theorem counts_c {x : Works} (h : worksErr x = 0) (hp : prodTo x x.steps.length ≤ 400) (lo hi : Int) {t : Int} (h1 : -1 ≤ t) (h2 : t < x.steps.length) :
    ACall Try.prog 77 [worksD x, recsD (mkN x lo hi), iD t] (intL (bumps (mkN x lo hi) t (mkN x lo hi).length)) := by
  refine counts_ok (worksD x) ⟨_, rfl⟩ _ t (mkN_few h hp lo hi) fun r hr => ?_
  obtain ⟨h3, k, k1, k2, _⟩ := of_has h1 h2 (mk_mem hr)
  have := nCh_few h t
  exact ⟨h3, by omega, by omega⟩
theorem someCounts_c {x : Works} (h : worksErr x = 0) (lo hi : Int) {t : Int} (h1 : -1 ≤ t) (h2 : t < x.steps.length) :
    ACall Try.prog 76 [intL (bumps (mkN x lo hi) t (mkN x lo hi).length)] (intL (leftN x lo hi t)) := by
  have := some_ok (bumps (mkN x lo hi) t (mkN x lo hi).length) (by rw [bumps_len]; omega)
  rw [bumps_len, some_left h lo hi h1 h2] at this
  exact this
end Go.Proofs.Ytigpefjeelgfdaa.Eng

/-
  Layer 1's statements, by the engine: too many recipes; what is left, as rows.
-/
namespace Go.Proofs.Ytigpefjeelgfdaa.Eng
open Go.RowKit

@[simp] theorem listRows_len (l : List (List Int)) : (listRows l).length = l.length := List.length_map _
@[simp] theorem listRows_get (l : List (List Int)) (i : Nat) : (listRows l)[i]? = (l[i]?).map fun r => [intL r] := List.getElem?_map
@[simp] theorem listRows_nil : listRows [] = [] := rfl
@[simp] theorem listRows_app (l m : List (List Int)) : listRows (l ++ m) = listRows l ++ listRows m := List.map_append
@[simp] theorem listRows_one (r : List Int) : listRows [r] = [[intL r]] := rfl
@[simp] theorem listRows_mem (l : List (List Int)) (p : List Dat → Prop) : (∀ r ∈ listRows l, p r) ↔ ∀ n ∈ l, p [intL n] := by simp [listRows]
def leftRows (x : Works) (lo hi : Int) (k : Nat) : List (List Int) := (List.range k).map fun (i : Nat) => leftN x lo hi i
theorem leftRows_succ (x : Works) (lo hi : Int) (k : Nat) : leftRows x lo hi (k + 1) = leftRows x lo hi k ++ [leftN x lo hi k] := by simp [leftRows, List.range_succ]
theorem leftRows_len (x : Works) (lo hi : Int) (k : Nat) : (leftRows x lo hi k).length = k := by simp [leftRows]
set_option maxRecDepth 100000 in
set_option maxHeartbeats 4000000 in
theorem full_c (x : Works) : ACall Try.prog 32 [worksD x] (bD (fullB x)) := by
  have hm := checkWorks_c x
  by_cases g : worksErr x = 0
  · have hf : fullB x = decide (400 < prodTo x x.steps.length) := by simp [fullB, g]
    have hst := bars_few g
    rw [hf]
    rw [g] at hm
    refine acallK Try.func32 rfl rfl (show 1 ≤ _ by decide) rfl fun _ => ?_; simp only [Try.ntmps32]
    repeat (first | (with_reducible refine AWp.seqK fun _ => ?_) | (with_reducible refine AWp.blockK fun _ => ?_) | (with_reducible refine KK.go ?_) | (refine AWp.reg tabOk ?_; simp [-getElem?_pos, List.getElem?_cons_zero, List.getElem?_cons_succ, List.getElem?_nil, ]) | (refine AWp.condK fun _ _ => ?_; simp [-getElem?_pos, List.getElem?_cons_zero, List.getElem?_cons_succ, List.getElem?_nil, ]) | (refine AWp.ret ?_; try simp only [thenP]) | (refine AWp.skip ?_; try simp only [thenP]) | (refine AWp.exit ?_; try simp only [thenP]) | (with_reducible refine BB.go ?_; simp only [blockP, thenP, if_true, if_false, reduceIte]) | (refine AWp.draws tabOk (by kernel_rfl) (by kernel_rfl) ?_; simp [-getElem?_pos, List.getElem?_cons_zero, List.getElem?_cons_succ, List.getElem?_nil, ]) | (with_reducible refine And.intro (show okLog _ _ = true from by kernel_rfl) ?_))
    first | (refine Exec0.call [] hm (by simp [-getElem?_pos, ]) rfl (by simp [-getElem?_pos, List.getElem?_cons_zero, List.getElem?_cons_succ, List.getElem?_nil, ]) ?_; simp [-getElem?_pos, List.getElem?_cons_zero, List.getElem?_cons_succ, List.getElem?_nil, ]) | (refine Exec.call [] hm (by simp [-getElem?_pos, ]) rfl (by simp [-getElem?_pos, List.getElem?_cons_zero, List.getElem?_cons_succ, List.getElem?_nil, ]) ?_; simp [-getElem?_pos, List.getElem?_cons_zero, List.getElem?_cons_succ, List.getElem?_nil, ])
    repeat (first | (with_reducible refine AWp.seqK fun _ => ?_) | (with_reducible refine AWp.blockK fun _ => ?_) | (with_reducible refine KK.go ?_) | (refine AWp.reg tabOk ?_; simp [-getElem?_pos, List.getElem?_cons_zero, List.getElem?_cons_succ, List.getElem?_nil, ]) | (refine AWp.condK fun _ _ => ?_; simp [-getElem?_pos, List.getElem?_cons_zero, List.getElem?_cons_succ, List.getElem?_nil, ]) | (refine AWp.ret ?_; try simp only [thenP]) | (refine AWp.skip ?_; try simp only [thenP]) | (refine AWp.exit ?_; try simp only [thenP]) | (with_reducible refine BB.go ?_; simp only [blockP, thenP, if_true, if_false, reduceIte]) | (refine AWp.draws tabOk (by kernel_rfl) (by kernel_rfl) ?_; simp [-getElem?_pos, List.getElem?_cons_zero, List.getElem?_cons_succ, List.getElem?_nil, ]) | (with_reducible refine And.intro (show okLog _ _ = true from by kernel_rfl) ?_))
    refine AWp.loopK (ι := { k : Nat // k ≤ x.steps.length }) (n := 1) (fun k => [(1, .ptr 0 0 0), (3, .d (iD (prodTo x k.1))), (4, .d (iD k.1))]) (fun _ => [(0, .box 25 [.d (.list (rgRows x.bars)), .d (.list (stepRows x.steps))] false)]) (fun k => x.steps.length - k.1) ⟨0, Nat.zero_le _⟩ [0] ?_ ?_
    · refine ⟨by rfl, by simp [prodTo], by simp [or_imp, forall_and, prodTo] <;> (try (intro _hne; simp [_hne])), by decide⟩
    rintro ⟨k, hk⟩ kk
    have w1 : IntKind.i64.wrap ((k : Int) + 1) = (k : Int) + 1 := wrap64_in (by omega)
    by_cases hlt : k < x.steps.length
    · obtain ⟨ws, hws⟩ : ∃ ws, x.steps[k]? = some ws := ⟨_, List.getElem?_eq_getElem hlt⟩
      have hpk : prodTo x (k + 1) = prodTo x k * ws.length := by rw [prodTo, stepAt_of (Lib.hid hws)]
      have hpf := prod_few g (i := k + 1) (by omega)
      have w2 : IntKind.i64.wrap ((prodTo x k : Int) * (ws.length : Int)) = (prodTo x (k + 1) : Int) := by
        rw [← Int.natCast_mul, ← hpk]
        exact wrap64_in (by omega)
      generalize hpp : prodTo x (k + 1) = pp at *
      repeat (first | (with_reducible refine AWp.seqK fun _ => ?_) | (with_reducible refine AWp.blockK fun _ => ?_) | (with_reducible refine KK.go ?_) | (refine AWp.reg tabOk ?_; simp [-getElem?_pos, List.getElem?_cons_zero, List.getElem?_cons_succ, List.getElem?_nil, hlt, hws, w1, w2]) | (refine AWp.condK fun _ _ => ?_; simp [-getElem?_pos, List.getElem?_cons_zero, List.getElem?_cons_succ, List.getElem?_nil, hlt, hws, w1, w2]) | (refine AWp.ret ?_; try simp only [thenP]) | (refine AWp.skip ?_; try simp only [thenP]) | (refine AWp.exit ?_; try simp only [thenP]) | (with_reducible refine BB.go ?_; simp only [blockP, thenP, if_true, if_false, reduceIte]) | (refine AWp.draws tabOk (by kernel_rfl) (by kernel_rfl) ?_; simp [-getElem?_pos, List.getElem?_cons_zero, List.getElem?_cons_succ, List.getElem?_nil, hlt, hws, w1, w2]) | (with_reducible refine And.intro (show okLog _ _ = true from by kernel_rfl) ?_))
      refine LL.go ⟨k + 1, hlt⟩ [0] ⟨by rfl, by simp [hpp], by simp [or_imp, forall_and, hpp] <;> (try (intro _hne; simp [_hne])), by decide⟩ ?_
      simp; omega
    · obtain rfl : k = x.steps.length := by omega
      repeat (first | (with_reducible refine AWp.seqK fun _ => ?_) | (with_reducible refine AWp.blockK fun _ => ?_) | (with_reducible refine KK.go ?_) | (refine AWp.reg tabOk ?_; simp [-getElem?_pos, List.getElem?_cons_zero, List.getElem?_cons_succ, List.getElem?_nil, hlt]) | (refine AWp.condK fun _ _ => ?_; simp [-getElem?_pos, List.getElem?_cons_zero, List.getElem?_cons_succ, List.getElem?_nil, hlt]) | (refine AWp.ret ?_; try simp only [thenP]) | (refine AWp.skip ?_; try simp only [thenP]) | (refine AWp.exit ?_; try simp only [thenP]) | (with_reducible refine BB.go ?_; simp only [blockP, thenP, if_true, if_false, reduceIte]) | (refine AWp.draws tabOk (by kernel_rfl) (by kernel_rfl) ?_; simp [-getElem?_pos, List.getElem?_cons_zero, List.getElem?_cons_succ, List.getElem?_nil, hlt]) | (with_reducible refine And.intro (show okLog _ _ = true from by kernel_rfl) ?_))
      (first | refine RR.ret ?_ | refine RR.normal ?_); simp []
      omega
  · have hf : fullB x = false := by simp [fullB, g]
    rw [hf]
    generalize worksErr x = e at *
    refine acallK Try.func32 rfl rfl (show 1 ≤ _ by decide) rfl fun _ => ?_; simp only [Try.ntmps32]
    repeat (first | (with_reducible refine AWp.seqK fun _ => ?_) | (with_reducible refine AWp.blockK fun _ => ?_) | (with_reducible refine KK.go ?_) | (refine AWp.reg tabOk ?_; simp [-getElem?_pos, List.getElem?_cons_zero, List.getElem?_cons_succ, List.getElem?_nil, g]) | (refine AWp.condK fun _ _ => ?_; simp [-getElem?_pos, List.getElem?_cons_zero, List.getElem?_cons_succ, List.getElem?_nil, g]) | (refine AWp.ret ?_; try simp only [thenP]) | (refine AWp.skip ?_; try simp only [thenP]) | (refine AWp.exit ?_; try simp only [thenP]) | (with_reducible refine BB.go ?_; simp only [blockP, thenP, if_true, if_false, reduceIte]) | (refine AWp.draws tabOk (by kernel_rfl) (by kernel_rfl) ?_; simp [-getElem?_pos, List.getElem?_cons_zero, List.getElem?_cons_succ, List.getElem?_nil, g]) | (with_reducible refine And.intro (show okLog _ _ = true from by kernel_rfl) ?_))
    first | (refine Exec0.call [] hm (by simp [-getElem?_pos, ]) rfl (by simp [-getElem?_pos, List.getElem?_cons_zero, List.getElem?_cons_succ, List.getElem?_nil, ]) ?_; simp [-getElem?_pos, List.getElem?_cons_zero, List.getElem?_cons_succ, List.getElem?_nil, ]) | (refine Exec.call [] hm (by simp [-getElem?_pos, ]) rfl (by simp [-getElem?_pos, List.getElem?_cons_zero, List.getElem?_cons_succ, List.getElem?_nil, ]) ?_; simp [-getElem?_pos, List.getElem?_cons_zero, List.getElem?_cons_succ, List.getElem?_nil, ])
    repeat (first | (with_reducible refine AWp.seqK fun _ => ?_) | (with_reducible refine AWp.blockK fun _ => ?_) | (with_reducible refine KK.go ?_) | (refine AWp.reg tabOk ?_; simp [-getElem?_pos, List.getElem?_cons_zero, List.getElem?_cons_succ, List.getElem?_nil, g]) | (refine AWp.condK fun _ _ => ?_; simp [-getElem?_pos, List.getElem?_cons_zero, List.getElem?_cons_succ, List.getElem?_nil, g]) | (refine AWp.ret ?_; try simp only [thenP]) | (refine AWp.skip ?_; try simp only [thenP]) | (refine AWp.exit ?_; try simp only [thenP]) | (with_reducible refine BB.go ?_; simp only [blockP, thenP, if_true, if_false, reduceIte]) | (refine AWp.draws tabOk (by kernel_rfl) (by kernel_rfl) ?_; simp [-getElem?_pos, List.getElem?_cons_zero, List.getElem?_cons_succ, List.getElem?_nil, g]) | (with_reducible refine And.intro (show okLog _ _ = true from by kernel_rfl) ?_))
    (first | refine RR.ret ?_ | refine RR.normal ?_); simp []
end Go.Proofs.Ytigpefjeelgfdaa.Eng

/-
  Layer 1, plain: what becomes of ranges and counts if less is left open by what was measured; what HeatNarrower asks.
-/
namespace Go.Proofs.Ytigpefjeelgfdaa
open Go.RowKit

section
variable {x : Works} {m : Nat} {ways : List Int} {lo hi lo' hi' : Int}
theorem any_wide (ok : RecOk x m ways) (h1 : lo ≤ lo') (h2 : hi' ≤ hi) (h : hadAny x (rowOf x ways (barP x m)) (meas lo' hi') = true) : hadAny x (rowOf x ways (barP x m)) (meas lo hi) = true := by
  rw [hadAny_iff ok] at h ⊢
  obtain ⟨j, a, b, c, d⟩ := h
  exact ⟨j, a, b, by omega, by omega⟩
theorem hadE_wide (ok : RecOk x m ways) (h1 : lo ≤ lo') (h2 : hi' ≤ hi) (h : hadAny x (rowOf x ways (barP x m)) (meas lo' hi') = true) : ∀ d s, s + d = x.steps.length →
    (hadE x m ways lo hi s).1 ≤ (hadE x m ways lo' hi' s).1 ∧ (hadE x m ways lo' hi' s).2 ≤ (hadE x m ways lo hi s).2
  | 0, s, hs => by
    obtain rfl : s = x.steps.length := by omega
    rw [hadE_last ok h, hadE_last ok (any_wide ok h1 h2 h)]
    simp only
    omega
  | d + 1, s, hs => by
    have ih := hadE_wide ok h1 h2 h d (s + 1) (by omega)
    have hv := hadE_val ok h (s := s) (by omega)
    have key : ∀ j : Nat, (hadE x m ways lo' hi' s).1 ≤ j ∧ (j : Int) ≤ (hadE x m ways lo' hi' s).2 → (hadE x m ways lo hi s).1 ≤ j ∧ (j : Int) ≤ (hadE x m ways lo hi s).2 := fun j hj => by
      have := (hadE_step ok h (s := s) (by omega) j).1 hj
      exact (hadE_step ok (any_wide ok h1 h2 h) (s := s) (by omega) j).2 ⟨this.1, by omega, by omega⟩
    have k1 := key (hadE x m ways lo' hi' s).1.toNat (by omega)
    have k2 := key (hadE x m ways lo' hi' s).2.toNat (by omega)
    omega
/-- The error of Had: none, or too soft. -/
theorem agrErr_ok (ok : RecOk x m ways) (hh : isHardB lo hi = true) : agrErr x m ways lo hi = if hadAny x (rowOf x ways (barP x m)) (meas lo hi) = true then 0 else 17 := by
  have e : hadAny x (recRows x m ways) (meas lo hi) = hadAny x (rowOf x ways (barP x m)) (meas lo hi) := rfl
  unfold agrErr
  rw [if_neg (by simpa using recOk_iff.2 ok), if_neg (by simp [hh]), e]
  cases hadAny x (rowOf x ways (barP x m)) (meas lo hi) <;> simp
end
theorem leastTo_min (l : List Int) : ∀ k i, i < k → intAt l (leastTo l k) ≤ intAt l i
  | k + 1, i, h => by
    unfold leastTo
    rcases Nat.lt_or_ge i k with g | g
    · have := leastTo_min l k i g
      split <;> omega
    · obtain rfl : i = k := by omega
      split <;> omega
theorem wlTo_at (x : Works) (lo hi : Int) (k : Nat) : ∀ n, k < n → intAt (wlTo x lo hi n) k = (worstAt x lo hi ((k : Int) - 1) : Int)
  | n + 1, h => by
    rcases Nat.lt_or_ge k n with g | g
    · rw [← wlTo_at x lo hi k n g]
      unfold intAt
      rw [List.getD_eq_getElem?_getD, List.getD_eq_getElem?_getD, wlTo, List.getElem?_append_left (by rw [wlTo_length]; exact g)]
    · obtain rfl : k = n := by omega
      unfold intAt
      rw [List.getD_eq_getElem?_getD, wlTo, List.getElem?_append_right (by rw [wlTo_length]; omega), wlTo_length, Nat.sub_self]
      rfl
theorem leftTo_mem {f : Int → Int → Nat} {t j : Int} : ∀ {k : Nat}, j ∈ leftTo f t k ↔ ∃ i : Nat, i < k ∧ j = (i : Int) ∧ f t i ≠ 0
  | 0 => by simp [leftTo]
  | k + 1 => by
    unfold leftTo
    by_cases h : f t k = 0
    · rw [if_pos h, leftTo_mem]
      constructor
      · rintro ⟨i, h1, h2, h3⟩; exact ⟨i, by omega, h2, h3⟩
      · rintro ⟨i, h1, h2, h3⟩
        refine ⟨i, ?_, h2, h3⟩
        rcases Nat.lt_or_ge i k with g | g
        · exact g
        · obtain rfl : i = k := by omega
          exact absurd h h3
    · rw [if_neg h, List.mem_append, leftTo_mem, List.mem_singleton]
      constructor
      · rintro (⟨i, h1, h2, h3⟩ | rfl)
        · exact ⟨i, by omega, h2, h3⟩
        · exact ⟨k, by omega, rfl, h⟩
      · rintro ⟨i, h1, h2, h3⟩
        rcases Nat.lt_or_ge i k with g | g
        · exact .inl ⟨i, g, h2, h3⟩
        · obtain rfl : i = k := by omega
          exact .inr h2
theorem worstTo_ge {f : Int → Int → Nat} {t : Int} : ∀ {k i : Nat}, i < k → f t i ≤ worstTo f t k
  | k + 1, i, h => by
    unfold worstTo
    rcases Nat.lt_or_ge i k with g | g
    · have := worstTo_ge (f := f) (t := t) g; omega
    · obtain rfl : i = k := by omega
      omega
theorem worstTo_le {f : Int → Int → Nat} {t : Int} {b : Nat} : ∀ {k : Nat}, (∀ i : Nat, i < k → f t i ≤ b) → worstTo f t k ≤ b
  | 0, _ => Nat.zero_le _
  | k + 1, h => by
    have := worstTo_le (f := f) (t := t) (b := b) (k := k) fun i hi => h i (by omega)
    have := h k (by omega)
    unfold worstTo
    omega
end Go.Proofs.Ytigpefjeelgfdaa
namespace Go.Proofs.Ytigpefjeelgfdaa.Eng
open Go.RowKit
section
variable {x : Works} {lo hi lo' hi' : Int}
theorem madeR_wide (h1 : lo ≤ lo') (h2 : hi' ≤ hi) (r : Rec) (h : madeR x lo' hi' r = true) : madeR x lo hi r = true := by
  simp only [madeR, madeB, Bool.and_eq_true, decide_eq_true_eq] at h ⊢
  omega
theorem totN_wide (h1 : lo ≤ lo') (h2 : hi' ≤ hi) : totN x lo' hi' ≤ totN x lo hi := by
  rw [totN_eq, totN_eq]
  exact List.countP_mono_left fun r _ h => madeR_wide h1 h2 r h
theorem plcN_wide (h1 : lo ≤ lo') (h2 : hi' ≤ hi) {t : Int} (ht : -1 ≤ t) (j : Int) : plcN x lo' hi' t j ≤ plcN x lo hi t j := by
  rw [plcN_eq _ _ _ _ _ ht, plcN_eq _ _ _ _ _ ht]
  exact List.countP_mono_left fun r _ h => by
    rw [Bool.and_eq_true] at h ⊢
    exact ⟨madeR_wide h1 h2 r h.1, h.2⟩
theorem plcN_tot {t : Int} (ht : -1 ≤ t) (j : Int) : plcN x lo hi t j ≤ totN x lo hi := by
  rw [plcN_eq _ _ _ _ _ ht, totN_eq]
  exact List.countP_mono_left fun r _ h => by
    rw [Bool.and_eq_true] at h
    exact h.1
theorem left_wide (h1 : lo ≤ lo') (h2 : hi' ≤ hi) {t : Int} (ht : -1 ≤ t) {j : Int} (h : j ∈ leftN x lo' hi' t) : j ∈ leftN x lo hi t := by
  obtain ⟨i, a, b, c⟩ := leftTo_mem.1 h
  have := plcN_wide (x := x) h1 h2 ht (i : Int)
  exact leftTo_mem.2 ⟨i, a, b, by omega⟩
theorem worst_wide (h1 : lo ≤ lo') (h2 : hi' ≤ hi) {t : Int} (ht : -1 ≤ t) : worstAt x lo' hi' t ≤ worstAt x lo hi t := by
  refine worstTo_le fun i hk => ?_
  have := plcN_wide (x := x) h1 h2 ht (i : Int)
  have := worstTo_ge (f := plcN x lo hi) (t := t) hk
  show _ ≤ worstTo _ _ _
  omega
theorem worst_tot {t : Int} (ht : -1 ≤ t) : worstAt x lo hi t ≤ totN x lo hi := worstTo_le fun i _ => plcN_tot ht _
theorem worst_pos (hs : totN x lo hi ≠ 0) {t : Int} (ht : -1 ≤ t) (ht2 : t < x.steps.length) : 1 ≤ worstAt x lo hi t := by
  rw [totN_eq] at hs
  obtain ⟨r, hr, hm⟩ := List.countP_pos_iff.1 (Nat.pos_of_ne_zero hs)
  obtain ⟨_, k, _, k2, k3⟩ := of_has ht ht2 (recs_mem hr)
  have h1 := worstTo_ge (f := plcN x lo hi) (t := t) k2
  have h2 : 0 < plcN x lo hi t k := by
    rw [plcN_eq _ _ _ _ _ ht]
    exact List.countP_pos_iff.2 ⟨r, hr, by rw [hm, k3]; simp⟩
  show 1 ≤ worstTo _ _ _
  omega
/-- How many are left at worst, if one asks what is best. -/
def askLeft (x : Works) (lo hi : Int) : Int := intAt (wlTo x lo hi (x.steps.length + 1)) (askAt x lo hi)
theorem askLeft_min (k : Nat) (hk : k ≤ x.steps.length) : askLeft x lo hi ≤ worstAt x lo hi ((k : Int) - 1) := by
  rw [← wlTo_at x lo hi k (x.steps.length + 1) (by omega)]
  exact leastTo_min _ _ k (by omega)
theorem askLeft_at (x : Works) (lo hi : Int) : ∃ k : Nat, k ≤ x.steps.length ∧ askLeft x lo hi = worstAt x lo hi ((k : Int) - 1) := by
  have h : askAt x lo hi < x.steps.length + 1 := leastTo_lt _ _ (by omega)
  exact ⟨_, by omega, wlTo_at x lo hi _ _ h⟩
theorem ask_wide (h1 : lo ≤ lo') (h2 : hi' ≤ hi) (hs : totN x lo' hi' ≠ 0) : askLeft x lo' hi' ≤ askLeft x lo hi ∧ 1 ≤ askLeft x lo' hi' ∧ askLeft x lo hi ≤ totN x lo hi := by
  obtain ⟨k, k1, k2⟩ := askLeft_at x lo hi
  obtain ⟨j, j1, j2⟩ := askLeft_at x lo' hi'
  have a := askLeft_min (lo := lo') (hi := hi') k k1
  have b := worst_wide (x := x) h1 h2 (t := (k : Int) - 1) (by omega)
  have c := worst_pos hs (t := (j : Int) - 1) (by omega) (by omega)
  have d := worst_tot (x := x) (lo := lo) (hi := hi) (t := (k : Int) - 1) (by omega)
  omega
end
end Go.Proofs.Ytigpefjeelgfdaa.Eng

/-
  Layer 1, plain: what HeatParted asks: a works cut in two behind its first steps.
-/
namespace Go.Proofs.Ytigpefjeelgfdaa
open Go.RowKit

/-- The first k steps; and the others, with a bar of one range. -/
def firstW (x : Works) (k : Nat) : Works := ⟨x.bars, x.steps.take k⟩
def restW (x : Works) (k : Nat) (r : Rg) : Works := ⟨[r], x.steps.drop k⟩
theorem manyOk_iff {x : Works} : manyOk x = true ↔ 1 ≤ x.bars.length ∧ x.bars.length ≤ 6 ∧ x.steps.length ≤ 6 ∧ ∀ ws ∈ x.steps, waysMany ws = true := by
  simp only [manyOk, Bool.and_eq_true, Bool.not_eq_true', decide_eq_false_iff_not, List.all_eq_true]
  constructor
  · rintro ⟨h1, h2⟩
    exact ⟨by omega, by omega, by omega, h2⟩
  · rintro ⟨h1, h2, h3, h4⟩
    exact ⟨by omega, h4⟩
theorem firstW_ok {x : Works} (h : worksErr x = 0) (k : Nat) : worksErr (firstW x k) = 0 := by
  obtain ⟨h1, h2, h3⟩ := worksOk_iff.1 h
  obtain ⟨a1, a2, a3, a4⟩ := manyOk_iff.1 h1
  refine worksOk_iff.2 ⟨manyOk_iff.2 ⟨a1, a2, ?_, fun ws hw => a4 ws (List.mem_of_mem_take hw)⟩, h2, List.all_eq_true.2 fun ws hw => List.all_eq_true.1 h3 ws (List.mem_of_mem_take hw)⟩
  simp only [firstW, List.length_take]
  omega
theorem restW_ok {x : Works} (h : worksErr x = 0) (k : Nat) {r : Rg} (hr : isHardB r.1 r.2 = true) : worksErr (restW x k r) = 0 := by
  obtain ⟨h1, h2, h3⟩ := worksOk_iff.1 h
  obtain ⟨a1, a2, a3, a4⟩ := manyOk_iff.1 h1
  refine worksOk_iff.2 ⟨manyOk_iff.2 ⟨by simp [restW], by simp [restW], ?_, fun ws hw => a4 ws (List.mem_of_mem_drop hw)⟩, List.all_eq_true.2 fun a ha => ?_, List.all_eq_true.2 fun ws hw => List.all_eq_true.1 h3 ws (List.mem_of_mem_drop hw)⟩
  · simp only [restW, List.length_drop]
    omega
  · simp only [restW, List.mem_cons, List.not_mem_nil, or_false] at ha
    subst ha
    exact hr
theorem restW_fine {x : Works} (h : fineB x = true) (k : Nat) {r : Rg} (hr : isHardB r.1 r.2 = true) : fineB (restW x k r) = true := by
  have h0 := restW_ok (fineB_works h) k hr
  simp only [fineB, Bool.and_eq_true, Bool.not_eq_true', decide_eq_true_eq] at h ⊢
  refine ⟨?_, h0⟩
  obtain ⟨h1, -⟩ := h
  simp only [greatB, Bool.or_eq_false_iff, decide_eq_false_iff_not, Bool.not_eq_false', List.all_eq_true] at h1 ⊢
  refine ⟨⟨by simp [restW], ?_⟩, fun ws hw => h1.2 ws (List.mem_of_mem_drop hw)⟩
  have := h1.1.2
  simp only [restW, List.length_drop]
  omega
section
variable {x : Works} {m : Nat} {ways hist : List Int} {k : Nat}
theorem intAt_take {l : List Int} {i : Nat} (hi : i < k) : intAt (l.take k) i = intAt l i := by
  simp only [intAt, List.getD_eq_getElem?_getD, List.getElem?_take, if_pos hi]
theorem intAt_drop (l : List Int) (k i : Nat) : intAt (l.drop k) i = intAt l (k + i) := by
  simp only [intAt, List.getD_eq_getElem?_getD, List.getElem?_drop]
theorem stepAt_take {l : List (List (List Kink))} {i : Nat} (hi : i < k) : stepAt (l.take k) i = stepAt l i := by
  simp only [stepAt, List.getD_eq_getElem?_getD, List.getElem?_take, if_pos hi]
theorem stepAt_drop (l : List (List (List Kink))) (k i : Nat) : stepAt (l.drop k) i = stepAt l (k + i) := by
  simp only [stepAt, List.getD_eq_getElem?_getD, List.getElem?_drop]
theorem first_rec (ok : RecOk x m ways) (hk : k ≤ x.steps.length) : RecOk (firstW x k) m (ways.take k) := by
  have hl := ok.len
  refine ⟨firstW_ok ok.works k, by simp only [firstW, List.length_take]; omega, ok.bar0, ok.bar1, fun i hi => ?_⟩
  rw [List.length_take] at hi
  have h1 := ok.ways i (by omega)
  simp only [wayIn, decide_eq_true_eq] at h1 ⊢
  simp only [firstW]
  rw [intAt_take (by omega), stepAt_take (by omega)]
  exact h1
theorem rest_rec (ok : RecOk x m ways) {r : Rg} (hr : isHardB r.1 r.2 = true) : RecOk (restW x k r) ((0 : Nat) : Int) (ways.drop k) := by
  have hl := ok.len
  refine ⟨restW_ok ok.works k hr, by simp only [restW, List.length_drop]; omega, by omega, by simp [restW], fun i hi => ?_⟩
  rw [List.length_drop] at hi
  have h1 := ok.ways (k + i) (by omega)
  simp only [wayIn, decide_eq_true_eq] at h1 ⊢
  simp only [restW]
  rw [intAt_drop, stepAt_drop]
  exact h1
theorem wayOf_first {i : Nat} (hi : i < k) : wayOf (firstW x k) (ways.take k) i = wayOf x ways i := by
  simp only [wayOf, firstW]
  rw [intAt_take hi, stepAt_take hi]
theorem wayOf_rest (x : Works) (ways : List Int) (k : Nat) (r : Rg) (i : Nat) : wayOf (restW x k r) (ways.drop k) i = wayOf x ways (k + i) := by
  simp only [wayOf, restW]
  rw [intAt_drop, stepAt_drop]
theorem rng_first : ∀ i, i ≤ k → rngN (firstW x k) m (ways.take k) i = rngN x m ways i
  | 0, _ => rfl
  | i + 1, hi => by
    show ((aft (wayOf (firstW x k) (ways.take k) i) (rngN (firstW x k) m (ways.take k) i).1).1, (aft (wayOf (firstW x k) (ways.take k) i) (rngN (firstW x k) m (ways.take k) i).2).2) = _
    rw [rng_first i (by omega), wayOf_first (by omega)]
    rfl
theorem rng_rest (x : Works) (m : Nat) (ways : List Int) (k : Nat) : ∀ i, rngN (restW x k (rngN x m ways k)) 0 (ways.drop k) i = rngN x m ways (k + i)
  | 0 => rfl
  | i + 1 => by
    show ((aft (wayOf (restW x k (rngN x m ways k)) (ways.drop k) i) (rngN (restW x k (rngN x m ways k)) 0 (ways.drop k) i).1).1, (aft (wayOf (restW x k (rngN x m ways k)) (ways.drop k) i) (rngN (restW x k (rngN x m ways k)) 0 (ways.drop k) i).2).2) = _
    rw [rng_rest x m ways k i, wayOf_rest]
    rfl
theorem rngs_first (hk : k ≤ x.steps.length) : rngsOf (firstW x k) m (ways.take k) = (rngsOf x m ways).take (k + 1) := by
  apply List.ext_getElem?
  intro i
  have hl : (firstW x k).steps.length = k := by simp only [firstW, List.length_take]; omega
  rw [List.getElem?_take]
  by_cases h : i < k + 1
  · rw [if_pos h, rngsOf_at (by omega), rngsOf_at (by omega), rng_first i (by omega)]
  · rw [if_neg h, List.getElem?_eq_none (by rw [rngsOf_len]; omega)]
theorem rngs_rest (hk : k ≤ x.steps.length) : rngsOf (restW x k (rngN x m ways k)) ((0 : Nat) : Int) (ways.drop k) = (rngsOf x m ways).drop k := by
  apply List.ext_getElem?
  intro i
  have hl : (restW x k (rngN x m ways k)).steps.length = x.steps.length - k := by simp only [restW, List.length_drop]
  rw [List.getElem?_drop]
  by_cases h : i ≤ x.steps.length - k
  · rw [rngsOf_at (by omega), rngsOf_at (by omega), rng_rest]
  · rw [List.getElem?_eq_none (by rw [rngsOf_len]; omega), List.getElem?_eq_none (by rw [rngsOf_len]; omega)]
theorem hist_all (ok : RecOk x m ways) (h : histErr x m ways hist = 0) (hl : hist.length = x.steps.length + 1) : ∀ i, i ≤ x.steps.length → histOk x m ways hist i = true := by
  have hall : allN (histOk x m ways hist) hist.length = true := by
    by_cases g : allN (histOk x m ways hist) hist.length = true
    · exact g
    · have g' : allN (histOk x m ways hist) hist.length = false := by simpa using g
      unfold histErr at h
      rw [if_neg (by simpa using recOk_iff.2 ok), if_neg (by simpa using hl), if_pos g'] at h
      cases h
  intro i hi
  exact allN_iff.1 hall i (by omega)
theorem first_hist (ok : RecOk x m ways) (h : histErr x m ways hist = 0) (hl : hist.length = x.steps.length + 1) (hk : k ≤ x.steps.length) : histErr (firstW x k) m (ways.take k) (hist.take (k + 1)) = 0 := by
  have hls : (firstW x k).steps.length = k := by simp only [firstW, List.length_take]; omega
  refine histErr_ok (recOk_iff.2 (first_rec ok hk)) (by rw [hls, List.length_take]; omega) (allN_iff.2 fun i hi => ?_)
  rw [List.length_take] at hi
  have h1 := hist_all ok h hl i (by omega)
  rcases i with _ | i
  · simp only [histOk, within] at h1 ⊢
    rw [intAt_take (by omega)]
    exact h1
  · simp only [histOk, within] at h1 ⊢
    rw [intAt_take (by omega), intAt_take (by omega), wayOf_first (by omega)]
    exact h1
theorem rest_hist (ok : RecOk x m ways) (h : histErr x m ways hist = 0) (hl : hist.length = x.steps.length + 1) (hk : k ≤ x.steps.length) : histErr (restW x k (rngN x m ways k)) ((0 : Nat) : Int) (ways.drop k) (hist.drop k) = 0 := by
  have hls : (restW x k (rngN x m ways k)).steps.length = x.steps.length - k := by simp only [restW, List.length_drop]
  have hv := rngN_val ok k hk
  refine histErr_ok (recOk_iff.2 (rest_rec ok (isHardB_iff.2 hv))) (by rw [hls, List.length_drop]; omega) (allN_iff.2 fun i hi => ?_)
  rw [List.length_drop] at hi
  rcases i with _ | i
  · have h2 := hist_rng ok h hl k hk
    simp only [histOk, within]
    rw [intAt_drop]
    simp only [inB, decide_eq_true_eq, Nat.add_zero]
    exact h2
  · have h1 := hist_all ok h hl (k + i + 1) (by omega)
    simp only [histOk, within] at h1 ⊢
    rw [intAt_drop, intAt_drop, wayOf_rest]
    exact h1
end
end Go.Proofs.Ytigpefjeelgfdaa

/-
  Layer 1's statements, by the engine: what becomes narrower.
-/
namespace Go.Proofs.Ytigpefjeelgfdaa.Eng
open Go.RowKit

set_option maxRecDepth 100000 in
set_option maxHeartbeats 4000000 in
theorem narrower_out (x : Works) (nums : List Int) (lo hi a b : Int) (h : fineB x = false ∨ fullB x = true ∨ (20 : Int) < nums.length ∨ isHardB lo hi = false) : WCall Try.prog 10 [worksD x, kintL .u8 nums, rgD lo hi, .agg [.val (.int .u16 a), .val (.int .u16 b)]] (bD true) := by
  have hg := fine_c x
  have hf := full_c x
  have hh := isHard_c lo hi
  have hw := works_c
  rcases hgb : fineB x <;> rw [hgb] at hg
  · refine wcallK Try.func10 rfl rfl (show 4 ≤ _ by decide) rfl fun _ => ?_; simp only [Try.ntmps10]
    repeat (first | (with_reducible refine AWp.seqK fun _ => ?_) | (with_reducible refine AWp.blockK fun _ => ?_) | (with_reducible refine KK.go ?_) | (refine AWp.reg tabOk ?_; simp [-getElem?_pos, List.getElem?_cons_zero, List.getElem?_cons_succ, List.getElem?_nil, ]) | (refine AWp.condK fun _ _ => ?_; simp [-getElem?_pos, List.getElem?_cons_zero, List.getElem?_cons_succ, List.getElem?_nil, ]) | (refine AWp.ret ?_; try simp only [thenP]) | (refine AWp.skip ?_; try simp only [thenP]) | (refine AWp.exit ?_; try simp only [thenP]) | (with_reducible refine BB.go ?_; simp only [blockP, thenP, if_true, if_false, reduceIte]) | (refine AWp.draws tabOk (by kernel_rfl) (by kernel_rfl) ?_; simp [-getElem?_pos, List.getElem?_cons_zero, List.getElem?_cons_succ, List.getElem?_nil, ]) | (with_reducible refine And.intro (show okLog _ _ = true from by kernel_rfl) ?_))
    first | (refine Exec0.call [] hg (by simp [-getElem?_pos, ]) rfl (by simp [-getElem?_pos, List.getElem?_cons_zero, List.getElem?_cons_succ, List.getElem?_nil, ]) ?_; simp [-getElem?_pos, List.getElem?_cons_zero, List.getElem?_cons_succ, List.getElem?_nil, ]) | (refine Exec.call [] hg (by simp [-getElem?_pos, ]) rfl (by simp [-getElem?_pos, List.getElem?_cons_zero, List.getElem?_cons_succ, List.getElem?_nil, ]) ?_; simp [-getElem?_pos, List.getElem?_cons_zero, List.getElem?_cons_succ, List.getElem?_nil, ])
    repeat (first | (with_reducible refine AWp.seqK fun _ => ?_) | (with_reducible refine AWp.blockK fun _ => ?_) | (with_reducible refine KK.go ?_) | (refine AWp.reg tabOk ?_; simp [-getElem?_pos, List.getElem?_cons_zero, List.getElem?_cons_succ, List.getElem?_nil, ]) | (refine AWp.condK fun _ _ => ?_; simp [-getElem?_pos, List.getElem?_cons_zero, List.getElem?_cons_succ, List.getElem?_nil, ]) | (refine AWp.ret ?_; try simp only [thenP]) | (refine AWp.skip ?_; try simp only [thenP]) | (refine AWp.exit ?_; try simp only [thenP]) | (with_reducible refine BB.go ?_; simp only [blockP, thenP, if_true, if_false, reduceIte]) | (refine AWp.draws tabOk (by kernel_rfl) (by kernel_rfl) ?_; simp [-getElem?_pos, List.getElem?_cons_zero, List.getElem?_cons_succ, List.getElem?_nil, ]) | (with_reducible refine And.intro (show okLog _ _ = true from by kernel_rfl) ?_))
    first | (refine Exec0.call [] hw (by simp [-getElem?_pos, ]) rfl (by simp [-getElem?_pos, List.getElem?_cons_zero, List.getElem?_cons_succ, List.getElem?_nil, ]) ?_; simp [-getElem?_pos, List.getElem?_cons_zero, List.getElem?_cons_succ, List.getElem?_nil, ]) | (refine Exec.call [] hw (by simp [-getElem?_pos, ]) rfl (by simp [-getElem?_pos, List.getElem?_cons_zero, List.getElem?_cons_succ, List.getElem?_nil, ]) ?_; simp [-getElem?_pos, List.getElem?_cons_zero, List.getElem?_cons_succ, List.getElem?_nil, ])
    repeat (first | (with_reducible refine AWp.seqK fun _ => ?_) | (with_reducible refine AWp.blockK fun _ => ?_) | (with_reducible refine KK.go ?_) | (refine AWp.reg tabOk ?_; simp [-getElem?_pos, List.getElem?_cons_zero, List.getElem?_cons_succ, List.getElem?_nil, ]) | (refine AWp.condK fun _ _ => ?_; simp [-getElem?_pos, List.getElem?_cons_zero, List.getElem?_cons_succ, List.getElem?_nil, ]) | (refine AWp.ret ?_; try simp only [thenP]) | (refine AWp.skip ?_; try simp only [thenP]) | (refine AWp.exit ?_; try simp only [thenP]) | (with_reducible refine BB.go ?_; simp only [blockP, thenP, if_true, if_false, reduceIte]) | (refine AWp.draws tabOk (by kernel_rfl) (by kernel_rfl) ?_; simp [-getElem?_pos, List.getElem?_cons_zero, List.getElem?_cons_succ, List.getElem?_nil, ]) | (with_reducible refine And.intro (show okLog _ _ = true from by kernel_rfl) ?_))
    (first | refine RR.ret ?_ | refine RR.normal ?_); simp []
  rcases hfb : fullB x <;> rw [hfb] at hf
  · by_cases hl : (20 : Int) < nums.length
    · refine wcallK Try.func10 rfl rfl (show 4 ≤ _ by decide) rfl fun _ => ?_; simp only [Try.ntmps10]
      repeat (first | (with_reducible refine AWp.seqK fun _ => ?_) | (with_reducible refine AWp.blockK fun _ => ?_) | (with_reducible refine KK.go ?_) | (refine AWp.reg tabOk ?_; simp [-getElem?_pos, List.getElem?_cons_zero, List.getElem?_cons_succ, List.getElem?_nil, hl]) | (refine AWp.condK fun _ _ => ?_; simp [-getElem?_pos, List.getElem?_cons_zero, List.getElem?_cons_succ, List.getElem?_nil, hl]) | (refine AWp.ret ?_; try simp only [thenP]) | (refine AWp.skip ?_; try simp only [thenP]) | (refine AWp.exit ?_; try simp only [thenP]) | (with_reducible refine BB.go ?_; simp only [blockP, thenP, if_true, if_false, reduceIte]) | (refine AWp.draws tabOk (by kernel_rfl) (by kernel_rfl) ?_; simp [-getElem?_pos, List.getElem?_cons_zero, List.getElem?_cons_succ, List.getElem?_nil, hl]) | (with_reducible refine And.intro (show okLog _ _ = true from by kernel_rfl) ?_))
      first | (refine Exec0.call [] hg (by simp [-getElem?_pos, ]) rfl (by simp [-getElem?_pos, List.getElem?_cons_zero, List.getElem?_cons_succ, List.getElem?_nil, ]) ?_; simp [-getElem?_pos, List.getElem?_cons_zero, List.getElem?_cons_succ, List.getElem?_nil, ]) | (refine Exec.call [] hg (by simp [-getElem?_pos, ]) rfl (by simp [-getElem?_pos, List.getElem?_cons_zero, List.getElem?_cons_succ, List.getElem?_nil, ]) ?_; simp [-getElem?_pos, List.getElem?_cons_zero, List.getElem?_cons_succ, List.getElem?_nil, ])
      repeat (first | (with_reducible refine AWp.seqK fun _ => ?_) | (with_reducible refine AWp.blockK fun _ => ?_) | (with_reducible refine KK.go ?_) | (refine AWp.reg tabOk ?_; simp [-getElem?_pos, List.getElem?_cons_zero, List.getElem?_cons_succ, List.getElem?_nil, hl]) | (refine AWp.condK fun _ _ => ?_; simp [-getElem?_pos, List.getElem?_cons_zero, List.getElem?_cons_succ, List.getElem?_nil, hl]) | (refine AWp.ret ?_; try simp only [thenP]) | (refine AWp.skip ?_; try simp only [thenP]) | (refine AWp.exit ?_; try simp only [thenP]) | (with_reducible refine BB.go ?_; simp only [blockP, thenP, if_true, if_false, reduceIte]) | (refine AWp.draws tabOk (by kernel_rfl) (by kernel_rfl) ?_; simp [-getElem?_pos, List.getElem?_cons_zero, List.getElem?_cons_succ, List.getElem?_nil, hl]) | (with_reducible refine And.intro (show okLog _ _ = true from by kernel_rfl) ?_))
      first | (refine Exec0.call [] hf (by simp [-getElem?_pos, hl]) rfl (by simp [-getElem?_pos, List.getElem?_cons_zero, List.getElem?_cons_succ, List.getElem?_nil, hl]) ?_; simp [-getElem?_pos, List.getElem?_cons_zero, List.getElem?_cons_succ, List.getElem?_nil, hl]) | (refine Exec.call [] hf (by simp [-getElem?_pos, hl]) rfl (by simp [-getElem?_pos, List.getElem?_cons_zero, List.getElem?_cons_succ, List.getElem?_nil, hl]) ?_; simp [-getElem?_pos, List.getElem?_cons_zero, List.getElem?_cons_succ, List.getElem?_nil, hl])
      repeat (first | (with_reducible refine AWp.seqK fun _ => ?_) | (with_reducible refine AWp.blockK fun _ => ?_) | (with_reducible refine KK.go ?_) | (refine AWp.reg tabOk ?_; simp [-getElem?_pos, List.getElem?_cons_zero, List.getElem?_cons_succ, List.getElem?_nil, hl]) | (refine AWp.condK fun _ _ => ?_; simp [-getElem?_pos, List.getElem?_cons_zero, List.getElem?_cons_succ, List.getElem?_nil, hl]) | (refine AWp.ret ?_; try simp only [thenP]) | (refine AWp.skip ?_; try simp only [thenP]) | (refine AWp.exit ?_; try simp only [thenP]) | (with_reducible refine BB.go ?_; simp only [blockP, thenP, if_true, if_false, reduceIte]) | (refine AWp.draws tabOk (by kernel_rfl) (by kernel_rfl) ?_; simp [-getElem?_pos, List.getElem?_cons_zero, List.getElem?_cons_succ, List.getElem?_nil, hl]) | (with_reducible refine And.intro (show okLog _ _ = true from by kernel_rfl) ?_))
      first | (refine Exec0.call [] hw (by simp [-getElem?_pos, ]) rfl (by simp [-getElem?_pos, List.getElem?_cons_zero, List.getElem?_cons_succ, List.getElem?_nil, ]) ?_; simp [-getElem?_pos, List.getElem?_cons_zero, List.getElem?_cons_succ, List.getElem?_nil, ]) | (refine Exec.call [] hw (by simp [-getElem?_pos, ]) rfl (by simp [-getElem?_pos, List.getElem?_cons_zero, List.getElem?_cons_succ, List.getElem?_nil, ]) ?_; simp [-getElem?_pos, List.getElem?_cons_zero, List.getElem?_cons_succ, List.getElem?_nil, ])
      repeat (first | (with_reducible refine AWp.seqK fun _ => ?_) | (with_reducible refine AWp.blockK fun _ => ?_) | (with_reducible refine KK.go ?_) | (refine AWp.reg tabOk ?_; simp [-getElem?_pos, List.getElem?_cons_zero, List.getElem?_cons_succ, List.getElem?_nil, ]) | (refine AWp.condK fun _ _ => ?_; simp [-getElem?_pos, List.getElem?_cons_zero, List.getElem?_cons_succ, List.getElem?_nil, ]) | (refine AWp.ret ?_; try simp only [thenP]) | (refine AWp.skip ?_; try simp only [thenP]) | (refine AWp.exit ?_; try simp only [thenP]) | (with_reducible refine BB.go ?_; simp only [blockP, thenP, if_true, if_false, reduceIte]) | (refine AWp.draws tabOk (by kernel_rfl) (by kernel_rfl) ?_; simp [-getElem?_pos, List.getElem?_cons_zero, List.getElem?_cons_succ, List.getElem?_nil, ]) | (with_reducible refine And.intro (show okLog _ _ = true from by kernel_rfl) ?_))
      (first | refine RR.ret ?_ | refine RR.normal ?_); simp []
    · rcases hhb : isHardB lo hi <;> rw [hhb] at hh
      · refine wcallK Try.func10 rfl rfl (show 4 ≤ _ by decide) rfl fun _ => ?_; simp only [Try.ntmps10]
        repeat (first | (with_reducible refine AWp.seqK fun _ => ?_) | (with_reducible refine AWp.blockK fun _ => ?_) | (with_reducible refine KK.go ?_) | (refine AWp.reg tabOk ?_; simp [-getElem?_pos, List.getElem?_cons_zero, List.getElem?_cons_succ, List.getElem?_nil, hl]) | (refine AWp.condK fun _ _ => ?_; simp [-getElem?_pos, List.getElem?_cons_zero, List.getElem?_cons_succ, List.getElem?_nil, hl]) | (refine AWp.ret ?_; try simp only [thenP]) | (refine AWp.skip ?_; try simp only [thenP]) | (refine AWp.exit ?_; try simp only [thenP]) | (with_reducible refine BB.go ?_; simp only [blockP, thenP, if_true, if_false, reduceIte]) | (refine AWp.draws tabOk (by kernel_rfl) (by kernel_rfl) ?_; simp [-getElem?_pos, List.getElem?_cons_zero, List.getElem?_cons_succ, List.getElem?_nil, hl]) | (with_reducible refine And.intro (show okLog _ _ = true from by kernel_rfl) ?_))
        first | (refine Exec0.call [] hg (by simp [-getElem?_pos, ]) rfl (by simp [-getElem?_pos, List.getElem?_cons_zero, List.getElem?_cons_succ, List.getElem?_nil, ]) ?_; simp [-getElem?_pos, List.getElem?_cons_zero, List.getElem?_cons_succ, List.getElem?_nil, ]) | (refine Exec.call [] hg (by simp [-getElem?_pos, ]) rfl (by simp [-getElem?_pos, List.getElem?_cons_zero, List.getElem?_cons_succ, List.getElem?_nil, ]) ?_; simp [-getElem?_pos, List.getElem?_cons_zero, List.getElem?_cons_succ, List.getElem?_nil, ])
        repeat (first | (with_reducible refine AWp.seqK fun _ => ?_) | (with_reducible refine AWp.blockK fun _ => ?_) | (with_reducible refine KK.go ?_) | (refine AWp.reg tabOk ?_; simp [-getElem?_pos, List.getElem?_cons_zero, List.getElem?_cons_succ, List.getElem?_nil, hl]) | (refine AWp.condK fun _ _ => ?_; simp [-getElem?_pos, List.getElem?_cons_zero, List.getElem?_cons_succ, List.getElem?_nil, hl]) | (refine AWp.ret ?_; try simp only [thenP]) | (refine AWp.skip ?_; try simp only [thenP]) | (refine AWp.exit ?_; try simp only [thenP]) | (with_reducible refine BB.go ?_; simp only [blockP, thenP, if_true, if_false, reduceIte]) | (refine AWp.draws tabOk (by kernel_rfl) (by kernel_rfl) ?_; simp [-getElem?_pos, List.getElem?_cons_zero, List.getElem?_cons_succ, List.getElem?_nil, hl]) | (with_reducible refine And.intro (show okLog _ _ = true from by kernel_rfl) ?_))
        first | (refine Exec0.call [] hf (by simp [-getElem?_pos, hl]) rfl (by simp [-getElem?_pos, List.getElem?_cons_zero, List.getElem?_cons_succ, List.getElem?_nil, hl]) ?_; simp [-getElem?_pos, List.getElem?_cons_zero, List.getElem?_cons_succ, List.getElem?_nil, hl]) | (refine Exec.call [] hf (by simp [-getElem?_pos, hl]) rfl (by simp [-getElem?_pos, List.getElem?_cons_zero, List.getElem?_cons_succ, List.getElem?_nil, hl]) ?_; simp [-getElem?_pos, List.getElem?_cons_zero, List.getElem?_cons_succ, List.getElem?_nil, hl])
        repeat (first | (with_reducible refine AWp.seqK fun _ => ?_) | (with_reducible refine AWp.blockK fun _ => ?_) | (with_reducible refine KK.go ?_) | (refine AWp.reg tabOk ?_; simp [-getElem?_pos, List.getElem?_cons_zero, List.getElem?_cons_succ, List.getElem?_nil, hl]) | (refine AWp.condK fun _ _ => ?_; simp [-getElem?_pos, List.getElem?_cons_zero, List.getElem?_cons_succ, List.getElem?_nil, hl]) | (refine AWp.ret ?_; try simp only [thenP]) | (refine AWp.skip ?_; try simp only [thenP]) | (refine AWp.exit ?_; try simp only [thenP]) | (with_reducible refine BB.go ?_; simp only [blockP, thenP, if_true, if_false, reduceIte]) | (refine AWp.draws tabOk (by kernel_rfl) (by kernel_rfl) ?_; simp [-getElem?_pos, List.getElem?_cons_zero, List.getElem?_cons_succ, List.getElem?_nil, hl]) | (with_reducible refine And.intro (show okLog _ _ = true from by kernel_rfl) ?_))
        first | (refine Exec0.call [] hh (by simp [-getElem?_pos, ]) rfl (by simp [-getElem?_pos, List.getElem?_cons_zero, List.getElem?_cons_succ, List.getElem?_nil, ]) ?_; simp [-getElem?_pos, List.getElem?_cons_zero, List.getElem?_cons_succ, List.getElem?_nil, ]) | (refine Exec.call [] hh (by simp [-getElem?_pos, ]) rfl (by simp [-getElem?_pos, List.getElem?_cons_zero, List.getElem?_cons_succ, List.getElem?_nil, ]) ?_; simp [-getElem?_pos, List.getElem?_cons_zero, List.getElem?_cons_succ, List.getElem?_nil, ])
        repeat (first | (with_reducible refine AWp.seqK fun _ => ?_) | (with_reducible refine AWp.blockK fun _ => ?_) | (with_reducible refine KK.go ?_) | (refine AWp.reg tabOk ?_; simp [-getElem?_pos, List.getElem?_cons_zero, List.getElem?_cons_succ, List.getElem?_nil, hl]) | (refine AWp.condK fun _ _ => ?_; simp [-getElem?_pos, List.getElem?_cons_zero, List.getElem?_cons_succ, List.getElem?_nil, hl]) | (refine AWp.ret ?_; try simp only [thenP]) | (refine AWp.skip ?_; try simp only [thenP]) | (refine AWp.exit ?_; try simp only [thenP]) | (with_reducible refine BB.go ?_; simp only [blockP, thenP, if_true, if_false, reduceIte]) | (refine AWp.draws tabOk (by kernel_rfl) (by kernel_rfl) ?_; simp [-getElem?_pos, List.getElem?_cons_zero, List.getElem?_cons_succ, List.getElem?_nil, hl]) | (with_reducible refine And.intro (show okLog _ _ = true from by kernel_rfl) ?_))
        first | (refine Exec0.call [] hw (by simp [-getElem?_pos, ]) rfl (by simp [-getElem?_pos, List.getElem?_cons_zero, List.getElem?_cons_succ, List.getElem?_nil, ]) ?_; simp [-getElem?_pos, List.getElem?_cons_zero, List.getElem?_cons_succ, List.getElem?_nil, ]) | (refine Exec.call [] hw (by simp [-getElem?_pos, ]) rfl (by simp [-getElem?_pos, List.getElem?_cons_zero, List.getElem?_cons_succ, List.getElem?_nil, ]) ?_; simp [-getElem?_pos, List.getElem?_cons_zero, List.getElem?_cons_succ, List.getElem?_nil, ])
        repeat (first | (with_reducible refine AWp.seqK fun _ => ?_) | (with_reducible refine AWp.blockK fun _ => ?_) | (with_reducible refine KK.go ?_) | (refine AWp.reg tabOk ?_; simp [-getElem?_pos, List.getElem?_cons_zero, List.getElem?_cons_succ, List.getElem?_nil, ]) | (refine AWp.condK fun _ _ => ?_; simp [-getElem?_pos, List.getElem?_cons_zero, List.getElem?_cons_succ, List.getElem?_nil, ]) | (refine AWp.ret ?_; try simp only [thenP]) | (refine AWp.skip ?_; try simp only [thenP]) | (refine AWp.exit ?_; try simp only [thenP]) | (with_reducible refine BB.go ?_; simp only [blockP, thenP, if_true, if_false, reduceIte]) | (refine AWp.draws tabOk (by kernel_rfl) (by kernel_rfl) ?_; simp [-getElem?_pos, List.getElem?_cons_zero, List.getElem?_cons_succ, List.getElem?_nil, ]) | (with_reducible refine And.intro (show okLog _ _ = true from by kernel_rfl) ?_))
        (first | refine RR.ret ?_ | refine RR.normal ?_); simp []
      · simp [hgb, hfb, hl, hhb] at h
  · refine wcallK Try.func10 rfl rfl (show 4 ≤ _ by decide) rfl fun _ => ?_; simp only [Try.ntmps10]
    repeat (first | (with_reducible refine AWp.seqK fun _ => ?_) | (with_reducible refine AWp.blockK fun _ => ?_) | (with_reducible refine KK.go ?_) | (refine AWp.reg tabOk ?_; simp [-getElem?_pos, List.getElem?_cons_zero, List.getElem?_cons_succ, List.getElem?_nil, ]) | (refine AWp.condK fun _ _ => ?_; simp [-getElem?_pos, List.getElem?_cons_zero, List.getElem?_cons_succ, List.getElem?_nil, ]) | (refine AWp.ret ?_; try simp only [thenP]) | (refine AWp.skip ?_; try simp only [thenP]) | (refine AWp.exit ?_; try simp only [thenP]) | (with_reducible refine BB.go ?_; simp only [blockP, thenP, if_true, if_false, reduceIte]) | (refine AWp.draws tabOk (by kernel_rfl) (by kernel_rfl) ?_; simp [-getElem?_pos, List.getElem?_cons_zero, List.getElem?_cons_succ, List.getElem?_nil, ]) | (with_reducible refine And.intro (show okLog _ _ = true from by kernel_rfl) ?_))
    first | (refine Exec0.call [] hg (by simp [-getElem?_pos, ]) rfl (by simp [-getElem?_pos, List.getElem?_cons_zero, List.getElem?_cons_succ, List.getElem?_nil, ]) ?_; simp [-getElem?_pos, List.getElem?_cons_zero, List.getElem?_cons_succ, List.getElem?_nil, ]) | (refine Exec.call [] hg (by simp [-getElem?_pos, ]) rfl (by simp [-getElem?_pos, List.getElem?_cons_zero, List.getElem?_cons_succ, List.getElem?_nil, ]) ?_; simp [-getElem?_pos, List.getElem?_cons_zero, List.getElem?_cons_succ, List.getElem?_nil, ])
    repeat (first | (with_reducible refine AWp.seqK fun _ => ?_) | (with_reducible refine AWp.blockK fun _ => ?_) | (with_reducible refine KK.go ?_) | (refine AWp.reg tabOk ?_; simp [-getElem?_pos, List.getElem?_cons_zero, List.getElem?_cons_succ, List.getElem?_nil, ]) | (refine AWp.condK fun _ _ => ?_; simp [-getElem?_pos, List.getElem?_cons_zero, List.getElem?_cons_succ, List.getElem?_nil, ]) | (refine AWp.ret ?_; try simp only [thenP]) | (refine AWp.skip ?_; try simp only [thenP]) | (refine AWp.exit ?_; try simp only [thenP]) | (with_reducible refine BB.go ?_; simp only [blockP, thenP, if_true, if_false, reduceIte]) | (refine AWp.draws tabOk (by kernel_rfl) (by kernel_rfl) ?_; simp [-getElem?_pos, List.getElem?_cons_zero, List.getElem?_cons_succ, List.getElem?_nil, ]) | (with_reducible refine And.intro (show okLog _ _ = true from by kernel_rfl) ?_))
    first | (refine Exec0.call [] hf (by simp [-getElem?_pos, ]) rfl (by simp [-getElem?_pos, List.getElem?_cons_zero, List.getElem?_cons_succ, List.getElem?_nil, ]) ?_; simp [-getElem?_pos, List.getElem?_cons_zero, List.getElem?_cons_succ, List.getElem?_nil, ]) | (refine Exec.call [] hf (by simp [-getElem?_pos, ]) rfl (by simp [-getElem?_pos, List.getElem?_cons_zero, List.getElem?_cons_succ, List.getElem?_nil, ]) ?_; simp [-getElem?_pos, List.getElem?_cons_zero, List.getElem?_cons_succ, List.getElem?_nil, ])
    repeat (first | (with_reducible refine AWp.seqK fun _ => ?_) | (with_reducible refine AWp.blockK fun _ => ?_) | (with_reducible refine KK.go ?_) | (refine AWp.reg tabOk ?_; simp [-getElem?_pos, List.getElem?_cons_zero, List.getElem?_cons_succ, List.getElem?_nil, ]) | (refine AWp.condK fun _ _ => ?_; simp [-getElem?_pos, List.getElem?_cons_zero, List.getElem?_cons_succ, List.getElem?_nil, ]) | (refine AWp.ret ?_; try simp only [thenP]) | (refine AWp.skip ?_; try simp only [thenP]) | (refine AWp.exit ?_; try simp only [thenP]) | (with_reducible refine BB.go ?_; simp only [blockP, thenP, if_true, if_false, reduceIte]) | (refine AWp.draws tabOk (by kernel_rfl) (by kernel_rfl) ?_; simp [-getElem?_pos, List.getElem?_cons_zero, List.getElem?_cons_succ, List.getElem?_nil, ]) | (with_reducible refine And.intro (show okLog _ _ = true from by kernel_rfl) ?_))
    first | (refine Exec0.call [] hw (by simp [-getElem?_pos, ]) rfl (by simp [-getElem?_pos, List.getElem?_cons_zero, List.getElem?_cons_succ, List.getElem?_nil, ]) ?_; simp [-getElem?_pos, List.getElem?_cons_zero, List.getElem?_cons_succ, List.getElem?_nil, ]) | (refine Exec.call [] hw (by simp [-getElem?_pos, ]) rfl (by simp [-getElem?_pos, List.getElem?_cons_zero, List.getElem?_cons_succ, List.getElem?_nil, ]) ?_; simp [-getElem?_pos, List.getElem?_cons_zero, List.getElem?_cons_succ, List.getElem?_nil, ])
    repeat (first | (with_reducible refine AWp.seqK fun _ => ?_) | (with_reducible refine AWp.blockK fun _ => ?_) | (with_reducible refine KK.go ?_) | (refine AWp.reg tabOk ?_; simp [-getElem?_pos, List.getElem?_cons_zero, List.getElem?_cons_succ, List.getElem?_nil, ]) | (refine AWp.condK fun _ _ => ?_; simp [-getElem?_pos, List.getElem?_cons_zero, List.getElem?_cons_succ, List.getElem?_nil, ]) | (refine AWp.ret ?_; try simp only [thenP]) | (refine AWp.skip ?_; try simp only [thenP]) | (refine AWp.exit ?_; try simp only [thenP]) | (with_reducible refine BB.go ?_; simp only [blockP, thenP, if_true, if_false, reduceIte]) | (refine AWp.draws tabOk (by kernel_rfl) (by kernel_rfl) ?_; simp [-getElem?_pos, List.getElem?_cons_zero, List.getElem?_cons_succ, List.getElem?_nil, ]) | (with_reducible refine And.intro (show okLog _ _ = true from by kernel_rfl) ?_))
    (first | refine RR.ret ?_ | refine RR.normal ?_); simp []
/-- What becomes narrower: the numbers. -/
structure Narrow (x : Works) (lo hi a b lo' hi' : Int) : Prop where
  h0 : 0 ≤ lo
  h1 : lo ≤ hi
  h2 : hi ≤ 1000
  a0 : 0 ≤ a
  a1 : a < 65536
  b0 : 0 ≤ b
  b1 : b < 65536
  e1 : (if lo + a < hi then lo + a else hi) = lo'
  e2 : (if lo' < hi - b then hi - b else lo') = hi'
theorem Narrow.le1 {x : Works} {lo hi a b lo' hi' : Int} (N : Narrow x lo hi a b lo' hi') : lo ≤ lo' := by
  obtain ⟨h0, h1, h2, a0, a1, b0, b1, e1, e2⟩ := N
  rw [← e1]
  split <;> omega
theorem Narrow.le0 {x : Works} {lo hi a b lo' hi' : Int} (N : Narrow x lo hi a b lo' hi') : lo' ≤ hi := by
  obtain ⟨h0, h1, h2, a0, a1, b0, b1, e1, e2⟩ := N
  rw [← e1]
  split <;> omega
theorem Narrow.le2 {x : Works} {lo hi a b lo' hi' : Int} (N : Narrow x lo hi a b lo' hi') : hi' ≤ hi := by
  have := N.le0
  obtain ⟨h0, h1, h2, a0, a1, b0, b1, e1, e2⟩ := N
  rw [← e2]
  split <;> omega
theorem Narrow.le3 {x : Works} {lo hi a b lo' hi' : Int} (N : Narrow x lo hi a b lo' hi') : lo' ≤ hi' := by
  obtain ⟨h0, h1, h2, a0, a1, b0, b1, e1, e2⟩ := N
  rw [← e2]
  split <;> omega
theorem Narrow.hard {x : Works} {lo hi a b lo' hi' : Int} (N : Narrow x lo hi a b lo' hi') : isHardB lo hi = true := isHardB_iff.2 ⟨N.h0, N.h1, N.h2⟩
theorem Narrow.hard' {x : Works} {lo hi a b lo' hi' : Int} (N : Narrow x lo hi a b lo' hi') : isHardB lo' hi' = true := by
  have h1 := N.le1
  have h2 := N.le2
  have h3 := N.le3
  have h4 := N.h0
  have h5 := N.h2
  exact isHardB_iff.2 ⟨by omega, h3, by omega⟩
theorem Narrow.mak {x : Works} {lo hi a b lo' hi' : Int} (N : Narrow x lo hi a b lo' hi') (h : fineB x = true) : makErr x lo hi = 0 := by simp [makErr, fineB_works h, N.hard]
theorem Narrow.mak' {x : Works} {lo hi a b lo' hi' : Int} (N : Narrow x lo hi a b lo' hi') (h : fineB x = true) : makErr x lo' hi' = 0 := by simp [makErr, fineB_works h, N.hard']
theorem someE_ok {x : Works} {lo hi : Int} (h : makErr x lo hi = 0) : someErr x lo hi = if totN x lo hi = 0 then 17 else 0 := by simp [someErr, h]
theorem left_len {x : Works} (h : worksErr x = 0) (lo hi : Int) {t : Int} (h1 : -1 ≤ t) (h2 : t < x.steps.length) : (leftN x lo hi t).length ≤ 1000 := by
  have hm := manyOk_iff.1 (worksOk_iff.1 h).1
  have := leftTo_length (plcN x lo hi) t (nCh x t)
  have hn : nCh x t ≤ 1000 := by
    unfold nCh
    split
    · omega
    · obtain ⟨i, rfl⟩ := Int.eq_ofNat_of_zero_le (show 0 ≤ t by omega)
      rw [Int.toNat_natCast]
      obtain ⟨ws, hws⟩ : ∃ ws, x.steps[i]? = some ws := ⟨_, List.getElem?_eq_getElem (by omega)⟩
      have hwm := hm.2.2.2 ws (List.mem_of_getElem? hws)
      have e : stepAt x.steps i = ws := by simp [stepAt, List.getD_eq_getElem?_getD, hws]
      rw [e]
      simp only [waysMany, Bool.and_eq_true, decide_eq_true_eq, Bool.not_eq_true', decide_eq_false_iff_not] at hwm
      omega
  exact Nat.le_trans this hn
theorem leftRows_get {x : Works} {lo hi : Int} {k n : Nat} (h : k < n) : (leftRows x lo hi n)[k]? = some (leftN x lo hi k) := by
  unfold leftRows
  rw [List.getElem?_map, List.getElem?_range h]
  rfl
set_option maxRecDepth 100000 in
set_option maxHeartbeats 4000000 in
theorem narrower_in (x : Works) (nums : List Int) (lo hi a b lo' hi' : Int) (N : Narrow x lo hi a b lo' hi') (hgb : fineB x = true) (hfb : fullB x = false) (hl : ¬ (20 : Int) < nums.length) (hhb : isHardB lo hi = true) (hnw : ∀ n ∈ nums, (Lit.int .u8 n).wf = true) : WCall Try.prog 10 [worksD x, kintL .u8 nums, rgD lo hi, .agg [.val (.int .u16 a), .val (.int .u16 b)]] (bD true) := by
  have hg := fine_c x
  have hf := full_c x
  have hh := isHard_c lo hi
  have hw := works_c
  rw [hgb] at hg
  rw [hfb] at hf
  rw [hhb] at hh
  have h1c := one_c (fineB_works hgb) nums hnw
  have wa : IntKind.i64.wrap a = a := by have := N.a0; have := N.a1; exact wrap64_in (by omega)
  have wl : IntKind.i64.wrap (lo + a) = lo + a := by have := N.a0; have := N.a1; have := N.h0; have := N.h1; have := N.h2; exact wrap64_in (by omega)
  have wb : IntKind.i64.wrap b = b := by have := N.b0; have := N.b1; exact wrap64_in (by omega)
  have wh : IntKind.i64.wrap (hi - b) = hi - b := by have := N.b0; have := N.b1; have := N.h0; have := N.h1; have := N.h2; exact wrap64_in (by omega)
  refine wcallK Try.func10 rfl rfl (show 4 ≤ _ by decide) rfl fun _ => ?_; simp only [Try.ntmps10]
  (first | (with_reducible refine AWp.seqK fun _ => ?_) | (with_reducible refine AWp.blockK fun _ => ?_) | (with_reducible refine KK.go ?_) | (refine AWp.reg tabOk ?_; simp [-getElem?_pos, List.getElem?_cons_zero, List.getElem?_cons_succ, List.getElem?_nil, ]) | (refine AWp.condK fun _ _ => ?_; simp [-getElem?_pos, List.getElem?_cons_zero, List.getElem?_cons_succ, List.getElem?_nil, ]) | (refine AWp.ret ?_; try simp only [thenP]) | (refine AWp.skip ?_; try simp only [thenP]) | (refine AWp.exit ?_; try simp only [thenP]) | (with_reducible refine BB.go ?_; simp only [blockP, thenP, if_true, if_false, reduceIte]) | (refine AWp.draws tabOk (by kernel_rfl) (by kernel_rfl) ?_; simp [-getElem?_pos, List.getElem?_cons_zero, List.getElem?_cons_succ, List.getElem?_nil, ]) | (with_reducible refine And.intro (show okLog _ _ = true from by kernel_rfl) ?_))
  (first | (with_reducible refine AWp.seqK fun _ => ?_) | (with_reducible refine AWp.blockK fun _ => ?_) | (with_reducible refine KK.go ?_) | (refine AWp.reg tabOk ?_; simp [-getElem?_pos, List.getElem?_cons_zero, List.getElem?_cons_succ, List.getElem?_nil, ]) | (refine AWp.condK fun _ _ => ?_; simp [-getElem?_pos, List.getElem?_cons_zero, List.getElem?_cons_succ, List.getElem?_nil, ]) | (refine AWp.ret ?_; try simp only [thenP]) | (refine AWp.skip ?_; try simp only [thenP]) | (refine AWp.exit ?_; try simp only [thenP]) | (with_reducible refine BB.go ?_; simp only [blockP, thenP, if_true, if_false, reduceIte]) | (refine AWp.draws tabOk (by kernel_rfl) (by kernel_rfl) ?_; simp [-getElem?_pos, List.getElem?_cons_zero, List.getElem?_cons_succ, List.getElem?_nil, ]) | (with_reducible refine And.intro (show okLog _ _ = true from by kernel_rfl) ?_))
  (first | (with_reducible refine AWp.seqK fun _ => ?_) | (with_reducible refine AWp.blockK fun _ => ?_) | (with_reducible refine KK.go ?_) | (refine AWp.reg tabOk ?_; simp [-getElem?_pos, List.getElem?_cons_zero, List.getElem?_cons_succ, List.getElem?_nil, ]) | (refine AWp.condK fun _ _ => ?_; simp [-getElem?_pos, List.getElem?_cons_zero, List.getElem?_cons_succ, List.getElem?_nil, ]) | (refine AWp.ret ?_; try simp only [thenP]) | (refine AWp.skip ?_; try simp only [thenP]) | (refine AWp.exit ?_; try simp only [thenP]) | (with_reducible refine BB.go ?_; simp only [blockP, thenP, if_true, if_false, reduceIte]) | (refine AWp.draws tabOk (by kernel_rfl) (by kernel_rfl) ?_; simp [-getElem?_pos, List.getElem?_cons_zero, List.getElem?_cons_succ, List.getElem?_nil, ]) | (with_reducible refine And.intro (show okLog _ _ = true from by kernel_rfl) ?_))
  refine AWp.fits (n := 3) (l := [(1, .d (kintL .u8 nums)), (4, .ptr 0 0 0), (6, .ptr 1 0 0), (7, .ptr 2 0 0)]) (m := [(0, .box 25 [.d (.list (rgRows x.bars)), .d (.list (stepRows x.steps))] false), (1, .box 33 [.d (iD lo), .d (iD hi)] false), (2, .box 80 [.d (.val (.int .u16 a)), .d (.val (.int .u16 b))] false)]) (σ := [0, 1, 2]) ⟨by rfl, by simp, by simp [or_imp, forall_and], by decide⟩ (AWp.frost ?_); simp only [List.map_cons, List.map_nil, frzB]
  repeat (first | (with_reducible refine AWp.seqK fun _ => ?_) | (with_reducible refine AWp.blockK fun _ => ?_) | (with_reducible refine KK.go ?_) | (refine AWp.reg tabOk ?_; simp [-getElem?_pos, List.getElem?_cons_zero, List.getElem?_cons_succ, List.getElem?_nil, hl]) | (refine AWp.condK fun _ _ => ?_; simp [-getElem?_pos, List.getElem?_cons_zero, List.getElem?_cons_succ, List.getElem?_nil, hl]) | (refine AWp.ret ?_; try simp only [thenP]) | (refine AWp.skip ?_; try simp only [thenP]) | (refine AWp.exit ?_; try simp only [thenP]) | (with_reducible refine BB.go ?_; simp only [blockP, thenP, if_true, if_false, reduceIte]) | (refine AWp.draws tabOk (by kernel_rfl) (by kernel_rfl) ?_; simp [-getElem?_pos, List.getElem?_cons_zero, List.getElem?_cons_succ, List.getElem?_nil, hl]) | (with_reducible refine And.intro (show okLog _ _ = true from by kernel_rfl) ?_))
  first | (refine Exec0.call [] hg (by simp [-getElem?_pos, ]) rfl (by simp [-getElem?_pos, List.getElem?_cons_zero, List.getElem?_cons_succ, List.getElem?_nil, ]) ?_; simp [-getElem?_pos, List.getElem?_cons_zero, List.getElem?_cons_succ, List.getElem?_nil, ]) | (refine Exec.call [] hg (by simp [-getElem?_pos, ]) rfl (by simp [-getElem?_pos, List.getElem?_cons_zero, List.getElem?_cons_succ, List.getElem?_nil, ]) ?_; simp [-getElem?_pos, List.getElem?_cons_zero, List.getElem?_cons_succ, List.getElem?_nil, ])
  repeat (first | (with_reducible refine AWp.seqK fun _ => ?_) | (with_reducible refine AWp.blockK fun _ => ?_) | (with_reducible refine KK.go ?_) | (refine AWp.reg tabOk ?_; simp [-getElem?_pos, List.getElem?_cons_zero, List.getElem?_cons_succ, List.getElem?_nil, hl]) | (refine AWp.condK fun _ _ => ?_; simp [-getElem?_pos, List.getElem?_cons_zero, List.getElem?_cons_succ, List.getElem?_nil, hl]) | (refine AWp.ret ?_; try simp only [thenP]) | (refine AWp.skip ?_; try simp only [thenP]) | (refine AWp.exit ?_; try simp only [thenP]) | (with_reducible refine BB.go ?_; simp only [blockP, thenP, if_true, if_false, reduceIte]) | (refine AWp.draws tabOk (by kernel_rfl) (by kernel_rfl) ?_; simp [-getElem?_pos, List.getElem?_cons_zero, List.getElem?_cons_succ, List.getElem?_nil, hl]) | (with_reducible refine And.intro (show okLog _ _ = true from by kernel_rfl) ?_))
  first | (refine Exec0.call [] hf (by simp [-getElem?_pos, hl]) rfl (by simp [-getElem?_pos, List.getElem?_cons_zero, List.getElem?_cons_succ, List.getElem?_nil, hl]) ?_; simp [-getElem?_pos, List.getElem?_cons_zero, List.getElem?_cons_succ, List.getElem?_nil, hl]) | (refine Exec.call [] hf (by simp [-getElem?_pos, hl]) rfl (by simp [-getElem?_pos, List.getElem?_cons_zero, List.getElem?_cons_succ, List.getElem?_nil, hl]) ?_; simp [-getElem?_pos, List.getElem?_cons_zero, List.getElem?_cons_succ, List.getElem?_nil, hl])
  repeat (first | (with_reducible refine AWp.seqK fun _ => ?_) | (with_reducible refine AWp.blockK fun _ => ?_) | (with_reducible refine KK.go ?_) | (refine AWp.reg tabOk ?_; simp [-getElem?_pos, List.getElem?_cons_zero, List.getElem?_cons_succ, List.getElem?_nil, hl]) | (refine AWp.condK fun _ _ => ?_; simp [-getElem?_pos, List.getElem?_cons_zero, List.getElem?_cons_succ, List.getElem?_nil, hl]) | (refine AWp.ret ?_; try simp only [thenP]) | (refine AWp.skip ?_; try simp only [thenP]) | (refine AWp.exit ?_; try simp only [thenP]) | (with_reducible refine BB.go ?_; simp only [blockP, thenP, if_true, if_false, reduceIte]) | (refine AWp.draws tabOk (by kernel_rfl) (by kernel_rfl) ?_; simp [-getElem?_pos, List.getElem?_cons_zero, List.getElem?_cons_succ, List.getElem?_nil, hl]) | (with_reducible refine And.intro (show okLog _ _ = true from by kernel_rfl) ?_))
  first | (refine Exec0.call [] hh (by simp [-getElem?_pos, ]) rfl (by simp [-getElem?_pos, List.getElem?_cons_zero, List.getElem?_cons_succ, List.getElem?_nil, ]) ?_; simp [-getElem?_pos, List.getElem?_cons_zero, List.getElem?_cons_succ, List.getElem?_nil, ]) | (refine Exec.call [] hh (by simp [-getElem?_pos, ]) rfl (by simp [-getElem?_pos, List.getElem?_cons_zero, List.getElem?_cons_succ, List.getElem?_nil, ]) ?_; simp [-getElem?_pos, List.getElem?_cons_zero, List.getElem?_cons_succ, List.getElem?_nil, ])
  repeat (first | (with_reducible refine AWp.seqK fun _ => ?_) | (with_reducible refine AWp.blockK fun _ => ?_) | (with_reducible refine KK.go ?_) | (refine AWp.reg tabOk ?_; simp [-getElem?_pos, List.getElem?_cons_zero, List.getElem?_cons_succ, List.getElem?_nil, hl]) | (refine AWp.condK fun _ _ => ?_; simp [-getElem?_pos, List.getElem?_cons_zero, List.getElem?_cons_succ, List.getElem?_nil, hl]) | (refine AWp.ret ?_; try simp only [thenP]) | (refine AWp.skip ?_; try simp only [thenP]) | (refine AWp.exit ?_; try simp only [thenP]) | (with_reducible refine BB.go ?_; simp only [blockP, thenP, if_true, if_false, reduceIte]) | (refine AWp.draws tabOk (by kernel_rfl) (by kernel_rfl) ?_; simp [-getElem?_pos, List.getElem?_cons_zero, List.getElem?_cons_succ, List.getElem?_nil, hl]) | (with_reducible refine And.intro (show okLog _ _ = true from by kernel_rfl) ?_))
  refine Exec0.callE h1c rfl (by simp [-getElem?_pos, recD]) rfl (by simp [-getElem?_pos, List.getElem?_cons_zero, List.getElem?_cons_succ, List.getElem?_nil, recD]) (AllFrz_mk (by simp [Blk.frz])) ?_; rintro _ ⟨m, ways, rfl, ok⟩; simp [-getElem?_pos, List.getElem?_cons_zero, List.getElem?_cons_succ, List.getElem?_nil, recD]
  have e1 := N.e1
  have e2 := N.e2
  repeat (first | (with_reducible refine AWp.seqK fun _ => ?_) | (with_reducible refine AWp.blockK fun _ => ?_) | (with_reducible refine KK.go ?_) | (refine AWp.reg tabOk ?_; simp [-getElem?_pos, List.getElem?_cons_zero, List.getElem?_cons_succ, List.getElem?_nil, wa, wl, wb, wh, e1, e2]) | (refine AWp.condK fun _ _ => ?_; simp [-getElem?_pos, List.getElem?_cons_zero, List.getElem?_cons_succ, List.getElem?_nil, wa, wl, wb, wh, e1, e2]) | (refine AWp.ret ?_; try simp only [thenP]) | (refine AWp.skip ?_; try simp only [thenP]) | (refine AWp.exit ?_; try simp only [thenP]) | (with_reducible refine BB.go ?_; simp only [blockP, thenP, if_true, if_false, reduceIte]) | (refine AWp.draws tabOk (by kernel_rfl) (by kernel_rfl) ?_; simp [-getElem?_pos, List.getElem?_cons_zero, List.getElem?_cons_succ, List.getElem?_nil, wa, wl, wb, wh, e1, e2]) | (with_reducible refine And.intro (show okLog _ _ = true from by kernel_rfl) ?_))
  obtain ⟨M, hM⟩ : ∃ n : Nat, n = totN x lo hi := ⟨_, rfl⟩
  obtain ⟨M', hM'⟩ : ∃ n : Nat, n = totN x lo' hi' := ⟨_, rfl⟩
  have c1 := count_c x lo hi
  have c2 := count_c x lo' hi'
  rw [N.mak hgb, if_pos rfl, ← hM] at c1
  rw [N.mak' hgb, if_pos rfl, ← hM'] at c2
  have hMM : ¬ (M : Int) < (M' : Int) := by
    have := totN_wide (x := x) N.le1 N.le2
    omega
  first | (refine Exec0.call [] c1 (by simp [-getElem?_pos, ]) rfl (by simp [-getElem?_pos, List.getElem?_cons_zero, List.getElem?_cons_succ, List.getElem?_nil, ]) ?_; simp [-getElem?_pos, List.getElem?_cons_zero, List.getElem?_cons_succ, List.getElem?_nil, ]) | (refine Exec.call [] c1 (by simp [-getElem?_pos, ]) rfl (by simp [-getElem?_pos, List.getElem?_cons_zero, List.getElem?_cons_succ, List.getElem?_nil, ]) ?_; simp [-getElem?_pos, List.getElem?_cons_zero, List.getElem?_cons_succ, List.getElem?_nil, ])
  repeat (first | (with_reducible refine AWp.seqK fun _ => ?_) | (with_reducible refine AWp.blockK fun _ => ?_) | (with_reducible refine KK.go ?_) | (refine AWp.reg tabOk ?_; simp [-getElem?_pos, List.getElem?_cons_zero, List.getElem?_cons_succ, List.getElem?_nil, ]) | (refine AWp.condK fun _ _ => ?_; simp [-getElem?_pos, List.getElem?_cons_zero, List.getElem?_cons_succ, List.getElem?_nil, ]) | (refine AWp.ret ?_; try simp only [thenP]) | (refine AWp.skip ?_; try simp only [thenP]) | (refine AWp.exit ?_; try simp only [thenP]) | (with_reducible refine BB.go ?_; simp only [blockP, thenP, if_true, if_false, reduceIte]) | (refine AWp.draws tabOk (by kernel_rfl) (by kernel_rfl) ?_; simp [-getElem?_pos, List.getElem?_cons_zero, List.getElem?_cons_succ, List.getElem?_nil, ]) | (with_reducible refine And.intro (show okLog _ _ = true from by kernel_rfl) ?_))
  first | (refine Exec0.call [] c2 (by simp [-getElem?_pos, ]) rfl (by simp [-getElem?_pos, List.getElem?_cons_zero, List.getElem?_cons_succ, List.getElem?_nil, ]) ?_; simp [-getElem?_pos, List.getElem?_cons_zero, List.getElem?_cons_succ, List.getElem?_nil, ]) | (refine Exec.call [] c2 (by simp [-getElem?_pos, ]) rfl (by simp [-getElem?_pos, List.getElem?_cons_zero, List.getElem?_cons_succ, List.getElem?_nil, ]) ?_; simp [-getElem?_pos, List.getElem?_cons_zero, List.getElem?_cons_succ, List.getElem?_nil, ])
  repeat (first | (with_reducible refine AWp.seqK fun _ => ?_) | (with_reducible refine AWp.blockK fun _ => ?_) | (with_reducible refine KK.go ?_) | (refine AWp.reg tabOk ?_; simp [-getElem?_pos, List.getElem?_cons_zero, List.getElem?_cons_succ, List.getElem?_nil, ]) | (refine AWp.condK fun _ _ => ?_; simp [-getElem?_pos, List.getElem?_cons_zero, List.getElem?_cons_succ, List.getElem?_nil, ]) | (refine AWp.ret ?_; try simp only [thenP]) | (refine AWp.skip ?_; try simp only [thenP]) | (refine AWp.exit ?_; try simp only [thenP]) | (with_reducible refine BB.go ?_; simp only [blockP, thenP, if_true, if_false, reduceIte]) | (refine AWp.draws tabOk (by kernel_rfl) (by kernel_rfl) ?_; simp [-getElem?_pos, List.getElem?_cons_zero, List.getElem?_cons_succ, List.getElem?_nil, ]) | (with_reducible refine And.intro (show okLog _ _ = true from by kernel_rfl) ?_))
  have c3 := had_c x m ways lo hi
  have c4 := had_c x m ways lo' hi'
  rw [agrErr_ok ok hhb] at c3
  rw [agrErr_ok ok N.hard'] at c4
  rename_i k10
  refine KK.plan3 k10 3 [(4, .ptr 0 0 0), (6, .ptr 1 0 0), (10, .ptr 2 0 0), (11, .d (iD M)), (13, .d (iD M'))] [(0, .box 25 [.d (.list (rgRows x.bars)), .d (.list (stepRows x.steps))] true), (1, .box 33 [.d (iD lo), .d (iD hi)] true), (2, .box 33 [.d (iD lo'), .d (iD hi')] false)] ?_ fun hrest => ?_
  · refine AWp.frost ?_
    simp only [List.map_cons, List.map_nil, frzB]
    have b1 := bars_s x lo hi
    have b2 := bars_s x lo' hi'
    have w1 := ways_c x lo hi
    have w2 := ways_c x lo' hi'
    have a1 := ask_c x lo hi
    have a2 := ask_c x lo' hi'
    have e : ∀ lo hi, ((List.range x.steps.length).map fun (i : Nat) => leftN x lo hi i) = leftRows x lo hi x.steps.length := fun _ _ => rfl
    rw [e] at w1 w2
    unfold askD at a1 a2
    rw [someE_ok (N.mak hgb), ← hM] at b1 w1 a1
    rw [someE_ok (N.mak' hgb), ← hM'] at b2 w2 a2
    by_cases hs : M' = 0
    · rw [if_pos hs] at b2 w2 a2
      have b2 : ACall Try.prog 33 [worksD x, rgD lo' hi'] (.tup [.list [], iD 17]) := b2
      have w2 : WCall Try.prog 35 [worksD x, rgD lo' hi'] (.tup [.list [], iD 17]) := w2
      have a2 : ACall Try.prog 41 [worksD x, rgD lo' hi'] (.tup [iD 0, iD 0, iD 17]) := a2
      subst hs
      by_cases hs0 : M = 0
      · rw [if_pos hs0] at b1 w1 a1
        have b1 : ACall Try.prog 33 [worksD x, rgD lo hi] (.tup [.list [], iD 17]) := b1
        have w1 : WCall Try.prog 35 [worksD x, rgD lo hi] (.tup [.list [], iD 17]) := w1
        have a1 : ACall Try.prog 41 [worksD x, rgD lo hi] (.tup [iD 0, iD 0, iD 17]) := a1
        subst hs0
        repeat (first | (with_reducible refine AWp.seqK fun _ => ?_) | (with_reducible refine AWp.blockK fun _ => ?_) | (with_reducible refine KK.go ?_) | (refine AWp.reg tabOk ?_; simp [-getElem?_pos, List.getElem?_cons_zero, List.getElem?_cons_succ, List.getElem?_nil, ]) | (refine AWp.condK fun _ _ => ?_; simp [-getElem?_pos, List.getElem?_cons_zero, List.getElem?_cons_succ, List.getElem?_nil, ]) | (refine AWp.ret ?_; try simp only [thenP]) | (refine AWp.skip ?_; try simp only [thenP]) | (refine AWp.exit ?_; try simp only [thenP]) | (with_reducible refine BB.go ?_; simp only [blockP, thenP, if_true, if_false, reduceIte]) | (refine AWp.draws tabOk (by kernel_rfl) (by kernel_rfl) ?_; simp [-getElem?_pos, List.getElem?_cons_zero, List.getElem?_cons_succ, List.getElem?_nil, ]) | (with_reducible refine And.intro (show okLog _ _ = true from by kernel_rfl) ?_))
        first | (refine Exec0.call [] b1 (by simp [-getElem?_pos, ]) rfl (by simp [-getElem?_pos, List.getElem?_cons_zero, List.getElem?_cons_succ, List.getElem?_nil, ]) ?_; simp [-getElem?_pos, List.getElem?_cons_zero, List.getElem?_cons_succ, List.getElem?_nil, ]) | (refine Exec.call [] b1 (by simp [-getElem?_pos, ]) rfl (by simp [-getElem?_pos, List.getElem?_cons_zero, List.getElem?_cons_succ, List.getElem?_nil, ]) ?_; simp [-getElem?_pos, List.getElem?_cons_zero, List.getElem?_cons_succ, List.getElem?_nil, ])
        repeat (first | (with_reducible refine AWp.seqK fun _ => ?_) | (with_reducible refine AWp.blockK fun _ => ?_) | (with_reducible refine KK.go ?_) | (refine AWp.reg tabOk ?_; simp [-getElem?_pos, List.getElem?_cons_zero, List.getElem?_cons_succ, List.getElem?_nil, ]) | (refine AWp.condK fun _ _ => ?_; simp [-getElem?_pos, List.getElem?_cons_zero, List.getElem?_cons_succ, List.getElem?_nil, ]) | (refine AWp.ret ?_; try simp only [thenP]) | (refine AWp.skip ?_; try simp only [thenP]) | (refine AWp.exit ?_; try simp only [thenP]) | (with_reducible refine BB.go ?_; simp only [blockP, thenP, if_true, if_false, reduceIte]) | (refine AWp.draws tabOk (by kernel_rfl) (by kernel_rfl) ?_; simp [-getElem?_pos, List.getElem?_cons_zero, List.getElem?_cons_succ, List.getElem?_nil, ]) | (with_reducible refine And.intro (show okLog _ _ = true from by kernel_rfl) ?_))
        first | (refine Exec0.call [] b2 (by simp [-getElem?_pos, ]) rfl (by simp [-getElem?_pos, List.getElem?_cons_zero, List.getElem?_cons_succ, List.getElem?_nil, ]) ?_; simp [-getElem?_pos, List.getElem?_cons_zero, List.getElem?_cons_succ, List.getElem?_nil, ]) | (refine Exec.call [] b2 (by simp [-getElem?_pos, ]) rfl (by simp [-getElem?_pos, List.getElem?_cons_zero, List.getElem?_cons_succ, List.getElem?_nil, ]) ?_; simp [-getElem?_pos, List.getElem?_cons_zero, List.getElem?_cons_succ, List.getElem?_nil, ])
        repeat (first | (with_reducible refine AWp.seqK fun _ => ?_) | (with_reducible refine AWp.blockK fun _ => ?_) | (with_reducible refine KK.go ?_) | (refine AWp.reg tabOk ?_; simp [-getElem?_pos, List.getElem?_cons_zero, List.getElem?_cons_succ, List.getElem?_nil, ]) | (refine AWp.condK fun _ _ => ?_; simp [-getElem?_pos, List.getElem?_cons_zero, List.getElem?_cons_succ, List.getElem?_nil, ]) | (refine AWp.ret ?_; try simp only [thenP]) | (refine AWp.skip ?_; try simp only [thenP]) | (refine AWp.exit ?_; try simp only [thenP]) | (with_reducible refine BB.go ?_; simp only [blockP, thenP, if_true, if_false, reduceIte]) | (refine AWp.draws tabOk (by kernel_rfl) (by kernel_rfl) ?_; simp [-getElem?_pos, List.getElem?_cons_zero, List.getElem?_cons_succ, List.getElem?_nil, ]) | (with_reducible refine And.intro (show okLog _ _ = true from by kernel_rfl) ?_))
        refine Exec0.callW w1 rfl (by simp [-getElem?_pos, ]) rfl (by simp [-getElem?_pos, List.getElem?_cons_zero, List.getElem?_cons_succ, List.getElem?_nil, ]) (AllFrz_mk (by simp [Blk.frz])) ?_; simp [-getElem?_pos, List.getElem?_cons_zero, List.getElem?_cons_succ, List.getElem?_nil, ]
        repeat (first | (with_reducible refine AWp.seqK fun _ => ?_) | (with_reducible refine AWp.blockK fun _ => ?_) | (with_reducible refine KK.go ?_) | (refine AWp.reg tabOk ?_; simp [-getElem?_pos, List.getElem?_cons_zero, List.getElem?_cons_succ, List.getElem?_nil, ]) | (refine AWp.condK fun _ _ => ?_; simp [-getElem?_pos, List.getElem?_cons_zero, List.getElem?_cons_succ, List.getElem?_nil, ]) | (refine AWp.ret ?_; try simp only [thenP]) | (refine AWp.skip ?_; try simp only [thenP]) | (refine AWp.exit ?_; try simp only [thenP]) | (with_reducible refine BB.go ?_; simp only [blockP, thenP, if_true, if_false, reduceIte]) | (refine AWp.draws tabOk (by kernel_rfl) (by kernel_rfl) ?_; simp [-getElem?_pos, List.getElem?_cons_zero, List.getElem?_cons_succ, List.getElem?_nil, ]) | (with_reducible refine And.intro (show okLog _ _ = true from by kernel_rfl) ?_))
        refine Exec0.callW w2 rfl (by simp [-getElem?_pos, ]) rfl (by simp [-getElem?_pos, List.getElem?_cons_zero, List.getElem?_cons_succ, List.getElem?_nil, ]) (AllFrz_mk (by simp [Blk.frz])) ?_; simp [-getElem?_pos, List.getElem?_cons_zero, List.getElem?_cons_succ, List.getElem?_nil, ]
        repeat (first | (with_reducible refine AWp.seqK fun _ => ?_) | (with_reducible refine AWp.blockK fun _ => ?_) | (with_reducible refine KK.go ?_) | (refine AWp.reg tabOk ?_; simp [-getElem?_pos, List.getElem?_cons_zero, List.getElem?_cons_succ, List.getElem?_nil, ]) | (refine AWp.condK fun _ _ => ?_; simp [-getElem?_pos, List.getElem?_cons_zero, List.getElem?_cons_succ, List.getElem?_nil, ]) | (refine AWp.ret ?_; try simp only [thenP]) | (refine AWp.skip ?_; try simp only [thenP]) | (refine AWp.exit ?_; try simp only [thenP]) | (with_reducible refine BB.go ?_; simp only [blockP, thenP, if_true, if_false, reduceIte]) | (refine AWp.draws tabOk (by kernel_rfl) (by kernel_rfl) ?_; simp [-getElem?_pos, List.getElem?_cons_zero, List.getElem?_cons_succ, List.getElem?_nil, ]) | (with_reducible refine And.intro (show okLog _ _ = true from by kernel_rfl) ?_))
        first | (refine Exec0.call [] a1 (by simp [-getElem?_pos, ]) rfl (by simp [-getElem?_pos, List.getElem?_cons_zero, List.getElem?_cons_succ, List.getElem?_nil, ]) ?_; simp [-getElem?_pos, List.getElem?_cons_zero, List.getElem?_cons_succ, List.getElem?_nil, ]) | (refine Exec.call [] a1 (by simp [-getElem?_pos, ]) rfl (by simp [-getElem?_pos, List.getElem?_cons_zero, List.getElem?_cons_succ, List.getElem?_nil, ]) ?_; simp [-getElem?_pos, List.getElem?_cons_zero, List.getElem?_cons_succ, List.getElem?_nil, ])
        repeat (first | (with_reducible refine AWp.seqK fun _ => ?_) | (with_reducible refine AWp.blockK fun _ => ?_) | (with_reducible refine KK.go ?_) | (refine AWp.reg tabOk ?_; simp [-getElem?_pos, List.getElem?_cons_zero, List.getElem?_cons_succ, List.getElem?_nil, ]) | (refine AWp.condK fun _ _ => ?_; simp [-getElem?_pos, List.getElem?_cons_zero, List.getElem?_cons_succ, List.getElem?_nil, ]) | (refine AWp.ret ?_; try simp only [thenP]) | (refine AWp.skip ?_; try simp only [thenP]) | (refine AWp.exit ?_; try simp only [thenP]) | (with_reducible refine BB.go ?_; simp only [blockP, thenP, if_true, if_false, reduceIte]) | (refine AWp.draws tabOk (by kernel_rfl) (by kernel_rfl) ?_; simp [-getElem?_pos, List.getElem?_cons_zero, List.getElem?_cons_succ, List.getElem?_nil, ]) | (with_reducible refine And.intro (show okLog _ _ = true from by kernel_rfl) ?_))
        first | (refine Exec0.call [] a2 (by simp [-getElem?_pos, ]) rfl (by simp [-getElem?_pos, List.getElem?_cons_zero, List.getElem?_cons_succ, List.getElem?_nil, ]) ?_; simp [-getElem?_pos, List.getElem?_cons_zero, List.getElem?_cons_succ, List.getElem?_nil, ]) | (refine Exec.call [] a2 (by simp [-getElem?_pos, ]) rfl (by simp [-getElem?_pos, List.getElem?_cons_zero, List.getElem?_cons_succ, List.getElem?_nil, ]) ?_; simp [-getElem?_pos, List.getElem?_cons_zero, List.getElem?_cons_succ, List.getElem?_nil, ])
        repeat (first | (with_reducible refine AWp.seqK fun _ => ?_) | (with_reducible refine AWp.blockK fun _ => ?_) | (with_reducible refine KK.go ?_) | (refine AWp.reg tabOk ?_; simp [-getElem?_pos, List.getElem?_cons_zero, List.getElem?_cons_succ, List.getElem?_nil, ]) | (refine AWp.condK fun _ _ => ?_; simp [-getElem?_pos, List.getElem?_cons_zero, List.getElem?_cons_succ, List.getElem?_nil, ]) | (refine AWp.ret ?_; try simp only [thenP]) | (refine AWp.skip ?_; try simp only [thenP]) | (refine AWp.exit ?_; try simp only [thenP]) | (with_reducible refine BB.go ?_; simp only [blockP, thenP, if_true, if_false, reduceIte]) | (refine AWp.draws tabOk (by kernel_rfl) (by kernel_rfl) ?_; simp [-getElem?_pos, List.getElem?_cons_zero, List.getElem?_cons_succ, List.getElem?_nil, ]) | (with_reducible refine And.intro (show okLog _ _ = true from by kernel_rfl) ?_))
        first | (refine Exec0.call [] hw (by simp [-getElem?_pos, ]) rfl (by simp [-getElem?_pos, List.getElem?_cons_zero, List.getElem?_cons_succ, List.getElem?_nil, ]) ?_; simp [-getElem?_pos, List.getElem?_cons_zero, List.getElem?_cons_succ, List.getElem?_nil, ]) | (refine Exec.call [] hw (by simp [-getElem?_pos, ]) rfl (by simp [-getElem?_pos, List.getElem?_cons_zero, List.getElem?_cons_succ, List.getElem?_nil, ]) ?_; simp [-getElem?_pos, List.getElem?_cons_zero, List.getElem?_cons_succ, List.getElem?_nil, ])
        repeat (first | (with_reducible refine AWp.seqK fun _ => ?_) | (with_reducible refine AWp.blockK fun _ => ?_) | (with_reducible refine KK.go ?_) | (refine AWp.reg tabOk ?_; simp [-getElem?_pos, List.getElem?_cons_zero, List.getElem?_cons_succ, List.getElem?_nil, ]) | (refine AWp.condK fun _ _ => ?_; simp [-getElem?_pos, List.getElem?_cons_zero, List.getElem?_cons_succ, List.getElem?_nil, ]) | (refine AWp.ret ?_; try simp only [thenP]) | (refine AWp.skip ?_; try simp only [thenP]) | (refine AWp.exit ?_; try simp only [thenP]) | (with_reducible refine BB.go ?_; simp only [blockP, thenP, if_true, if_false, reduceIte]) | (refine AWp.draws tabOk (by kernel_rfl) (by kernel_rfl) ?_; simp [-getElem?_pos, List.getElem?_cons_zero, List.getElem?_cons_succ, List.getElem?_nil, ]) | (with_reducible refine And.intro (show okLog _ _ = true from by kernel_rfl) ?_))
        (first | refine RR.ret ?_ | refine RR.normal ?_); simp []
      · rw [if_neg hs0] at b1 w1 a1
        have b1 : ACall Try.prog 33 [worksD x, rgD lo hi] (.tup [intL (leftN x lo hi (-1)), iD 0]) := b1
        have w1 : WCall Try.prog 35 [worksD x, rgD lo hi] (.tup [.list (listRows (leftRows x lo hi x.steps.length)), iD 0]) := w1
        have a1 : ACall Try.prog 41 [worksD x, rgD lo hi] (.tup [iD ((askAt x lo hi : Int) - 1), iD (askLeft x lo hi), iD 0]) := a1
        have hMp : 0 < M := by omega
        repeat (first | (with_reducible refine AWp.seqK fun _ => ?_) | (with_reducible refine AWp.blockK fun _ => ?_) | (with_reducible refine KK.go ?_) | (refine AWp.reg tabOk ?_; simp [-getElem?_pos, List.getElem?_cons_zero, List.getElem?_cons_succ, List.getElem?_nil, ]) | (refine AWp.condK fun _ _ => ?_; simp [-getElem?_pos, List.getElem?_cons_zero, List.getElem?_cons_succ, List.getElem?_nil, ]) | (refine AWp.ret ?_; try simp only [thenP]) | (refine AWp.skip ?_; try simp only [thenP]) | (refine AWp.exit ?_; try simp only [thenP]) | (with_reducible refine BB.go ?_; simp only [blockP, thenP, if_true, if_false, reduceIte]) | (refine AWp.draws tabOk (by kernel_rfl) (by kernel_rfl) ?_; simp [-getElem?_pos, List.getElem?_cons_zero, List.getElem?_cons_succ, List.getElem?_nil, ]) | (with_reducible refine And.intro (show okLog _ _ = true from by kernel_rfl) ?_))
        first | (refine Exec0.call [] b1 (by simp [-getElem?_pos, ]) rfl (by simp [-getElem?_pos, List.getElem?_cons_zero, List.getElem?_cons_succ, List.getElem?_nil, ]) ?_; simp [-getElem?_pos, List.getElem?_cons_zero, List.getElem?_cons_succ, List.getElem?_nil, ]) | (refine Exec.call [] b1 (by simp [-getElem?_pos, ]) rfl (by simp [-getElem?_pos, List.getElem?_cons_zero, List.getElem?_cons_succ, List.getElem?_nil, ]) ?_; simp [-getElem?_pos, List.getElem?_cons_zero, List.getElem?_cons_succ, List.getElem?_nil, ])
        repeat (first | (with_reducible refine AWp.seqK fun _ => ?_) | (with_reducible refine AWp.blockK fun _ => ?_) | (with_reducible refine KK.go ?_) | (refine AWp.reg tabOk ?_; simp [-getElem?_pos, List.getElem?_cons_zero, List.getElem?_cons_succ, List.getElem?_nil, ]) | (refine AWp.condK fun _ _ => ?_; simp [-getElem?_pos, List.getElem?_cons_zero, List.getElem?_cons_succ, List.getElem?_nil, ]) | (refine AWp.ret ?_; try simp only [thenP]) | (refine AWp.skip ?_; try simp only [thenP]) | (refine AWp.exit ?_; try simp only [thenP]) | (with_reducible refine BB.go ?_; simp only [blockP, thenP, if_true, if_false, reduceIte]) | (refine AWp.draws tabOk (by kernel_rfl) (by kernel_rfl) ?_; simp [-getElem?_pos, List.getElem?_cons_zero, List.getElem?_cons_succ, List.getElem?_nil, ]) | (with_reducible refine And.intro (show okLog _ _ = true from by kernel_rfl) ?_))
        first | (refine Exec0.call [] b2 (by simp [-getElem?_pos, ]) rfl (by simp [-getElem?_pos, List.getElem?_cons_zero, List.getElem?_cons_succ, List.getElem?_nil, ]) ?_; simp [-getElem?_pos, List.getElem?_cons_zero, List.getElem?_cons_succ, List.getElem?_nil, ]) | (refine Exec.call [] b2 (by simp [-getElem?_pos, ]) rfl (by simp [-getElem?_pos, List.getElem?_cons_zero, List.getElem?_cons_succ, List.getElem?_nil, ]) ?_; simp [-getElem?_pos, List.getElem?_cons_zero, List.getElem?_cons_succ, List.getElem?_nil, ])
        repeat (first | (with_reducible refine AWp.seqK fun _ => ?_) | (with_reducible refine AWp.blockK fun _ => ?_) | (with_reducible refine KK.go ?_) | (refine AWp.reg tabOk ?_; simp [-getElem?_pos, List.getElem?_cons_zero, List.getElem?_cons_succ, List.getElem?_nil, ]) | (refine AWp.condK fun _ _ => ?_; simp [-getElem?_pos, List.getElem?_cons_zero, List.getElem?_cons_succ, List.getElem?_nil, ]) | (refine AWp.ret ?_; try simp only [thenP]) | (refine AWp.skip ?_; try simp only [thenP]) | (refine AWp.exit ?_; try simp only [thenP]) | (with_reducible refine BB.go ?_; simp only [blockP, thenP, if_true, if_false, reduceIte]) | (refine AWp.draws tabOk (by kernel_rfl) (by kernel_rfl) ?_; simp [-getElem?_pos, List.getElem?_cons_zero, List.getElem?_cons_succ, List.getElem?_nil, ]) | (with_reducible refine And.intro (show okLog _ _ = true from by kernel_rfl) ?_))
        refine Exec0.callW w1 rfl (by simp [-getElem?_pos, ]) rfl (by simp [-getElem?_pos, List.getElem?_cons_zero, List.getElem?_cons_succ, List.getElem?_nil, ]) (AllFrz_mk (by simp [Blk.frz])) ?_; simp [-getElem?_pos, List.getElem?_cons_zero, List.getElem?_cons_succ, List.getElem?_nil, ]
        repeat (first | (with_reducible refine AWp.seqK fun _ => ?_) | (with_reducible refine AWp.blockK fun _ => ?_) | (with_reducible refine KK.go ?_) | (refine AWp.reg tabOk ?_; simp [-getElem?_pos, List.getElem?_cons_zero, List.getElem?_cons_succ, List.getElem?_nil, ]) | (refine AWp.condK fun _ _ => ?_; simp [-getElem?_pos, List.getElem?_cons_zero, List.getElem?_cons_succ, List.getElem?_nil, ]) | (refine AWp.ret ?_; try simp only [thenP]) | (refine AWp.skip ?_; try simp only [thenP]) | (refine AWp.exit ?_; try simp only [thenP]) | (with_reducible refine BB.go ?_; simp only [blockP, thenP, if_true, if_false, reduceIte]) | (refine AWp.draws tabOk (by kernel_rfl) (by kernel_rfl) ?_; simp [-getElem?_pos, List.getElem?_cons_zero, List.getElem?_cons_succ, List.getElem?_nil, ]) | (with_reducible refine And.intro (show okLog _ _ = true from by kernel_rfl) ?_))
        refine Exec0.callW w2 rfl (by simp [-getElem?_pos, ]) rfl (by simp [-getElem?_pos, List.getElem?_cons_zero, List.getElem?_cons_succ, List.getElem?_nil, ]) (AllFrz_mk (by simp [Blk.frz])) ?_; simp [-getElem?_pos, List.getElem?_cons_zero, List.getElem?_cons_succ, List.getElem?_nil, ]
        repeat (first | (with_reducible refine AWp.seqK fun _ => ?_) | (with_reducible refine AWp.blockK fun _ => ?_) | (with_reducible refine KK.go ?_) | (refine AWp.reg tabOk ?_; simp [-getElem?_pos, List.getElem?_cons_zero, List.getElem?_cons_succ, List.getElem?_nil, ]) | (refine AWp.condK fun _ _ => ?_; simp [-getElem?_pos, List.getElem?_cons_zero, List.getElem?_cons_succ, List.getElem?_nil, ]) | (refine AWp.ret ?_; try simp only [thenP]) | (refine AWp.skip ?_; try simp only [thenP]) | (refine AWp.exit ?_; try simp only [thenP]) | (with_reducible refine BB.go ?_; simp only [blockP, thenP, if_true, if_false, reduceIte]) | (refine AWp.draws tabOk (by kernel_rfl) (by kernel_rfl) ?_; simp [-getElem?_pos, List.getElem?_cons_zero, List.getElem?_cons_succ, List.getElem?_nil, ]) | (with_reducible refine And.intro (show okLog _ _ = true from by kernel_rfl) ?_))
        first | (refine Exec0.call [] a1 (by simp [-getElem?_pos, ]) rfl (by simp [-getElem?_pos, List.getElem?_cons_zero, List.getElem?_cons_succ, List.getElem?_nil, ]) ?_; simp [-getElem?_pos, List.getElem?_cons_zero, List.getElem?_cons_succ, List.getElem?_nil, ]) | (refine Exec.call [] a1 (by simp [-getElem?_pos, ]) rfl (by simp [-getElem?_pos, List.getElem?_cons_zero, List.getElem?_cons_succ, List.getElem?_nil, ]) ?_; simp [-getElem?_pos, List.getElem?_cons_zero, List.getElem?_cons_succ, List.getElem?_nil, ])
        repeat (first | (with_reducible refine AWp.seqK fun _ => ?_) | (with_reducible refine AWp.blockK fun _ => ?_) | (with_reducible refine KK.go ?_) | (refine AWp.reg tabOk ?_; simp [-getElem?_pos, List.getElem?_cons_zero, List.getElem?_cons_succ, List.getElem?_nil, ]) | (refine AWp.condK fun _ _ => ?_; simp [-getElem?_pos, List.getElem?_cons_zero, List.getElem?_cons_succ, List.getElem?_nil, ]) | (refine AWp.ret ?_; try simp only [thenP]) | (refine AWp.skip ?_; try simp only [thenP]) | (refine AWp.exit ?_; try simp only [thenP]) | (with_reducible refine BB.go ?_; simp only [blockP, thenP, if_true, if_false, reduceIte]) | (refine AWp.draws tabOk (by kernel_rfl) (by kernel_rfl) ?_; simp [-getElem?_pos, List.getElem?_cons_zero, List.getElem?_cons_succ, List.getElem?_nil, ]) | (with_reducible refine And.intro (show okLog _ _ = true from by kernel_rfl) ?_))
        first | (refine Exec0.call [] a2 (by simp [-getElem?_pos, ]) rfl (by simp [-getElem?_pos, List.getElem?_cons_zero, List.getElem?_cons_succ, List.getElem?_nil, ]) ?_; simp [-getElem?_pos, List.getElem?_cons_zero, List.getElem?_cons_succ, List.getElem?_nil, ]) | (refine Exec.call [] a2 (by simp [-getElem?_pos, ]) rfl (by simp [-getElem?_pos, List.getElem?_cons_zero, List.getElem?_cons_succ, List.getElem?_nil, ]) ?_; simp [-getElem?_pos, List.getElem?_cons_zero, List.getElem?_cons_succ, List.getElem?_nil, ])
        by_cases hp : leftRows x lo hi x.steps.length = []
        · repeat (first | (with_reducible refine AWp.seqK fun _ => ?_) | (with_reducible refine AWp.blockK fun _ => ?_) | (with_reducible refine KK.go ?_) | (refine AWp.reg tabOk ?_; simp [-getElem?_pos, List.getElem?_cons_zero, List.getElem?_cons_succ, List.getElem?_nil, hMp, hp]) | (refine AWp.condK fun _ _ => ?_; simp [-getElem?_pos, List.getElem?_cons_zero, List.getElem?_cons_succ, List.getElem?_nil, hMp, hp]) | (refine AWp.ret ?_; try simp only [thenP]) | (refine AWp.skip ?_; try simp only [thenP]) | (refine AWp.exit ?_; try simp only [thenP]) | (with_reducible refine BB.go ?_; simp only [blockP, thenP, if_true, if_false, reduceIte]) | (refine AWp.draws tabOk (by kernel_rfl) (by kernel_rfl) ?_; simp [-getElem?_pos, List.getElem?_cons_zero, List.getElem?_cons_succ, List.getElem?_nil, hMp, hp]) | (with_reducible refine And.intro (show okLog _ _ = true from by kernel_rfl) ?_))
          first | (refine Exec0.call [] hw (by simp [-getElem?_pos, ]) rfl (by simp [-getElem?_pos, List.getElem?_cons_zero, List.getElem?_cons_succ, List.getElem?_nil, ]) ?_; simp [-getElem?_pos, List.getElem?_cons_zero, List.getElem?_cons_succ, List.getElem?_nil, ]) | (refine Exec.call [] hw (by simp [-getElem?_pos, ]) rfl (by simp [-getElem?_pos, List.getElem?_cons_zero, List.getElem?_cons_succ, List.getElem?_nil, ]) ?_; simp [-getElem?_pos, List.getElem?_cons_zero, List.getElem?_cons_succ, List.getElem?_nil, ])
          repeat (first | (with_reducible refine AWp.seqK fun _ => ?_) | (with_reducible refine AWp.blockK fun _ => ?_) | (with_reducible refine KK.go ?_) | (refine AWp.reg tabOk ?_; simp [-getElem?_pos, List.getElem?_cons_zero, List.getElem?_cons_succ, List.getElem?_nil, ]) | (refine AWp.condK fun _ _ => ?_; simp [-getElem?_pos, List.getElem?_cons_zero, List.getElem?_cons_succ, List.getElem?_nil, ]) | (refine AWp.ret ?_; try simp only [thenP]) | (refine AWp.skip ?_; try simp only [thenP]) | (refine AWp.exit ?_; try simp only [thenP]) | (with_reducible refine BB.go ?_; simp only [blockP, thenP, if_true, if_false, reduceIte]) | (refine AWp.draws tabOk (by kernel_rfl) (by kernel_rfl) ?_; simp [-getElem?_pos, List.getElem?_cons_zero, List.getElem?_cons_succ, List.getElem?_nil, ]) | (with_reducible refine And.intro (show okLog _ _ = true from by kernel_rfl) ?_))
          (first | refine RR.ret ?_ | refine RR.normal ?_); simp []
        · repeat (first | (with_reducible refine AWp.seqK fun _ => ?_) | (with_reducible refine AWp.blockK fun _ => ?_) | (with_reducible refine KK.go ?_) | (refine AWp.reg tabOk ?_; simp [-getElem?_pos, List.getElem?_cons_zero, List.getElem?_cons_succ, List.getElem?_nil, hMp, hp]) | (refine AWp.condK fun _ _ => ?_; simp [-getElem?_pos, List.getElem?_cons_zero, List.getElem?_cons_succ, List.getElem?_nil, hMp, hp]) | (refine AWp.ret ?_; try simp only [thenP]) | (refine AWp.skip ?_; try simp only [thenP]) | (refine AWp.exit ?_; try simp only [thenP]) | (with_reducible refine BB.go ?_; simp only [blockP, thenP, if_true, if_false, reduceIte]) | (refine AWp.draws tabOk (by kernel_rfl) (by kernel_rfl) ?_; simp [-getElem?_pos, List.getElem?_cons_zero, List.getElem?_cons_succ, List.getElem?_nil, hMp, hp]) | (with_reducible refine And.intro (show okLog _ _ = true from by kernel_rfl) ?_))
          first | (refine Exec0.call [] hw (by simp [-getElem?_pos, ]) rfl (by simp [-getElem?_pos, List.getElem?_cons_zero, List.getElem?_cons_succ, List.getElem?_nil, ]) ?_; simp [-getElem?_pos, List.getElem?_cons_zero, List.getElem?_cons_succ, List.getElem?_nil, ]) | (refine Exec.call [] hw (by simp [-getElem?_pos, ]) rfl (by simp [-getElem?_pos, List.getElem?_cons_zero, List.getElem?_cons_succ, List.getElem?_nil, ]) ?_; simp [-getElem?_pos, List.getElem?_cons_zero, List.getElem?_cons_succ, List.getElem?_nil, ])
          repeat (first | (with_reducible refine AWp.seqK fun _ => ?_) | (with_reducible refine AWp.blockK fun _ => ?_) | (with_reducible refine KK.go ?_) | (refine AWp.reg tabOk ?_; simp [-getElem?_pos, List.getElem?_cons_zero, List.getElem?_cons_succ, List.getElem?_nil, ]) | (refine AWp.condK fun _ _ => ?_; simp [-getElem?_pos, List.getElem?_cons_zero, List.getElem?_cons_succ, List.getElem?_nil, ]) | (refine AWp.ret ?_; try simp only [thenP]) | (refine AWp.skip ?_; try simp only [thenP]) | (refine AWp.exit ?_; try simp only [thenP]) | (with_reducible refine BB.go ?_; simp only [blockP, thenP, if_true, if_false, reduceIte]) | (refine AWp.draws tabOk (by kernel_rfl) (by kernel_rfl) ?_; simp [-getElem?_pos, List.getElem?_cons_zero, List.getElem?_cons_succ, List.getElem?_nil, ]) | (with_reducible refine And.intro (show okLog _ _ = true from by kernel_rfl) ?_))
          (first | refine RR.ret ?_ | refine RR.normal ?_); simp []
    · have hs0 : ¬ M = 0 := by omega
      rw [if_neg hs0] at b1 w1 a1
      rw [if_neg hs] at b2 w2 a2
      have b1 : ACall Try.prog 33 [worksD x, rgD lo hi] (.tup [intL (leftN x lo hi (-1)), iD 0]) := b1
      have w1 : WCall Try.prog 35 [worksD x, rgD lo hi] (.tup [.list (listRows (leftRows x lo hi x.steps.length)), iD 0]) := w1
      have a1 : ACall Try.prog 41 [worksD x, rgD lo hi] (.tup [iD ((askAt x lo hi : Int) - 1), iD (askLeft x lo hi), iD 0]) := a1
      have b2 : ACall Try.prog 33 [worksD x, rgD lo' hi'] (.tup [intL (leftN x lo' hi' (-1)), iD 0]) := b2
      have w2 : WCall Try.prog 35 [worksD x, rgD lo' hi'] (.tup [.list (listRows (leftRows x lo' hi' x.steps.length)), iD 0]) := w2
      have a2 : ACall Try.prog 41 [worksD x, rgD lo' hi'] (.tup [iD ((askAt x lo' hi' : Int) - 1), iD (askLeft x lo' hi'), iD 0]) := a2
      have hMp : 0 < M := by omega
      have hMp' : 0 < M' := by omega
      have r1 := leftRows_len x lo hi x.steps.length
      have r2 := leftRows_len x lo' hi' x.steps.length
      repeat (first | (with_reducible refine AWp.seqK fun _ => ?_) | (with_reducible refine AWp.blockK fun _ => ?_) | (with_reducible refine KK.go ?_) | (refine AWp.reg tabOk ?_; simp [-getElem?_pos, List.getElem?_cons_zero, List.getElem?_cons_succ, List.getElem?_nil, ]) | (refine AWp.condK fun _ _ => ?_; simp [-getElem?_pos, List.getElem?_cons_zero, List.getElem?_cons_succ, List.getElem?_nil, ]) | (refine AWp.ret ?_; try simp only [thenP]) | (refine AWp.skip ?_; try simp only [thenP]) | (refine AWp.exit ?_; try simp only [thenP]) | (with_reducible refine BB.go ?_; simp only [blockP, thenP, if_true, if_false, reduceIte]) | (refine AWp.draws tabOk (by kernel_rfl) (by kernel_rfl) ?_; simp [-getElem?_pos, List.getElem?_cons_zero, List.getElem?_cons_succ, List.getElem?_nil, ]) | (with_reducible refine And.intro (show okLog _ _ = true from by kernel_rfl) ?_))
      first | (refine Exec0.call [] b1 (by simp [-getElem?_pos, ]) rfl (by simp [-getElem?_pos, List.getElem?_cons_zero, List.getElem?_cons_succ, List.getElem?_nil, ]) ?_; simp [-getElem?_pos, List.getElem?_cons_zero, List.getElem?_cons_succ, List.getElem?_nil, ]) | (refine Exec.call [] b1 (by simp [-getElem?_pos, ]) rfl (by simp [-getElem?_pos, List.getElem?_cons_zero, List.getElem?_cons_succ, List.getElem?_nil, ]) ?_; simp [-getElem?_pos, List.getElem?_cons_zero, List.getElem?_cons_succ, List.getElem?_nil, ])
      repeat (first | (with_reducible refine AWp.seqK fun _ => ?_) | (with_reducible refine AWp.blockK fun _ => ?_) | (with_reducible refine KK.go ?_) | (refine AWp.reg tabOk ?_; simp [-getElem?_pos, List.getElem?_cons_zero, List.getElem?_cons_succ, List.getElem?_nil, ]) | (refine AWp.condK fun _ _ => ?_; simp [-getElem?_pos, List.getElem?_cons_zero, List.getElem?_cons_succ, List.getElem?_nil, ]) | (refine AWp.ret ?_; try simp only [thenP]) | (refine AWp.skip ?_; try simp only [thenP]) | (refine AWp.exit ?_; try simp only [thenP]) | (with_reducible refine BB.go ?_; simp only [blockP, thenP, if_true, if_false, reduceIte]) | (refine AWp.draws tabOk (by kernel_rfl) (by kernel_rfl) ?_; simp [-getElem?_pos, List.getElem?_cons_zero, List.getElem?_cons_succ, List.getElem?_nil, ]) | (with_reducible refine And.intro (show okLog _ _ = true from by kernel_rfl) ?_))
      first | (refine Exec0.call [] b2 (by simp [-getElem?_pos, ]) rfl (by simp [-getElem?_pos, List.getElem?_cons_zero, List.getElem?_cons_succ, List.getElem?_nil, ]) ?_; simp [-getElem?_pos, List.getElem?_cons_zero, List.getElem?_cons_succ, List.getElem?_nil, ]) | (refine Exec.call [] b2 (by simp [-getElem?_pos, ]) rfl (by simp [-getElem?_pos, List.getElem?_cons_zero, List.getElem?_cons_succ, List.getElem?_nil, ]) ?_; simp [-getElem?_pos, List.getElem?_cons_zero, List.getElem?_cons_succ, List.getElem?_nil, ])
      repeat (first | (with_reducible refine AWp.seqK fun _ => ?_) | (with_reducible refine AWp.blockK fun _ => ?_) | (with_reducible refine KK.go ?_) | (refine AWp.reg tabOk ?_; simp [-getElem?_pos, List.getElem?_cons_zero, List.getElem?_cons_succ, List.getElem?_nil, ]) | (refine AWp.condK fun _ _ => ?_; simp [-getElem?_pos, List.getElem?_cons_zero, List.getElem?_cons_succ, List.getElem?_nil, ]) | (refine AWp.ret ?_; try simp only [thenP]) | (refine AWp.skip ?_; try simp only [thenP]) | (refine AWp.exit ?_; try simp only [thenP]) | (with_reducible refine BB.go ?_; simp only [blockP, thenP, if_true, if_false, reduceIte]) | (refine AWp.draws tabOk (by kernel_rfl) (by kernel_rfl) ?_; simp [-getElem?_pos, List.getElem?_cons_zero, List.getElem?_cons_succ, List.getElem?_nil, ]) | (with_reducible refine And.intro (show okLog _ _ = true from by kernel_rfl) ?_))
      refine Exec0.callW w1 rfl (by simp [-getElem?_pos, ]) rfl (by simp [-getElem?_pos, List.getElem?_cons_zero, List.getElem?_cons_succ, List.getElem?_nil, ]) (AllFrz_mk (by simp [Blk.frz])) ?_; simp [-getElem?_pos, List.getElem?_cons_zero, List.getElem?_cons_succ, List.getElem?_nil, ]
      repeat (first | (with_reducible refine AWp.seqK fun _ => ?_) | (with_reducible refine AWp.blockK fun _ => ?_) | (with_reducible refine KK.go ?_) | (refine AWp.reg tabOk ?_; simp [-getElem?_pos, List.getElem?_cons_zero, List.getElem?_cons_succ, List.getElem?_nil, ]) | (refine AWp.condK fun _ _ => ?_; simp [-getElem?_pos, List.getElem?_cons_zero, List.getElem?_cons_succ, List.getElem?_nil, ]) | (refine AWp.ret ?_; try simp only [thenP]) | (refine AWp.skip ?_; try simp only [thenP]) | (refine AWp.exit ?_; try simp only [thenP]) | (with_reducible refine BB.go ?_; simp only [blockP, thenP, if_true, if_false, reduceIte]) | (refine AWp.draws tabOk (by kernel_rfl) (by kernel_rfl) ?_; simp [-getElem?_pos, List.getElem?_cons_zero, List.getElem?_cons_succ, List.getElem?_nil, ]) | (with_reducible refine And.intro (show okLog _ _ = true from by kernel_rfl) ?_))
      refine Exec0.callW w2 rfl (by simp [-getElem?_pos, ]) rfl (by simp [-getElem?_pos, List.getElem?_cons_zero, List.getElem?_cons_succ, List.getElem?_nil, ]) (AllFrz_mk (by simp [Blk.frz])) ?_; simp [-getElem?_pos, List.getElem?_cons_zero, List.getElem?_cons_succ, List.getElem?_nil, ]
      repeat (first | (with_reducible refine AWp.seqK fun _ => ?_) | (with_reducible refine AWp.blockK fun _ => ?_) | (with_reducible refine KK.go ?_) | (refine AWp.reg tabOk ?_; simp [-getElem?_pos, List.getElem?_cons_zero, List.getElem?_cons_succ, List.getElem?_nil, ]) | (refine AWp.condK fun _ _ => ?_; simp [-getElem?_pos, List.getElem?_cons_zero, List.getElem?_cons_succ, List.getElem?_nil, ]) | (refine AWp.ret ?_; try simp only [thenP]) | (refine AWp.skip ?_; try simp only [thenP]) | (refine AWp.exit ?_; try simp only [thenP]) | (with_reducible refine BB.go ?_; simp only [blockP, thenP, if_true, if_false, reduceIte]) | (refine AWp.draws tabOk (by kernel_rfl) (by kernel_rfl) ?_; simp [-getElem?_pos, List.getElem?_cons_zero, List.getElem?_cons_succ, List.getElem?_nil, ]) | (with_reducible refine And.intro (show okLog _ _ = true from by kernel_rfl) ?_))
      first | (refine Exec0.call [] a1 (by simp [-getElem?_pos, ]) rfl (by simp [-getElem?_pos, List.getElem?_cons_zero, List.getElem?_cons_succ, List.getElem?_nil, ]) ?_; simp [-getElem?_pos, List.getElem?_cons_zero, List.getElem?_cons_succ, List.getElem?_nil, ]) | (refine Exec.call [] a1 (by simp [-getElem?_pos, ]) rfl (by simp [-getElem?_pos, List.getElem?_cons_zero, List.getElem?_cons_succ, List.getElem?_nil, ]) ?_; simp [-getElem?_pos, List.getElem?_cons_zero, List.getElem?_cons_succ, List.getElem?_nil, ])
      repeat (first | (with_reducible refine AWp.seqK fun _ => ?_) | (with_reducible refine AWp.blockK fun _ => ?_) | (with_reducible refine KK.go ?_) | (refine AWp.reg tabOk ?_; simp [-getElem?_pos, List.getElem?_cons_zero, List.getElem?_cons_succ, List.getElem?_nil, ]) | (refine AWp.condK fun _ _ => ?_; simp [-getElem?_pos, List.getElem?_cons_zero, List.getElem?_cons_succ, List.getElem?_nil, ]) | (refine AWp.ret ?_; try simp only [thenP]) | (refine AWp.skip ?_; try simp only [thenP]) | (refine AWp.exit ?_; try simp only [thenP]) | (with_reducible refine BB.go ?_; simp only [blockP, thenP, if_true, if_false, reduceIte]) | (refine AWp.draws tabOk (by kernel_rfl) (by kernel_rfl) ?_; simp [-getElem?_pos, List.getElem?_cons_zero, List.getElem?_cons_succ, List.getElem?_nil, ]) | (with_reducible refine And.intro (show okLog _ _ = true from by kernel_rfl) ?_))
      first | (refine Exec0.call [] a2 (by simp [-getElem?_pos, ]) rfl (by simp [-getElem?_pos, List.getElem?_cons_zero, List.getElem?_cons_succ, List.getElem?_nil, ]) ?_; simp [-getElem?_pos, List.getElem?_cons_zero, List.getElem?_cons_succ, List.getElem?_nil, ]) | (refine Exec.call [] a2 (by simp [-getElem?_pos, ]) rfl (by simp [-getElem?_pos, List.getElem?_cons_zero, List.getElem?_cons_succ, List.getElem?_nil, ]) ?_; simp [-getElem?_pos, List.getElem?_cons_zero, List.getElem?_cons_succ, List.getElem?_nil, ])
      have hask := ask_wide (x := x) N.le1 N.le2 (by rw [← hM']; exact hs)
      rw [← hM] at hask
      generalize askLeft x lo hi = big at *
      generalize askLeft x lo' hi' = small at *
      have f1 : small ≤ big := hask.1
      have f2 : 1 ≤ small := hask.2.1
      have f3 : big ≤ M := hask.2.2
      have hw0 := fineB_works hgb
      have hst : x.steps.length ≤ 6 := (manyOk_iff.1 (worksOk_iff.1 hw0).1).2.2.1
      have hin1 : ∀ y, y ∈ leftN x lo' hi' (-1) → y ∈ leftN x lo hi (-1) := fun y hy => left_wide N.le1 N.le2 (by omega) hy
      have len1 := left_len hw0 lo hi (t := -1) (by omega) (by omega)
      have len2 := left_len hw0 lo' hi' (t := -1) (by omega) (by omega)
      generalize leftN x lo hi (-1) = L1 at *
      generalize leftN x lo' hi' (-1) = L2 at *
      repeat (first | (with_reducible refine AWp.seqK fun _ => ?_) | (with_reducible refine AWp.blockK fun _ => ?_) | (with_reducible refine KK.go ?_) | (refine AWp.reg tabOk ?_; simp [-getElem?_pos, List.getElem?_cons_zero, List.getElem?_cons_succ, List.getElem?_nil, hMp, hMp', r1, r2]) | (refine AWp.condK fun _ _ => ?_; simp [-getElem?_pos, List.getElem?_cons_zero, List.getElem?_cons_succ, List.getElem?_nil, hMp, hMp', r1, r2]) | (refine AWp.ret ?_; try simp only [thenP]) | (refine AWp.skip ?_; try simp only [thenP]) | (refine AWp.exit ?_; try simp only [thenP]) | (with_reducible refine BB.go ?_; simp only [blockP, thenP, if_true, if_false, reduceIte]) | (refine AWp.draws tabOk (by kernel_rfl) (by kernel_rfl) ?_; simp [-getElem?_pos, List.getElem?_cons_zero, List.getElem?_cons_succ, List.getElem?_nil, hMp, hMp', r1, r2]) | (with_reducible refine And.intro (show okLog _ _ = true from by kernel_rfl) ?_))
      refine AWp.loopK (ι := { k : Nat // k ≤ L2.length }) (n := 0) (fun k => [(11, .d (iD M)), (20, .d (intL L1)), (21, .d (intL L2)), (22, .d (.list (listRows (leftRows x lo hi x.steps.length)))), (23, .d (.list (listRows (leftRows x lo' hi' x.steps.length)))), (25, .d (iD big)), (28, .d (iD small)), (30, .d (iD k.1))]) (fun _ => []) (fun k => L2.length - k.1) ⟨0, Nat.zero_le _⟩ [] ?_ ?_
      · refine ⟨by rfl, by simp [], by simp [or_imp, forall_and, ] <;> (try (intro _hne; simp [_hne])), by decide⟩
      rintro ⟨k, hk⟩ kk
      by_cases hlt : k < L2.length
      · obtain ⟨y, hy⟩ : ∃ y, L2[k]? = some y := ⟨_, List.getElem?_eq_getElem hlt⟩
        have ci := in_c L1 y len1
        rw [decide_eq_true (hin1 y (List.mem_of_getElem? hy))] at ci
        have wk : IntKind.i64.wrap ((k : Int) + 1) = (k : Int) + 1 := wrap64_in (by omega)
        repeat (first | (with_reducible refine AWp.seqK fun _ => ?_) | (with_reducible refine AWp.blockK fun _ => ?_) | (with_reducible refine KK.go ?_) | (refine AWp.reg tabOk ?_; simp [-getElem?_pos, List.getElem?_cons_zero, List.getElem?_cons_succ, List.getElem?_nil, hlt, hy]) | (refine AWp.condK fun _ _ => ?_; simp [-getElem?_pos, List.getElem?_cons_zero, List.getElem?_cons_succ, List.getElem?_nil, hlt, hy]) | (refine AWp.ret ?_; try simp only [thenP]) | (refine AWp.skip ?_; try simp only [thenP]) | (refine AWp.exit ?_; try simp only [thenP]) | (with_reducible refine BB.go ?_; simp only [blockP, thenP, if_true, if_false, reduceIte]) | (refine AWp.draws tabOk (by kernel_rfl) (by kernel_rfl) ?_; simp [-getElem?_pos, List.getElem?_cons_zero, List.getElem?_cons_succ, List.getElem?_nil, hlt, hy]) | (with_reducible refine And.intro (show okLog _ _ = true from by kernel_rfl) ?_))
        first | (refine Exec0.call [] ci (by simp [-getElem?_pos, ]) rfl (by simp [-getElem?_pos, List.getElem?_cons_zero, List.getElem?_cons_succ, List.getElem?_nil, ]) ?_; simp [-getElem?_pos, List.getElem?_cons_zero, List.getElem?_cons_succ, List.getElem?_nil, ]) | (refine Exec.call [] ci (by simp [-getElem?_pos, ]) rfl (by simp [-getElem?_pos, List.getElem?_cons_zero, List.getElem?_cons_succ, List.getElem?_nil, ]) ?_; simp [-getElem?_pos, List.getElem?_cons_zero, List.getElem?_cons_succ, List.getElem?_nil, ])
        repeat (first | (with_reducible refine AWp.seqK fun _ => ?_) | (with_reducible refine AWp.blockK fun _ => ?_) | (with_reducible refine KK.go ?_) | (refine AWp.reg tabOk ?_; simp [-getElem?_pos, List.getElem?_cons_zero, List.getElem?_cons_succ, List.getElem?_nil, wk]) | (refine AWp.condK fun _ _ => ?_; simp [-getElem?_pos, List.getElem?_cons_zero, List.getElem?_cons_succ, List.getElem?_nil, wk]) | (refine AWp.ret ?_; try simp only [thenP]) | (refine AWp.skip ?_; try simp only [thenP]) | (refine AWp.exit ?_; try simp only [thenP]) | (with_reducible refine BB.go ?_; simp only [blockP, thenP, if_true, if_false, reduceIte]) | (refine AWp.draws tabOk (by kernel_rfl) (by kernel_rfl) ?_; simp [-getElem?_pos, List.getElem?_cons_zero, List.getElem?_cons_succ, List.getElem?_nil, wk]) | (with_reducible refine And.intro (show okLog _ _ = true from by kernel_rfl) ?_))
        refine LL.go ⟨k + 1, hlt⟩ [] ⟨by rfl, by simp [], by simp [or_imp, forall_and, ] <;> (try (intro _hne; simp [_hne])), by decide⟩ ?_
        simp; omega
      · obtain rfl : k = L2.length := by omega
        repeat (first | (with_reducible refine AWp.seqK fun _ => ?_) | (with_reducible refine AWp.blockK fun _ => ?_) | (with_reducible refine KK.go ?_) | (refine AWp.reg tabOk ?_; simp [-getElem?_pos, List.getElem?_cons_zero, List.getElem?_cons_succ, List.getElem?_nil, hlt]) | (refine AWp.condK fun _ _ => ?_; simp [-getElem?_pos, List.getElem?_cons_zero, List.getElem?_cons_succ, List.getElem?_nil, hlt]) | (refine AWp.ret ?_; try simp only [thenP]) | (refine AWp.skip ?_; try simp only [thenP]) | (refine AWp.exit ?_; try simp only [thenP]) | (with_reducible refine BB.go ?_; simp only [blockP, thenP, if_true, if_false, reduceIte]) | (refine AWp.draws tabOk (by kernel_rfl) (by kernel_rfl) ?_; simp [-getElem?_pos, List.getElem?_cons_zero, List.getElem?_cons_succ, List.getElem?_nil, hlt]) | (with_reducible refine And.intro (show okLog _ _ = true from by kernel_rfl) ?_))
        refine AWp.loopK (ι := { k : Nat // k ≤ x.steps.length }) (n := 0) (fun k => [(11, .d (iD M)), (22, .d (.list (listRows (leftRows x lo hi x.steps.length)))), (23, .d (.list (listRows (leftRows x lo' hi' x.steps.length)))), (25, .d (iD big)), (28, .d (iD small)), (31, .d (iD k.1))]) (fun _ => []) (fun k => x.steps.length - k.1) ⟨0, Nat.zero_le _⟩ [] ?_ ?_
        · refine ⟨by rfl, by simp [], by simp [or_imp, forall_and, ] <;> (try (intro _hne; simp [_hne])), by decide⟩
        rintro ⟨k, hk⟩ kk
        by_cases hlt2 : k < x.steps.length
        · have p1 := leftRows_get (x := x) (lo := lo) (hi := hi) hlt2
          have p2 := leftRows_get (x := x) (lo := lo') (hi := hi') hlt2
          have hin2 : ∀ y, y ∈ leftN x lo' hi' k → y ∈ leftN x lo hi k := fun y hy => left_wide N.le1 N.le2 (by omega) hy
          have len3 := left_len hw0 lo hi (t := k) (by omega) (by omega)
          have len4 := left_len hw0 lo' hi' (t := k) (by omega) (by omega)
          generalize leftN x lo hi k = l1 at *
          generalize leftN x lo' hi' k = l2 at *
          have wk : IntKind.i64.wrap ((k : Int) + 1) = (k : Int) + 1 := wrap64_in (by omega)
          repeat (first | (with_reducible refine AWp.seqK fun _ => ?_) | (with_reducible refine AWp.blockK fun _ => ?_) | (with_reducible refine KK.go ?_) | (refine AWp.reg tabOk ?_; simp [-getElem?_pos, List.getElem?_cons_zero, List.getElem?_cons_succ, List.getElem?_nil, hlt2, r2]) | (refine AWp.condK fun _ _ => ?_; simp [-getElem?_pos, List.getElem?_cons_zero, List.getElem?_cons_succ, List.getElem?_nil, hlt2, r2]) | (refine AWp.ret ?_; try simp only [thenP]) | (refine AWp.skip ?_; try simp only [thenP]) | (refine AWp.exit ?_; try simp only [thenP]) | (with_reducible refine BB.go ?_; simp only [blockP, thenP, if_true, if_false, reduceIte]) | (refine AWp.draws tabOk (by kernel_rfl) (by kernel_rfl) ?_; simp [-getElem?_pos, List.getElem?_cons_zero, List.getElem?_cons_succ, List.getElem?_nil, hlt2, r2]) | (with_reducible refine And.intro (show okLog _ _ = true from by kernel_rfl) ?_))
          refine AWp.loopK (ι := { j : Nat // j ≤ l2.length }) (n := 0) (fun j => [(11, .d (iD M)), (22, .d (.list (listRows (leftRows x lo hi x.steps.length)))), (23, .d (.list (listRows (leftRows x lo' hi' x.steps.length)))), (25, .d (iD big)), (28, .d (iD small)), (31, .d (iD k)), (32, .d (iD j.1))]) (fun _ => []) (fun j => l2.length - j.1) ⟨0, Nat.zero_le _⟩ [] ?_ ?_
          · refine ⟨by rfl, by simp [], by simp [or_imp, forall_and, ] <;> (try (intro _hne; simp [_hne])), by decide⟩
          rintro ⟨j, hj⟩ kk2
          by_cases hlt3 : j < l2.length
          · obtain ⟨y, hy⟩ : ∃ y, l2[j]? = some y := ⟨_, List.getElem?_eq_getElem hlt3⟩
            have ci := in_c l1 y len3
            rw [decide_eq_true (hin2 y (List.mem_of_getElem? hy))] at ci
            have wj : IntKind.i64.wrap ((j : Int) + 1) = (j : Int) + 1 := wrap64_in (by omega)
            repeat (first | (with_reducible refine AWp.seqK fun _ => ?_) | (with_reducible refine AWp.blockK fun _ => ?_) | (with_reducible refine KK.go ?_) | (refine AWp.reg tabOk ?_; simp [-getElem?_pos, List.getElem?_cons_zero, List.getElem?_cons_succ, List.getElem?_nil, hlt2, hlt3, hy, p1, p2, r1, r2]) | (refine AWp.condK fun _ _ => ?_; simp [-getElem?_pos, List.getElem?_cons_zero, List.getElem?_cons_succ, List.getElem?_nil, hlt2, hlt3, hy, p1, p2, r1, r2]) | (refine AWp.ret ?_; try simp only [thenP]) | (refine AWp.skip ?_; try simp only [thenP]) | (refine AWp.exit ?_; try simp only [thenP]) | (with_reducible refine BB.go ?_; simp only [blockP, thenP, if_true, if_false, reduceIte]) | (refine AWp.draws tabOk (by kernel_rfl) (by kernel_rfl) ?_; simp [-getElem?_pos, List.getElem?_cons_zero, List.getElem?_cons_succ, List.getElem?_nil, hlt2, hlt3, hy, p1, p2, r1, r2]) | (with_reducible refine And.intro (show okLog _ _ = true from by kernel_rfl) ?_))
            first | (refine Exec0.call [] ci (by simp [-getElem?_pos, hlt2, hlt3, hy, p1, p2, r1, r2]) rfl (by simp [-getElem?_pos, List.getElem?_cons_zero, List.getElem?_cons_succ, List.getElem?_nil, hlt2, hlt3, hy, p1, p2, r1, r2]) ?_; simp [-getElem?_pos, List.getElem?_cons_zero, List.getElem?_cons_succ, List.getElem?_nil, hlt2, hlt3, hy, p1, p2, r1, r2]) | (refine Exec.call [] ci (by simp [-getElem?_pos, hlt2, hlt3, hy, p1, p2, r1, r2]) rfl (by simp [-getElem?_pos, List.getElem?_cons_zero, List.getElem?_cons_succ, List.getElem?_nil, hlt2, hlt3, hy, p1, p2, r1, r2]) ?_; simp [-getElem?_pos, List.getElem?_cons_zero, List.getElem?_cons_succ, List.getElem?_nil, hlt2, hlt3, hy, p1, p2, r1, r2])
            repeat (first | (with_reducible refine AWp.seqK fun _ => ?_) | (with_reducible refine AWp.blockK fun _ => ?_) | (with_reducible refine KK.go ?_) | (refine AWp.reg tabOk ?_; simp [-getElem?_pos, List.getElem?_cons_zero, List.getElem?_cons_succ, List.getElem?_nil, wj]) | (refine AWp.condK fun _ _ => ?_; simp [-getElem?_pos, List.getElem?_cons_zero, List.getElem?_cons_succ, List.getElem?_nil, wj]) | (refine AWp.ret ?_; try simp only [thenP]) | (refine AWp.skip ?_; try simp only [thenP]) | (refine AWp.exit ?_; try simp only [thenP]) | (with_reducible refine BB.go ?_; simp only [blockP, thenP, if_true, if_false, reduceIte]) | (refine AWp.draws tabOk (by kernel_rfl) (by kernel_rfl) ?_; simp [-getElem?_pos, List.getElem?_cons_zero, List.getElem?_cons_succ, List.getElem?_nil, wj]) | (with_reducible refine And.intro (show okLog _ _ = true from by kernel_rfl) ?_))
            refine LL.go ⟨j + 1, hlt3⟩ [] ⟨by rfl, by simp [], by simp [or_imp, forall_and, ] <;> (try (intro _hne; simp [_hne])), by decide⟩ ?_
            simp; omega
          · obtain rfl : j = l2.length := by omega
            repeat (first | (with_reducible refine AWp.seqK fun _ => ?_) | (with_reducible refine AWp.blockK fun _ => ?_) | (with_reducible refine KK.go ?_) | (refine AWp.reg tabOk ?_; simp [-getElem?_pos, List.getElem?_cons_zero, List.getElem?_cons_succ, List.getElem?_nil, hlt3, hlt2, p1, p2, r1, r2, wk]) | (refine AWp.condK fun _ _ => ?_; simp [-getElem?_pos, List.getElem?_cons_zero, List.getElem?_cons_succ, List.getElem?_nil, hlt3, hlt2, p1, p2, r1, r2, wk]) | (refine AWp.ret ?_; try simp only [thenP]) | (refine AWp.skip ?_; try simp only [thenP]) | (refine AWp.exit ?_; try simp only [thenP]) | (with_reducible refine BB.go ?_; simp only [blockP, thenP, if_true, if_false, reduceIte]) | (refine AWp.draws tabOk (by kernel_rfl) (by kernel_rfl) ?_; simp [-getElem?_pos, List.getElem?_cons_zero, List.getElem?_cons_succ, List.getElem?_nil, hlt3, hlt2, p1, p2, r1, r2, wk]) | (with_reducible refine And.intro (show okLog _ _ = true from by kernel_rfl) ?_))
            refine LL.go ⟨k + 1, hlt2⟩ [] ⟨by rfl, by simp [], by simp [or_imp, forall_and, ] <;> (try (intro _hne; simp [_hne])), by decide⟩ ?_
            simp; omega
        · obtain rfl : k = x.steps.length := by omega
          repeat (first | (with_reducible refine AWp.seqK fun _ => ?_) | (with_reducible refine AWp.blockK fun _ => ?_) | (with_reducible refine KK.go ?_) | (refine AWp.reg tabOk ?_; simp [-getElem?_pos, List.getElem?_cons_zero, List.getElem?_cons_succ, List.getElem?_nil, hlt2, r2, f1, f2, f3]) | (refine AWp.condK fun _ _ => ?_; simp [-getElem?_pos, List.getElem?_cons_zero, List.getElem?_cons_succ, List.getElem?_nil, hlt2, r2, f1, f2, f3]) | (refine AWp.ret ?_; try simp only [thenP]) | (refine AWp.skip ?_; try simp only [thenP]) | (refine AWp.exit ?_; try simp only [thenP]) | (with_reducible refine BB.go ?_; simp only [blockP, thenP, if_true, if_false, reduceIte]) | (refine AWp.draws tabOk (by kernel_rfl) (by kernel_rfl) ?_; simp [-getElem?_pos, List.getElem?_cons_zero, List.getElem?_cons_succ, List.getElem?_nil, hlt2, r2, f1, f2, f3]) | (with_reducible refine And.intro (show okLog _ _ = true from by kernel_rfl) ?_))
          first | (refine Exec0.call [] hw (by simp [-getElem?_pos, ]) rfl (by simp [-getElem?_pos, List.getElem?_cons_zero, List.getElem?_cons_succ, List.getElem?_nil, ]) ?_; simp [-getElem?_pos, List.getElem?_cons_zero, List.getElem?_cons_succ, List.getElem?_nil, ]) | (refine Exec.call [] hw (by simp [-getElem?_pos, ]) rfl (by simp [-getElem?_pos, List.getElem?_cons_zero, List.getElem?_cons_succ, List.getElem?_nil, ]) ?_; simp [-getElem?_pos, List.getElem?_cons_zero, List.getElem?_cons_succ, List.getElem?_nil, ])
          repeat (first | (with_reducible refine AWp.seqK fun _ => ?_) | (with_reducible refine AWp.blockK fun _ => ?_) | (with_reducible refine KK.go ?_) | (refine AWp.reg tabOk ?_; simp [-getElem?_pos, List.getElem?_cons_zero, List.getElem?_cons_succ, List.getElem?_nil, ]) | (refine AWp.condK fun _ _ => ?_; simp [-getElem?_pos, List.getElem?_cons_zero, List.getElem?_cons_succ, List.getElem?_nil, ]) | (refine AWp.ret ?_; try simp only [thenP]) | (refine AWp.skip ?_; try simp only [thenP]) | (refine AWp.exit ?_; try simp only [thenP]) | (with_reducible refine BB.go ?_; simp only [blockP, thenP, if_true, if_false, reduceIte]) | (refine AWp.draws tabOk (by kernel_rfl) (by kernel_rfl) ?_; simp [-getElem?_pos, List.getElem?_cons_zero, List.getElem?_cons_succ, List.getElem?_nil, ]) | (with_reducible refine And.intro (show okLog _ _ = true from by kernel_rfl) ?_))
          (first | refine RR.ret ?_ | refine RR.normal ?_); simp []
  by_cases hany : hadAny x (rowOf x ways (barP x m)) (meas lo' hi') = true
  · have hany0 := any_wide ok N.le1 N.le2 hany
    rw [if_pos hany0] at c3
    rw [if_pos hany] at c4
    have c3 : ACall Try.prog 28 [worksD x, recD m ways, rgD lo hi] (.tup [.list (rgRows (hadsOf x m ways lo hi)), iD 0]) := c3
    have c4 : ACall Try.prog 28 [worksD x, recD m ways, rgD lo' hi'] (.tup [.list (rgRows (hadsOf x m ways lo' hi')), iD 0]) := c4
    have l3 := hadsOf_len x m ways lo hi
    have l4 := hadsOf_len x m ways lo' hi'
    first | (refine Exec0.call [] c3 (by simp [-getElem?_pos, recD]) rfl (by simp [-getElem?_pos, List.getElem?_cons_zero, List.getElem?_cons_succ, List.getElem?_nil, recD]) ?_; simp [-getElem?_pos, List.getElem?_cons_zero, List.getElem?_cons_succ, List.getElem?_nil, recD]) | (refine Exec.call [] c3 (by simp [-getElem?_pos, recD]) rfl (by simp [-getElem?_pos, List.getElem?_cons_zero, List.getElem?_cons_succ, List.getElem?_nil, recD]) ?_; simp [-getElem?_pos, List.getElem?_cons_zero, List.getElem?_cons_succ, List.getElem?_nil, recD])
    repeat (first | (with_reducible refine AWp.seqK fun _ => ?_) | (with_reducible refine AWp.blockK fun _ => ?_) | (with_reducible refine KK.go ?_) | (refine AWp.reg tabOk ?_; simp [-getElem?_pos, List.getElem?_cons_zero, List.getElem?_cons_succ, List.getElem?_nil, ]) | (refine AWp.condK fun _ _ => ?_; simp [-getElem?_pos, List.getElem?_cons_zero, List.getElem?_cons_succ, List.getElem?_nil, ]) | (refine AWp.ret ?_; try simp only [thenP]) | (refine AWp.skip ?_; try simp only [thenP]) | (refine AWp.exit ?_; try simp only [thenP]) | (with_reducible refine BB.go ?_; simp only [blockP, thenP, if_true, if_false, reduceIte]) | (refine AWp.draws tabOk (by kernel_rfl) (by kernel_rfl) ?_; simp [-getElem?_pos, List.getElem?_cons_zero, List.getElem?_cons_succ, List.getElem?_nil, ]) | (with_reducible refine And.intro (show okLog _ _ = true from by kernel_rfl) ?_))
    first | (refine Exec0.call [] c4 (by simp [-getElem?_pos, recD]) rfl (by simp [-getElem?_pos, List.getElem?_cons_zero, List.getElem?_cons_succ, List.getElem?_nil, recD]) ?_; simp [-getElem?_pos, List.getElem?_cons_zero, List.getElem?_cons_succ, List.getElem?_nil, recD]) | (refine Exec.call [] c4 (by simp [-getElem?_pos, recD]) rfl (by simp [-getElem?_pos, List.getElem?_cons_zero, List.getElem?_cons_succ, List.getElem?_nil, recD]) ?_; simp [-getElem?_pos, List.getElem?_cons_zero, List.getElem?_cons_succ, List.getElem?_nil, recD])
    iterate 9 (first | (with_reducible refine AWp.seqK fun _ => ?_) | (with_reducible refine AWp.blockK fun _ => ?_) | (with_reducible refine KK.go ?_) | (refine AWp.reg tabOk ?_; simp [-getElem?_pos, List.getElem?_cons_zero, List.getElem?_cons_succ, List.getElem?_nil, hMM]) | (refine AWp.condK fun _ _ => ?_; simp [-getElem?_pos, List.getElem?_cons_zero, List.getElem?_cons_succ, List.getElem?_nil, hMM]) | (refine AWp.ret ?_; try simp only [thenP]) | (refine AWp.skip ?_; try simp only [thenP]) | (refine AWp.exit ?_; try simp only [thenP]) | (with_reducible refine BB.go ?_; simp only [blockP, thenP, if_true, if_false, reduceIte]) | (refine AWp.draws tabOk (by kernel_rfl) (by kernel_rfl) ?_; simp [-getElem?_pos, List.getElem?_cons_zero, List.getElem?_cons_succ, List.getElem?_nil, hMM]) | (with_reducible refine And.intro (show okLog _ _ = true from by kernel_rfl) ?_))
    refine AWp.seqFits hrest fun kj => ?_
    repeat (first | (with_reducible refine AWp.seqK fun _ => ?_) | (with_reducible refine AWp.blockK fun _ => ?_) | (with_reducible refine KK.go ?_) | (refine AWp.reg tabOk ?_; simp [-getElem?_pos, List.getElem?_cons_zero, List.getElem?_cons_succ, List.getElem?_nil, l3, l4]) | (refine AWp.condK fun _ _ => ?_; simp [-getElem?_pos, List.getElem?_cons_zero, List.getElem?_cons_succ, List.getElem?_nil, l3, l4]) | (refine AWp.ret ?_; try simp only [thenP]) | (refine AWp.skip ?_; try simp only [thenP]) | (refine AWp.exit ?_; try simp only [thenP]) | (with_reducible refine BB.go ?_; simp only [blockP, thenP, if_true, if_false, reduceIte]) | (refine AWp.draws tabOk (by kernel_rfl) (by kernel_rfl) ?_; simp [-getElem?_pos, List.getElem?_cons_zero, List.getElem?_cons_succ, List.getElem?_nil, l3, l4]) | (with_reducible refine And.intro (show okLog _ _ = true from by kernel_rfl) ?_))
    obtain ⟨n1, hn1⟩ : ∃ n1, n1 = x.steps.length + 1 := ⟨_, rfl⟩
    rw [← hn1] at l3 l4
    refine AWp.loopK (ι := { k : Nat // k ≤ n1 }) (n := 3) (fun k => [(4, .ptr 0 0 0), (6, .ptr 1 0 0), (10, .ptr 2 0 0), (11, .d (iD M)), (13, .d (iD M')), (15, .d (.list (rgRows (hadsOf x m ways lo hi)))), (17, .d (.list (rgRows (hadsOf x m ways lo' hi')))), (19, .d (iD k.1))]) (fun _ => [(0, .box 25 [.d (.list (rgRows x.bars)), .d (.list (stepRows x.steps))] true), (1, .box 33 [.d (iD lo), .d (iD hi)] true), (2, .box 33 [.d (iD lo'), .d (iD hi')] false)]) (fun k => n1 - k.1) ⟨0, Nat.zero_le _⟩ [0, 1, 26] ?_ ?_
    · refine ⟨by rfl, by simp [], by simp [or_imp, forall_and, ] <;> (try (intro _hne; simp [_hne])), by decide⟩
    rintro ⟨k, hk⟩ kk
    by_cases hlt : k < n1
    · have hx1 := hadsOf_at (x := x) (m := m) (ways := ways) (lo := lo) (hi := hi) (i := k) (by omega)
      have hx2 := hadsOf_at (x := x) (m := m) (ways := ways) (lo := lo') (hi := hi') (i := k) (by omega)
      have hin := hadE_wide ok N.le1 N.le2 hany (x.steps.length - k) k (by omega)
      have wk : IntKind.i64.wrap ((k : Int) + 1) = (k : Int) + 1 := wrap64_in (by have := (manyOk_iff.1 (worksOk_iff.1 (fineB_works hgb)).1).2.2.1; omega)
      generalize hadE x m ways lo hi k = p at hx1 hin
      generalize hadE x m ways lo' hi' k = q at hx2 hin
      have g1 : ¬ q.1 < p.1 := by omega
      have g2 : ¬ p.2 < q.2 := by omega
      repeat (first | (with_reducible refine AWp.seqK fun _ => ?_) | (with_reducible refine AWp.blockK fun _ => ?_) | (with_reducible refine KK.go ?_) | (refine AWp.reg tabOk ?_; simp [-getElem?_pos, List.getElem?_cons_zero, List.getElem?_cons_succ, List.getElem?_nil, l3, l4, hlt, hx1, hx2, g1, g2, wk]) | (refine AWp.condK fun _ _ => ?_; simp [-getElem?_pos, List.getElem?_cons_zero, List.getElem?_cons_succ, List.getElem?_nil, l3, l4, hlt, hx1, hx2, g1, g2, wk]) | (refine AWp.ret ?_; try simp only [thenP]) | (refine AWp.skip ?_; try simp only [thenP]) | (refine AWp.exit ?_; try simp only [thenP]) | (with_reducible refine BB.go ?_; simp only [blockP, thenP, if_true, if_false, reduceIte]) | (refine AWp.draws tabOk (by kernel_rfl) (by kernel_rfl) ?_; simp [-getElem?_pos, List.getElem?_cons_zero, List.getElem?_cons_succ, List.getElem?_nil, l3, l4, hlt, hx1, hx2, g1, g2, wk]) | (with_reducible refine And.intro (show okLog _ _ = true from by kernel_rfl) ?_))
      refine LL.go ⟨k + 1, hlt⟩ [0, 1, 2] ⟨by rfl, by simp [], by simp [or_imp, forall_and, ] <;> (try (intro _hne; simp [_hne])), by decide⟩ ?_
      simp; omega
    · obtain rfl : k = n1 := by omega
      repeat (first | (with_reducible refine AWp.seqK fun _ => ?_) | (with_reducible refine AWp.blockK fun _ => ?_) | (with_reducible refine KK.go ?_) | (refine AWp.reg tabOk ?_; simp [-getElem?_pos, List.getElem?_cons_zero, List.getElem?_cons_succ, List.getElem?_nil, l3, l4, hlt]) | (refine AWp.condK fun _ _ => ?_; simp [-getElem?_pos, List.getElem?_cons_zero, List.getElem?_cons_succ, List.getElem?_nil, l3, l4, hlt]) | (refine AWp.ret ?_; try simp only [thenP]) | (refine AWp.skip ?_; try simp only [thenP]) | (refine AWp.exit ?_; try simp only [thenP]) | (with_reducible refine BB.go ?_; simp only [blockP, thenP, if_true, if_false, reduceIte]) | (refine AWp.draws tabOk (by kernel_rfl) (by kernel_rfl) ?_; simp [-getElem?_pos, List.getElem?_cons_zero, List.getElem?_cons_succ, List.getElem?_nil, l3, l4, hlt]) | (with_reducible refine And.intro (show okLog _ _ = true from by kernel_rfl) ?_))
      exact JJ.go [0, 1, 2] ⟨by rfl, by simp, by simp [or_imp, forall_and], by decide⟩
  · by_cases hany0 : hadAny x (rowOf x ways (barP x m)) (meas lo hi) = true
    · rw [if_pos hany0] at c3
      rw [if_neg hany] at c4
      have c3 : ACall Try.prog 28 [worksD x, recD m ways, rgD lo hi] (.tup [.list (rgRows (hadsOf x m ways lo hi)), iD 0]) := c3
      have c4 : ACall Try.prog 28 [worksD x, recD m ways, rgD lo' hi'] (.tup [.list [], iD 17]) := c4
      first | (refine Exec0.call [] c3 (by simp [-getElem?_pos, recD]) rfl (by simp [-getElem?_pos, List.getElem?_cons_zero, List.getElem?_cons_succ, List.getElem?_nil, recD]) ?_; simp [-getElem?_pos, List.getElem?_cons_zero, List.getElem?_cons_succ, List.getElem?_nil, recD]) | (refine Exec.call [] c3 (by simp [-getElem?_pos, recD]) rfl (by simp [-getElem?_pos, List.getElem?_cons_zero, List.getElem?_cons_succ, List.getElem?_nil, recD]) ?_; simp [-getElem?_pos, List.getElem?_cons_zero, List.getElem?_cons_succ, List.getElem?_nil, recD])
      repeat (first | (with_reducible refine AWp.seqK fun _ => ?_) | (with_reducible refine AWp.blockK fun _ => ?_) | (with_reducible refine KK.go ?_) | (refine AWp.reg tabOk ?_; simp [-getElem?_pos, List.getElem?_cons_zero, List.getElem?_cons_succ, List.getElem?_nil, ]) | (refine AWp.condK fun _ _ => ?_; simp [-getElem?_pos, List.getElem?_cons_zero, List.getElem?_cons_succ, List.getElem?_nil, ]) | (refine AWp.ret ?_; try simp only [thenP]) | (refine AWp.skip ?_; try simp only [thenP]) | (refine AWp.exit ?_; try simp only [thenP]) | (with_reducible refine BB.go ?_; simp only [blockP, thenP, if_true, if_false, reduceIte]) | (refine AWp.draws tabOk (by kernel_rfl) (by kernel_rfl) ?_; simp [-getElem?_pos, List.getElem?_cons_zero, List.getElem?_cons_succ, List.getElem?_nil, ]) | (with_reducible refine And.intro (show okLog _ _ = true from by kernel_rfl) ?_))
      first | (refine Exec0.call [] c4 (by simp [-getElem?_pos, recD]) rfl (by simp [-getElem?_pos, List.getElem?_cons_zero, List.getElem?_cons_succ, List.getElem?_nil, recD]) ?_; simp [-getElem?_pos, List.getElem?_cons_zero, List.getElem?_cons_succ, List.getElem?_nil, recD]) | (refine Exec.call [] c4 (by simp [-getElem?_pos, recD]) rfl (by simp [-getElem?_pos, List.getElem?_cons_zero, List.getElem?_cons_succ, List.getElem?_nil, recD]) ?_; simp [-getElem?_pos, List.getElem?_cons_zero, List.getElem?_cons_succ, List.getElem?_nil, recD])
      iterate 9 (first | (with_reducible refine AWp.seqK fun _ => ?_) | (with_reducible refine AWp.blockK fun _ => ?_) | (with_reducible refine KK.go ?_) | (refine AWp.reg tabOk ?_; simp [-getElem?_pos, List.getElem?_cons_zero, List.getElem?_cons_succ, List.getElem?_nil, hMM]) | (refine AWp.condK fun _ _ => ?_; simp [-getElem?_pos, List.getElem?_cons_zero, List.getElem?_cons_succ, List.getElem?_nil, hMM]) | (refine AWp.ret ?_; try simp only [thenP]) | (refine AWp.skip ?_; try simp only [thenP]) | (refine AWp.exit ?_; try simp only [thenP]) | (with_reducible refine BB.go ?_; simp only [blockP, thenP, if_true, if_false, reduceIte]) | (refine AWp.draws tabOk (by kernel_rfl) (by kernel_rfl) ?_; simp [-getElem?_pos, List.getElem?_cons_zero, List.getElem?_cons_succ, List.getElem?_nil, hMM]) | (with_reducible refine And.intro (show okLog _ _ = true from by kernel_rfl) ?_))
      refine AWp.seqFits hrest fun kj => ?_
      repeat (first | (with_reducible refine AWp.seqK fun _ => ?_) | (with_reducible refine AWp.blockK fun _ => ?_) | (with_reducible refine KK.go ?_) | (refine AWp.reg tabOk ?_; simp [-getElem?_pos, List.getElem?_cons_zero, List.getElem?_cons_succ, List.getElem?_nil, ]) | (refine AWp.condK fun _ _ => ?_; simp [-getElem?_pos, List.getElem?_cons_zero, List.getElem?_cons_succ, List.getElem?_nil, ]) | (refine AWp.ret ?_; try simp only [thenP]) | (refine AWp.skip ?_; try simp only [thenP]) | (refine AWp.exit ?_; try simp only [thenP]) | (with_reducible refine BB.go ?_; simp only [blockP, thenP, if_true, if_false, reduceIte]) | (refine AWp.draws tabOk (by kernel_rfl) (by kernel_rfl) ?_; simp [-getElem?_pos, List.getElem?_cons_zero, List.getElem?_cons_succ, List.getElem?_nil, ]) | (with_reducible refine And.intro (show okLog _ _ = true from by kernel_rfl) ?_))
      exact JJ.go [0, 1, 26] ⟨by rfl, by simp, by simp [or_imp, forall_and], by decide⟩
    · rw [if_neg hany0] at c3
      rw [if_neg hany] at c4
      have c3 : ACall Try.prog 28 [worksD x, recD m ways, rgD lo hi] (.tup [.list [], iD 17]) := c3
      have c4 : ACall Try.prog 28 [worksD x, recD m ways, rgD lo' hi'] (.tup [.list [], iD 17]) := c4
      first | (refine Exec0.call [] c3 (by simp [-getElem?_pos, recD]) rfl (by simp [-getElem?_pos, List.getElem?_cons_zero, List.getElem?_cons_succ, List.getElem?_nil, recD]) ?_; simp [-getElem?_pos, List.getElem?_cons_zero, List.getElem?_cons_succ, List.getElem?_nil, recD]) | (refine Exec.call [] c3 (by simp [-getElem?_pos, recD]) rfl (by simp [-getElem?_pos, List.getElem?_cons_zero, List.getElem?_cons_succ, List.getElem?_nil, recD]) ?_; simp [-getElem?_pos, List.getElem?_cons_zero, List.getElem?_cons_succ, List.getElem?_nil, recD])
      repeat (first | (with_reducible refine AWp.seqK fun _ => ?_) | (with_reducible refine AWp.blockK fun _ => ?_) | (with_reducible refine KK.go ?_) | (refine AWp.reg tabOk ?_; simp [-getElem?_pos, List.getElem?_cons_zero, List.getElem?_cons_succ, List.getElem?_nil, ]) | (refine AWp.condK fun _ _ => ?_; simp [-getElem?_pos, List.getElem?_cons_zero, List.getElem?_cons_succ, List.getElem?_nil, ]) | (refine AWp.ret ?_; try simp only [thenP]) | (refine AWp.skip ?_; try simp only [thenP]) | (refine AWp.exit ?_; try simp only [thenP]) | (with_reducible refine BB.go ?_; simp only [blockP, thenP, if_true, if_false, reduceIte]) | (refine AWp.draws tabOk (by kernel_rfl) (by kernel_rfl) ?_; simp [-getElem?_pos, List.getElem?_cons_zero, List.getElem?_cons_succ, List.getElem?_nil, ]) | (with_reducible refine And.intro (show okLog _ _ = true from by kernel_rfl) ?_))
      first | (refine Exec0.call [] c4 (by simp [-getElem?_pos, recD]) rfl (by simp [-getElem?_pos, List.getElem?_cons_zero, List.getElem?_cons_succ, List.getElem?_nil, recD]) ?_; simp [-getElem?_pos, List.getElem?_cons_zero, List.getElem?_cons_succ, List.getElem?_nil, recD]) | (refine Exec.call [] c4 (by simp [-getElem?_pos, recD]) rfl (by simp [-getElem?_pos, List.getElem?_cons_zero, List.getElem?_cons_succ, List.getElem?_nil, recD]) ?_; simp [-getElem?_pos, List.getElem?_cons_zero, List.getElem?_cons_succ, List.getElem?_nil, recD])
      iterate 9 (first | (with_reducible refine AWp.seqK fun _ => ?_) | (with_reducible refine AWp.blockK fun _ => ?_) | (with_reducible refine KK.go ?_) | (refine AWp.reg tabOk ?_; simp [-getElem?_pos, List.getElem?_cons_zero, List.getElem?_cons_succ, List.getElem?_nil, hMM]) | (refine AWp.condK fun _ _ => ?_; simp [-getElem?_pos, List.getElem?_cons_zero, List.getElem?_cons_succ, List.getElem?_nil, hMM]) | (refine AWp.ret ?_; try simp only [thenP]) | (refine AWp.skip ?_; try simp only [thenP]) | (refine AWp.exit ?_; try simp only [thenP]) | (with_reducible refine BB.go ?_; simp only [blockP, thenP, if_true, if_false, reduceIte]) | (refine AWp.draws tabOk (by kernel_rfl) (by kernel_rfl) ?_; simp [-getElem?_pos, List.getElem?_cons_zero, List.getElem?_cons_succ, List.getElem?_nil, hMM]) | (with_reducible refine And.intro (show okLog _ _ = true from by kernel_rfl) ?_))
      refine AWp.seqFits hrest fun kj => ?_
      repeat (first | (with_reducible refine AWp.seqK fun _ => ?_) | (with_reducible refine AWp.blockK fun _ => ?_) | (with_reducible refine KK.go ?_) | (refine AWp.reg tabOk ?_; simp [-getElem?_pos, List.getElem?_cons_zero, List.getElem?_cons_succ, List.getElem?_nil, ]) | (refine AWp.condK fun _ _ => ?_; simp [-getElem?_pos, List.getElem?_cons_zero, List.getElem?_cons_succ, List.getElem?_nil, ]) | (refine AWp.ret ?_; try simp only [thenP]) | (refine AWp.skip ?_; try simp only [thenP]) | (refine AWp.exit ?_; try simp only [thenP]) | (with_reducible refine BB.go ?_; simp only [blockP, thenP, if_true, if_false, reduceIte]) | (refine AWp.draws tabOk (by kernel_rfl) (by kernel_rfl) ?_; simp [-getElem?_pos, List.getElem?_cons_zero, List.getElem?_cons_succ, List.getElem?_nil, ]) | (with_reducible refine And.intro (show okLog _ _ = true from by kernel_rfl) ?_))
      exact JJ.go [0, 1, 26] ⟨by rfl, by simp, by simp [or_imp, forall_and], by decide⟩
theorem narrower_w (x : Works) (nums : List Int) (lo hi a b : Int) (ha0 : 0 ≤ a) (ha1 : a ≤ 65535) (hb0 : 0 ≤ b) (hb1 : b ≤ 65535) (hnw : ∀ n ∈ nums, (Lit.int .u8 n).wf = true) : WCall Try.prog 10 [worksD x, kintL .u8 nums, rgD lo hi, .agg [.val (.int .u16 a), .val (.int .u16 b)]] (bD true) := by
  by_cases h : fineB x = false ∨ fullB x = true ∨ (20 : Int) < nums.length ∨ isHardB lo hi = false
  · exact narrower_out x nums lo hi a b h
  · simp only [not_or, Bool.not_eq_false, Bool.not_eq_true] at h
    obtain ⟨h1, h2, h3, h4⟩ := h
    have h5 := isHardB_iff.1 h4
    exact narrower_in x nums lo hi a b _ _ ⟨h5.1, h5.2.1, h5.2.2, ha0, by omega, hb0, by omega, rfl, rfl⟩ h1 h2 h3 h4 hnw
end Go.Proofs.Ytigpefjeelgfdaa.Eng

/-
  Layer 1's statements: what a weak call says of values.
-/
namespace Go.Proofs.Ytigpefjeelgfdaa.Eng
open Go.RowKit

theorem law4 {f : FuncId} {a b c d : Dat} (h : WCall Try.prog f [a, b, c, d] (bD true)) {W : World} {va vb vc vd : Value} (ha : RepD (· < W.heap.size) W a va) (hb : RepD (· < W.heap.size) W b vb) (hc : RepD (· < W.heap.size) W c vc) (hd : RepD (· < W.heap.size) W d vd) :
    Calls Try.prog f #[va, vb, vc, vd] W fun e w' => e = .returned (.bool true) ∧ Below W.heap.size W w' := by
  refine (h.calls W #[va, vb, vc, vd] rfl fun i d v hd hv => ?_).mono fun e w' ⟨v, h1, h2, h3⟩ => ?_
  · match i with
    | 0 => simp at hd hv; subst hd; subst hv; exact ha
    | 1 => simp at hd hv; subst hd; subst hv; exact hb
    | 2 => simp at hd hv; subst hd; subst hv; exact hc
    | 3 => simp at hd hv; subst hd; subst hv; assumption
    | i + 4 => simp at hd
  · rw [val_inv h3] at h1
    exact ⟨h1, h2⟩
theorem kints_wf {k : IntKind} {w : World} {B : Nat} {A : Option Addr} {l : List Int} (h : IntsW k w B A l) : ∀ n ∈ l, (Lit.int k n).wf = true := fun n hn => by
  obtain ⟨i, hi, rfl⟩ := List.getElem_of_mem hn
  obtain ⟨b, off, _, _, hx⟩ := h (by omega)
  exact (hx i _ (List.getElem?_eq_getElem hi)).2
theorem rgD_rep2 {ro : Nat → Prop} {w : World} (lo hi : Int) : RepD ro w (rgD lo hi) (.agg #[.int .i64 lo, .int .i64 hi]) := agg2 (.val _ rfl) (.val _ rfl) rfl rfl
end Go.Proofs.Ytigpefjeelgfdaa.Eng

/-
  Layer 1's statements: what the engine says of HeatNarrower, as the words for memory say it.
-/
namespace Go.Proofs.Ytigpefjeelgfdaa.Eng
open Go.RowKit

theorem narrowerLaw_any {W : World} {x : Works} {Ab As Ar Ay : Option Addr} {cb cs cr cy : Nat} {ways nums : List Int} (lo hi a b : Int) (h : In W W.heap.size Ab As Ar cb cs cr x ways) (hy : IntsW .u8 W W.heap.size Ay nums) (hy1 : nums.length ≤ cy) (hy2 : cy ≤ 9223372036854775807)
    (ha0 : 0 ≤ a) (ha1 : a ≤ 65535) (hb0 : 0 ≤ b) (hb1 : b ≤ 65535) :
    Calls Try.prog 10 #[.agg #[.slice Ab x.bars.length cb, .slice As x.steps.length cs], .slice Ay nums.length cy, .agg #[.int .i64 lo, .int .i64 hi], .agg #[.int .u16 a, .int .u16 b]] W fun e w' => e = .returned (.bool true) ∧ Below W.heap.size W w' :=
  law4 (narrower_w x nums lo hi a b ha0 ha1 hb0 hb1 (kints_wf hy)) (of_works h) (of_kints (B := W.heap.size) (fun _ h => h) ⟨_, _, rfl, hy1, hy2, hy⟩) (rgD_rep2 lo hi) (agg2 (.val _ rfl) (.val _ rfl) rfl rfl)
end Go.Proofs.Ytigpefjeelgfdaa.Eng

/-
  The last step of a law's row, from 'what was there is as it was' alone.
-/
namespace Go.Proofs.Ytigpefjeelgfdaa
open Go.ChangeShapes Go.WideShapes Go.ChangeAt Go.RowKit

/-- A law that takes no package variable: it answers, what was there is as it was, and the arguments read as they did. -/
theorem post_later {H : Type} {enc : TypeId × Value → H} {P : Program} {f : Func} {s : ChangeSpec} {apart fresh handsOn again : Bool} {W W' : World} {args : Array Value} {v : Value} {ds gs : List (DataW H)} {before pa pv : List MemPlace}
    (hW : DataW.Whole enc P f.params.toList s.vars apart W args.toList ds gs before) (hsplit : before = pa ++ pv)
    (hr : ∀ (b : Nat) (sp : Nat → Bool) (hd : Bool), DataW.TrodAll enc P W' b sp hd f.resultTypes.toList (v.resultList f.resultTypes.size) (s.fn H (ds ++ gs)).results [])
    (ha : ∀ sp : Nat → Bool, (∀ p ∈ before, sp p.block = true) → DataW.TrodAll enc P W' 0 sp true f.params.toList args.toList (s.fn H (ds ++ gs)).args pa)
    (hv : ∀ sp : Nat → Bool, (∀ p ∈ before, sp p.block = true) → DataW.TrodVars enc P W' sp s.vars (s.fn H (ds ++ gs)).vars pv)
    (hk : ∀ (j : Nat) (t : TypeId) (r : Value), f.resultTypes[j]? = some t → (v.resultList f.resultTypes.size)[j]? = some r → Value.okWide P W' .any 0 t r)
    (hb : Below W.heap.size W W') : s.post enc P f apart fresh handsOn again W args v W' := by
  have inside : ∀ p, p ∈ before → p.block < W.heap.size := fun p hp => hW.lt p hp
  have keep : ∀ p ∈ before, (decide ((p : MemPlace).block < W.heap.size)) = true := fun p hp => decide_eq_true (inside p hp)
  refine ⟨ds, gs, before, [], pa, pv, hW, hr _ _ _, ha (fun b => decide (b < W.heap.size)) keep, hv (fun b => decide (b < W.heap.size)) keep, ?_, ?_⟩
  · refine World.keptBut_mono (fun p hp => ⟨hp, ?_⟩) (hb.frame (· ∈ before))
    right
    rw [hsplit, List.mem_append] at hp
    exact hp
  · intro _
    obtain ⟨_, _, _, _, _, hz, hn⟩ := hW
    have e : [] ++ pa ++ pv = before := by rw [hsplit, List.nil_append]
    refine ⟨hk, _, _, [] ++ pa ++ pv, ⟨[] ++ pa, pv, trodAll_append (ha _ fun _ _ => rfl) (hr _ _ _), hv _ fun _ _ => rfl, rfl, fun b off hp => ?_, fun h => ?_⟩, fun p hp _ => ?_⟩
    · rw [e] at hp
      rw [hb.frozen (inside _ hp)]
      exact hz b off hp
    · have := hn h
      rw [← e] at this
      simpa using this
    · rw [e] at hp
      simpa using hp
end Go.Proofs.Ytigpefjeelgfdaa

/-
  What came in, as the words of these texts have it: slices, structs, works, recipes; and that it reads again behind a call that leaves it alone.
-/
namespace Go.Proofs.Ytigpefjeelgfdaa
open Go.ChangeShapes Go.WideShapes Go.ChangeAt Go.RowKit Go.Deep

section
variable {H : Type} {enc : TypeId × Value → H} {P : Program} {w : World}

theorem list_of {α : Type} {R : Nat → α → Prop} : ∀ (n : Nat), (∀ i, i < n → ∃ x, R i x) → ∃ l : List α, l.length = n ∧ ∀ i x, l[i]? = some x → R i x
  | 0, _ => ⟨[], rfl, fun i x h => by simp at h⟩
  | n + 1, h => by
    obtain ⟨l, hl, hx⟩ := list_of n fun i hi => h i (by omega)
    obtain ⟨y, hy⟩ := h n (by omega)
    refine ⟨l ++ [y], by simp [hl], fun i x hi => ?_⟩
    rcases Nat.lt_or_ge i n with h1 | h1
    · rw [List.getElem?_append_left (by omega)] at hi
      exact hx i x hi
    · rw [List.getElem?_append_right (by omega)] at hi
      have : i = n := by
        have := (List.getElem?_eq_some_iff.1 hi).1
        simp at this
        omega
      subst this
      simp [hl] at hi
      subst hi
      exact hy

/-- An element that is read off cells. -/
def ElemOf (enc : TypeId × Value → H) (P : Program) (w : World) {α : Type} (R : World → Nat → Nat → α → Prop) (size : Nat) (e : TypeId) : Prop :=
  ∀ (b off : Nat) (cs : List Value) (n : Nat) (x : DataW H × List MemPlace), b < w.heap.size → cs.length = size → (∀ j u, cs[j]? = some u → w.cell? ⟨b, off + j, none⟩ = some u) → DataW.trod enc P w 0 (fun _ => true) true n e cs = some x → ∃ y, R w b off y

theorem open_sl {α : Type} {R : World → Nat → Nat → α → Prop} {size : Nat} {t e : TypeId} {fuel : Nat} {cs : List Value} {x : DataW H × List MemPlace} (ht : P.underlying t = some (.slice e)) (hc : P.cellsOf e = size) (h0 : 0 < size)
    (he : ElemOf enc P w R size e) (h : DataW.trod enc P w 0 (fun _ => true) true fuel t cs = some x) : ∃ v l, cs = [v] ∧ SL R size w w.heap.size v l := by
  rcases open_slice ht h with ⟨h1, _⟩ | ⟨a, len, cap, m, n, D, Pl, hcs, hb, hl, hmx, hm, hx, hel⟩
  · exact ⟨_, [], h1, SL.nil _ _ _ _⟩
  · have hmc : m = cap := by simpa using hm
    obtain ⟨b, off, spot⟩ := a
    have cell : ∀ i, i < m → ∃ cs', cs'.length = size ∧ (∀ j u, cs'[j]? = some u → w.cell? (Addr.add ⟨b, off, spot⟩ (i * size + j)) = some u) ∧ DataW.trod enc P w 0 (fun _ => true) true n e cs' = some (D i, Pl i) := by
      intro i hi
      obtain ⟨cs', h1, h2⟩ := hel i hi
      rw [hc] at h1
      obtain ⟨_, hlen, hat⟩ := World.cells?_some h1
      refine ⟨cs', hlen, fun j u hj => ?_, h2⟩
      have hjl : j < size := by rw [← hlen]; exact (List.getElem?_eq_some_iff.1 hj).1
      rw [← Go.Deep.add_add, hat j hjl, hj]
    have spot0 : 0 < m → spot = none := fun hm0 => by
      obtain ⟨cs', h1, h2, _⟩ := cell 0 hm0
      have h3 : cs'[0]? = some (cs'[0]'(by omega)) := List.getElem?_eq_getElem (by omega)
      have := World.cell?_spot (h2 0 _ h3)
      simpa [Addr.add] using this
    by_cases hm0 : len = 0
    · subst hm0
      exact ⟨_, [], hcs, some ⟨b, off, spot⟩, cap, rfl, by simp, by unfold maxLen at hmx; omega, fun h => absurd h (by simp)⟩
    have hsp := spot0 (by omega)
    subst hsp
    have hb2 : b < w.heap.size := by
      obtain ⟨cs', h1, h2, _⟩ := cell 0 (by omega)
      have h3 : cs'[0]? = some (cs'[0]'(by omega)) := List.getElem?_eq_getElem (by omega)
      have h4 := World.block_lt_of_cell? w _ (h2 0 _ h3)
      simpa [Addr.add] using h4
    obtain ⟨l, hll, hlx⟩ := list_of (R := fun i y => R w b (off + i * size) y) len fun i hi => by
      obtain ⟨cs', h1, h2, h3⟩ := cell i (by omega)
      refine he b (off + i * size) cs' n _ hb2 h1 (fun j u hj => ?_) h3
      have := h2 j u hj
      by_cases e0 : i * size + j = 0
      · rw [e0] at this
        have e1 : off + i * size + j = off := by omega
        rw [e1]
        simpa [Addr.add] using this
      · simp only [Addr.add, if_neg e0] at this
        rwa [Nat.add_assoc]
    exact ⟨_, l, hcs, some ⟨b, off, none⟩, cap, by rw [hll], by omega, by unfold maxLen at hmx; omega, fun _ => ⟨b, off, rfl, hb2, hlx⟩⟩

theorem elem_int {k : IntKind} {e : TypeId} (he : P.underlying e = some (.int k)) : ElemOf enc P w (IntAt k) 1 e := by
  intro b off cs n x hb hl hat h
  obtain ⟨m, rfl, _⟩ := DataW.trod_int he h
  exact ⟨m, hat 0 _ rfl⟩
theorem elem_range {e ti : TypeId} {f0 f1 : Field} (he : P.underlying e = some (.struct #[f0, f1])) (h0 : f0.type = ti) (h1 : f1.type = ti) (o0 : f0.offset = 0) (o1 : f1.offset = 1) (hi : P.underlying ti = some (.int .i64)) (hc : P.cellsOf ti = 1) : ElemOf enc P w RgAt 2 e := by
  intro b off cs n x hb hl hat h
  obtain ⟨y0, y1, m, _, _, g0, g1⟩ := trod_struct2 he h
  rw [h0, hc, o0] at g0
  rw [h1, hc, o1] at g1
  match cs, hl with
  | [u, v], _ =>
    obtain ⟨n0, e0, _⟩ := DataW.trod_int hi g0
    obtain ⟨n1, e1, _⟩ := DataW.trod_int hi g1
    simp at e0 e1
    subst e0
    subst e1
    exact ⟨(n0, n1), hat 0 _ rfl, hat 1 _ rfl⟩
theorem elem_kink {e ti tr : TypeId} {f0 f1 g0 g1 : Field} (he : P.underlying e = some (.struct #[f0, f1])) (hr : P.underlying tr = some (.struct #[g0, g1])) (h0 : f0.type = ti) (h1 : f1.type = tr) (o0 : f0.offset = 0) (o1 : f1.offset = 1)
    (k0 : g0.type = ti) (k1 : g1.type = ti) (p0 : g0.offset = 0) (p1 : g1.offset = 1) (hi : P.underlying ti = some (.int .i64)) (hc : P.cellsOf ti = 1) (hcr : P.cellsOf tr = 2) : ElemOf enc P w KinkAt 3 e := by
  intro b off cs n x hb hl hat h
  obtain ⟨y0, y1, m, _, _, q0, q1⟩ := trod_struct2 he h
  rw [h0, hc, o0] at q0
  rw [h1, hcr, o1] at q1
  obtain ⟨z0, z1, m1, _, _, r0, r1⟩ := trod_struct2 hr q1
  rw [k0, hc, p0] at r0
  rw [k1, hc, p1] at r1
  match cs, hl with
  | [u, v, t], _ =>
    obtain ⟨n0, e0, _⟩ := DataW.trod_int hi q0
    obtain ⟨n1, e1, _⟩ := DataW.trod_int hi r0
    obtain ⟨n2, e2, _⟩ := DataW.trod_int hi r1
    simp at e0 e1 e2
    subst e0
    subst e1
    subst e2
    exact ⟨⟨n0, n1, n2⟩, hat 0 _ rfl, hat 1 _ rfl, hat 2 _ rfl⟩
/-- A struct whose only field is a slice. -/
theorem elem_box {α : Type} {R : World → Nat → Nat → α → Prop} {size : Nat} {e ts te : TypeId} {f0 : Field} (he : P.underlying e = some (.struct #[f0])) (h0 : f0.type = ts) (o0 : f0.offset = 0) (hs : P.underlying ts = some (.slice te)) (hcs : P.cellsOf ts = 1) (hc : P.cellsOf te = size) (hz : 0 < size)
    (hel : ElemOf enc P w R size te) : ElemOf enc P w (fun w b off l => ∃ v, w.cell? ⟨b, off, none⟩ = some v ∧ SL R size w w.heap.size v l) 1 e := by
  intro b off cs n x hb hl hat h
  obtain ⟨y0, m, _, _, q0⟩ := trod_struct1 he h
  rw [h0, hcs, o0] at q0
  match cs, hl with
  | [u], _ =>
    obtain ⟨v, l, hv, hsl⟩ := open_sl hs hc hz hel q0
    simp at hv
    subst hv
    exact ⟨l, u, hat 0 _ rfl, hsl⟩

/-- What came in reads again, where all that was there is as it was. -/
theorem args_later {W W' : World} {T : TypeId → Prop} (K : Kids P T) (hz : ∀ t e, T t → P.underlying t = some (.slice e) → 0 < P.cellsOf e) {ts : List TypeId} {vs : List Value} {ds : List (DataW H)} {ps : List MemPlace}
    (hT : ∀ t ∈ ts, T t) (h : DataW.TrodAll enc P W 0 (fun _ => true) true ts vs ds ps) (hb : Below W.heap.size W W') {sp : Nat → Bool} (hs : ∀ p ∈ ps, sp p.block = true) : DataW.TrodAll enc P W' 0 sp true ts vs ds ps := by
  have carry : ∀ {ts : List TypeId} {vs : List Value} {ds : List (DataW H)} {ps : List MemPlace}, DataW.TrodAll enc P W 0 (fun _ => true) true ts vs ds ps → DataW.TrodAll enc P W' 0 (fun _ => true) true ts vs ds ps := by
    intro ts
    induction ts with
    | nil =>
      intro vs ds ps h
      obtain ⟨rfl, rfl, rfl⟩ := trodAll_nil h
      rfl
    | cons t ts ih =>
      intro vs ds ps h
      obtain ⟨v, vs1, d, ds1, a, b, rfl, rfl, rfl, ⟨n, h1⟩, h2⟩ := trodAll_cons h
      refine ⟨a, b, ⟨n, DataW.trod_carry n _ _ _ h1 fun p hp => ?_⟩, ih h2, rfl⟩
      have hlt := DataW.trod_lt n _ _ _ h1 p hp
      cases p with
      | cell bl off => exact hb.cell (p := ⟨bl, off, none⟩) hlt
      | map bl => exact hb.block bl hlt
  exact (carry h).respare K hz hT hs
end
end Go.Proofs.Ytigpefjeelgfdaa

/-
  What came in, at the types of layer 1's statements.
-/
namespace Go.Proofs.Ytigpefjeelgfdaa
open Go.ChangeShapes Go.WideShapes Go.ChangeAt Go.RowKit Go.Deep

theorem kids : Kids Try.prog (· < Try.prog.types.size) := kids_rows (by kernel_rfl) (by kernel_rfl)
theorem full : ∀ t e, t < Try.prog.types.size → Try.prog.underlying t = some (.slice e) → 0 < Try.prog.cellsOf e := slices_full_of Try.prog (by kernel_rfl)

theorem list_two {l : List Value} (h : l.toArray.size = 2) : ∃ a b, l = [a, b] := by
  rcases l with _ | ⟨a, _ | ⟨b, _ | ⟨c, l⟩⟩⟩
  · simp at h
  · simp at h
  · exact ⟨a, b, rfl⟩
  · simp at h
theorem list_one {l : List Value} (h : l.toArray.size = 1) : ∃ a, l = [a] := by
  rcases l with _ | ⟨a, _ | ⟨b, l⟩⟩
  · simp at h
  · exact ⟨a, rfl⟩
  · simp at h
theorem one_eq {u v : Value} (h : [u] = [v]) : u = v := by simpa using h
section
variable {H : Type} {enc : TypeId × Value → H} {w : World}
theorem el_i64 : ElemOf enc Try.prog w (IntAt .i64) 1 (2 : Nat) := elem_int Try.underlying2
theorem el_int : ElemOf enc Try.prog w (IntAt .i64) 1 (3 : Nat) := elem_int Try.underlying3
theorem el_range : ElemOf enc Try.prog w RgAt 2 (33 : Nat) := elem_range Try.underlying33 rfl rfl rfl rfl Try.underlying2 (by kernel_rfl)
theorem el_kink : ElemOf enc Try.prog w KinkAt 3 (93 : Nat) := elem_kink Try.underlying93 Try.underlying33 rfl rfl rfl rfl rfl rfl rfl rfl Try.underlying2 (by kernel_rfl) (by kernel_rfl)
theorem el_way : ElemOf enc Try.prog w (fun w b off l => ∃ v, w.cell? ⟨b, off, none⟩ = some v ∧ SL KinkAt 3 w w.heap.size v l) 1 (28 : Nat) :=
  elem_box Try.underlying28 rfl rfl Try.underlying26 (by kernel_rfl) (by kernel_rfl) (by decide) el_kink
theorem el_step : ElemOf enc Try.prog w (fun w b off l => ∃ v, w.cell? ⟨b, off, none⟩ = some v ∧ SL (fun w b off l => ∃ v, w.cell? ⟨b, off, none⟩ = some v ∧ SL KinkAt 3 w w.heap.size v l) 1 w w.heap.size v l) 1 (88 : Nat) :=
  elem_box Try.underlying88 rfl rfl Try.underlying86 (by kernel_rfl) (by kernel_rfl) (by decide) el_way

set_option maxRecDepth 100000 in
theorem open_works {base : Nat} {v : Value} {d : DataW H} {p : List MemPlace} (hv : Value.okWide Try.prog w .any base (25 : Nat) v) (h : DataW.Trod enc Try.prog w 0 (fun _ => true) true (25 : Nat) v d p) :
    ∃ (Ab As : Option Addr) (cb cs : Nat) (x : Works), v = .agg #[.slice Ab x.bars.length cb, .slice As x.steps.length cs] ∧ In w w.heap.size Ab As none cb cs 0 x [] := by
  obtain ⟨⟨l⟩, rfl, hsz⟩ := okWide_struct Try.underlying25 hv
  obtain ⟨fuel, hf⟩ := h
  obtain ⟨y0, y1, n, _, _, g0, g1⟩ := trod_struct2 Try.underlying25 hf
  have hc : Try.prog.cellsOf (25 : Nat) = 2 := by kernel_rfl
  rw [hc] at hsz
  obtain ⟨u0, u1, rfl⟩ := list_two hsz
  obtain ⟨v0, bars, e0, A0, c0, k0, k1, k2, s0⟩ := open_sl Try.underlying22 (by kernel_rfl) (by decide) el_range g0
  obtain ⟨v1, steps, e1, A1, c1, j0, j1, j2, s1⟩ := open_sl Try.underlying23 (by kernel_rfl) (by decide) el_step g1
  have q0 : u0 = v0 := one_eq e0
  have q1 : u1 = v1 := one_eq e1
  subst q0
  subst q1
  subst k0
  subst j0
  exact ⟨A0, A1, c0, c1, ⟨bars, steps⟩, rfl, ⟨s0, s1, fun h => absurd h (by simp), k1, k2, j1, j2, by simp, by omega, Nat.le_refl _⟩⟩
set_option maxRecDepth 100000 in
theorem open_way {base : Nat} {v : Value} {d : DataW H} {p : List MemPlace} (hv : Value.okWide Try.prog w .any base (28 : Nat) v) (h : DataW.Trod enc Try.prog w 0 (fun _ => true) true (28 : Nat) v d p) :
    ∃ (A : Option Addr) (c : Nat) (ks : List Kink), v = .agg #[.slice A ks.length c] ∧ KinksA w w.heap.size A ks ∧ ks.length ≤ c ∧ c ≤ 9223372036854775807 := by
  obtain ⟨⟨l⟩, rfl, hsz⟩ := okWide_struct Try.underlying28 hv
  obtain ⟨fuel, hf⟩ := h
  obtain ⟨y0, n, _, _, g0⟩ := trod_struct1 Try.underlying28 hf
  have hc : Try.prog.cellsOf (28 : Nat) = 1 := by kernel_rfl
  rw [hc] at hsz
  obtain ⟨u0, rfl⟩ := list_one hsz
  obtain ⟨v0, ks, e0, A0, c0, k0, k1, k2, s0⟩ := open_sl Try.underlying26 (by kernel_rfl) (by decide) el_kink g0
  have q0 : u0 = v0 := one_eq e0
  subst q0
  subst k0
  exact ⟨A0, c0, ks, rfl, s0, k1, k2⟩
set_option maxRecDepth 100000 in
theorem open_recipe {base : Nat} {v : Value} {d : DataW H} {p : List MemPlace} (hv : Value.okWide Try.prog w .any base (42 : Nat) v) (h : DataW.Trod enc Try.prog w 0 (fun _ => true) true (42 : Nat) v d p) :
    ∃ (bar : Int) (A : Option Addr) (c : Nat) (ways : List Int), v = .agg #[.int .i64 bar, .slice A ways.length c] ∧ IntsA .i64 w w.heap.size A ways ∧ ways.length ≤ c ∧ c ≤ 9223372036854775807 := by
  obtain ⟨⟨l⟩, rfl, hsz⟩ := okWide_struct Try.underlying42 hv
  obtain ⟨fuel, hf⟩ := h
  obtain ⟨y0, y1, n, _, _, g0, g1⟩ := trod_struct2 Try.underlying42 hf
  have hc : Try.prog.cellsOf (42 : Nat) = 2 := by kernel_rfl
  rw [hc] at hsz
  obtain ⟨u0, u1, rfl⟩ := list_two hsz
  obtain ⟨bar, e0, _⟩ := DataW.trod_int Try.underlying3 g0
  obtain ⟨v1, ways, e1, A1, c1, j0, j1, j2, s1⟩ := open_sl Try.underlying40 (by kernel_rfl) (by decide) el_int g1
  have q0 : u0 = .int .i64 bar := one_eq e0
  have q1 : u1 = v1 := one_eq e1
  subst q0
  subst q1
  subst j0
  exact ⟨bar, A1, c1, ways, rfl, s1, j1, j2⟩
set_option maxRecDepth 100000 in
theorem open_measured {base : Nat} {v : Value} {d : DataW H} {p : List MemPlace} (hv : Value.okWide Try.prog w .any base (33 : Nat) v) (h : DataW.Trod enc Try.prog w 0 (fun _ => true) true (33 : Nat) v d p) :
    ∃ lo hi : Int, v = .agg #[.int .i64 lo, .int .i64 hi] := by
  obtain ⟨⟨l⟩, rfl, hsz⟩ := okWide_struct Try.underlying33 hv
  obtain ⟨fuel, hf⟩ := h
  obtain ⟨y0, y1, n, _, _, g0, g1⟩ := trod_struct2 Try.underlying33 hf
  have hc : Try.prog.cellsOf (33 : Nat) = 2 := by kernel_rfl
  rw [hc] at hsz
  obtain ⟨u0, u1, rfl⟩ := list_two hsz
  obtain ⟨lo, e0, _⟩ := DataW.trod_int Try.underlying2 g0
  obtain ⟨hi, e1, _⟩ := DataW.trod_int Try.underlying2 g1
  have q0 : u0 = .int .i64 lo := one_eq e0
  have q1 : u1 = .int .i64 hi := one_eq e1
  subst q0
  subst q1
  exact ⟨lo, hi, rfl⟩
set_option maxRecDepth 100000 in
theorem open_int {base : Nat} {t : TypeId} {k : IntKind} {v : Value} {d : DataW H} {p : List MemPlace} (ht : Try.prog.underlying t = some (.int k)) (hv : Value.okWide Try.prog w .any base t v) (h : DataW.Trod enc Try.prog w 0 (fun _ => true) true t v d p) :
    ∃ n : Int, v = .int k n ∧ (Lit.int k n).wf = true := by
  obtain ⟨n, rfl⟩ := okWide_int ht hv
  obtain ⟨fuel, hf⟩ := h
  obtain ⟨m, e, _, hw⟩ := DataW.trod_int ht hf
  have e2 : Value.int k n = .int k m := one_eq e
  obtain rfl : n = m := by simpa using e2
  exact ⟨n, rfl, hw⟩
set_option maxRecDepth 100000 in
theorem open_list {k : IntKind} {t e : TypeId} {base : Nat} {v : Value} {d : DataW H} {p : List MemPlace} (ht : Try.prog.underlying t = some (.slice e)) (hc : Try.prog.cellsOf e = 1) (he : Try.prog.underlying e = some (.int k)) (hv : Value.okWide Try.prog w .any base t v) (h : DataW.Trod enc Try.prog w 0 (fun _ => true) true t v d p) :
    ∃ (A : Option Addr) (c : Nat) (l : List Int), v = .slice A l.length c ∧ IntsA k w w.heap.size A l ∧ l.length ≤ c ∧ c ≤ 9223372036854775807 := by
  obtain ⟨a, n, c, rfl⟩ := okWide_slice ht hv
  obtain ⟨fuel, hf⟩ := h
  obtain ⟨v1, l, e1, A1, c1, j0, j1, j2, s1⟩ := open_sl ht hc (by decide) (elem_int he) hf
  have q1 : Value.slice a n c = v1 := one_eq e1
  subst q1
  rw [j0]
  exact ⟨A1, c1, l, rfl, s1, j1, j2⟩
end
end Go.Proofs.Ytigpefjeelgfdaa

/-
  What came in: numbers that fit their kind.
-/
namespace Go.Proofs.Ytigpefjeelgfdaa
open Go.ChangeShapes Go.WideShapes Go.ChangeAt Go.RowKit Go.Deep

theorem u16_bounds {n : Int} (h : (Lit.int .u16 n).wf = true) : 0 ≤ n ∧ n ≤ 65535 := by
  simp only [Lit.wf, Bool.and_eq_true, decide_eq_true_eq] at h
  have e1 : IntKind.u16.min = 0 := by decide
  have e2 : IntKind.u16.max = 65535 := by decide
  omega
section
variable {H : Type} {enc : TypeId × Value → H} {w : World}
theorem elem_intW {P : Program} {k : IntKind} {e : TypeId} (he : P.underlying e = some (.int k)) : ElemOf enc P w (IntW k) 1 e := by
  intro b off cs n x hb hl hat h
  obtain ⟨m, rfl, _, hw⟩ := DataW.trod_int he h
  exact ⟨m, hat 0 _ rfl, hw⟩
set_option maxRecDepth 100000 in
theorem open_listW {k : IntKind} {t e : TypeId} {base : Nat} {v : Value} {d : DataW H} {p : List MemPlace} (ht : Try.prog.underlying t = some (.slice e)) (hc : Try.prog.cellsOf e = 1) (he : Try.prog.underlying e = some (.int k)) (hv : Value.okWide Try.prog w .any base t v) (h : DataW.Trod enc Try.prog w 0 (fun _ => true) true t v d p) :
    ∃ (A : Option Addr) (c : Nat) (l : List Int), v = .slice A l.length c ∧ IntsW k w w.heap.size A l ∧ l.length ≤ c ∧ c ≤ 9223372036854775807 := by
  obtain ⟨a, n, c, rfl⟩ := okWide_slice ht hv
  obtain ⟨fuel, hf⟩ := h
  obtain ⟨v1, l, e1, A1, c1, j0, j1, j2, s1⟩ := open_sl ht hc (by decide) (elem_intW he) hf
  have q1 : Value.slice a n c = v1 := one_eq e1
  subst q1
  rw [j0]
  exact ⟨A1, c1, l, rfl, s1, j1, j2⟩
end
end Go.Proofs.Ytigpefjeelgfdaa

/-
  Arguments: an array of two whole numbers.
-/
namespace Go.Proofs.Ytigpefjeelgfdaa
open Go.ChangeShapes Go.WideShapes Go.ChangeAt Go.RowKit
section
variable {H : Type} {enc : TypeId × Value → H} {w : World}
set_option maxRecDepth 100000 in
theorem open_two {k : IntKind} {t e : TypeId} {base : Nat} {v : Value} {d : DataW H} {p : List MemPlace} (ht : Try.prog.underlying t = some (.array 2 e)) (hct : Try.prog.cellsOf t = 2) (hc : Try.prog.cellsOf e = 1) (he : Try.prog.underlying e = some (.int k)) (hv : Value.okWide Try.prog w .any base t v) (h : DataW.Trod enc Try.prog w 0 (fun _ => true) true t v d p) :
    ∃ a b : Int, v = .agg #[.int k a, .int k b] ∧ (Lit.int k a).wf = true ∧ (Lit.int k b).wf = true := by
  simp only [Value.okWide, ht] at hv
  obtain ⟨⟨l⟩, rfl, hsz, _⟩ := hv
  rw [hct] at hsz
  obtain ⟨u0, u1, rfl⟩ := list_two hsz
  obtain ⟨fuel, hf⟩ := h
  obtain ⟨xs, m, _, _, _, hl, hg⟩ := DataW.trod_array ht hf
  have g0 := hg 0 (by omega)
  have g1 := hg 1 (by omega)
  rw [List.getElem?_eq_getElem (by omega)] at g0 g1
  rw [hc] at g0 g1
  obtain ⟨a, e0, w0⟩ := DataW.trod_int he g0
  obtain ⟨b, e1, w1⟩ := DataW.trod_int he g1
  have q0 : u0 = .int k a := one_eq e0
  have q1 : u1 = .int k b := one_eq e1
  subst q0
  subst q1
  exact ⟨a, b, rfl, w0.2, w1.2⟩
end
end Go.Proofs.Ytigpefjeelgfdaa

namespace Go.Proofs.Ytigpefjeelgfdaa.heatNarrower
open Go.ChangeShapes Go.WideShapes Go.ChangeAt Go.RowKit

theorem own : ownKnob Try.prog.godebug = none := by kernel_rfl
theorem rowed : ∀ t ∈ Try.f10.params.toList, t < Try.prog.types.size := of_decide_eq_true (by kernel_rfl)

set_option maxRecDepth 100000 in
set_option maxHeartbeats 1000000 in
theorem lifted (os : Os) (started : os.Started) (H : Type) (enc : TypeId × Value → H) :
    ReturnsInHanded {} Try.checked os 10 .any (Rows.heatNarrowerSpec.pre6 enc Try.prog Try.f10 Rows.heatNarrowerRow.domain false) (Rows.heatNarrowerSpec.post enc Try.prog Try.f10 false true false false) := by
  refine returnsInHanded_of_change (C := Try.checked) own started (by kernel_rfl) Try.func10
    (ChangeSpec.witness6 (enc := enc) (C := Try.checked) false ⟨#[], #[.agg #[.slice none 0 0, .slice none 0 0], .slice none 0 0, .agg #[.int .i64 0, .int .i64 0], .agg #[.int .u16 0, .int .u16 0]], []⟩ 8 (by kernel_rfl) (by kernel_rfl) (by kernel_rfl) (by kernel_rfl)) ?_
  intro W base args ds gs before hval0 hW hcnd _
  have hval : ∀ (j : Nat) t v, Try.f10.params[j]? = some t → args[j]? = some v → Value.okWide Try.prog W .any base t v := hval0
  have hW' := hW
  obtain ⟨p, q, hA0, hV, rfl, hfz, hnd⟩ := hW
  have hA : DataW.TrodAll enc Try.prog W 0 (fun _ => true) true Try.f10.params.toList args.toList ds p := hA0
  have hAk := hA
  rw [Try.params10] at hA hval
  obtain ⟨v0, vs0, d0, ds0, a0, b0, e0, f0, rfl, h0, t0⟩ := trodAll_cons hA
  obtain ⟨v1, vs1, d1, ds1, a1, b1, e1, f1, rfl, h1, t1⟩ := trodAll_cons t0
  obtain ⟨v2, vs2, d2, ds2, a2, b2, e2, f2, rfl, h2, t2⟩ := trodAll_cons t1
  obtain ⟨v3, vs3, d3, ds3, a3, b3, e3, f3, rfl, h3, t3⟩ := trodAll_cons t2
  obtain ⟨en, fn, rfl⟩ := trodAll_nil t3
  subst en
  subst fn
  subst e3
  subst f3
  subst e2
  subst f2
  subst e1
  subst f1
  subst f0
  have ea : args = #[v0, v1, v2, v3] := by rw [← Array.toList_inj]; exact e0
  subst ea
  clear e0
  obtain ⟨rfl, rfl⟩ := trodVars_none hV
  clear hA0 hval0 hA
  simp only [List.append_nil] at hW' hAk
  have o0 := hval 0 _ _ rfl rfl
  have o1 := hval 1 _ _ rfl rfl
  have o2 := hval 2 _ _ rfl rfl
  have o3 := hval 3 _ _ rfl rfl
  clear hval
  obtain ⟨Ab, As, cb, cs, x, rfl, hin⟩ := open_works o0 h0
  obtain ⟨Ay, cy, recs, rfl, hy, hy1, hy2⟩ := open_listW Try.underlying66 (by kernel_rfl) Try.underlying5 o1 h1
  obtain ⟨lo, hi, rfl⟩ := open_measured o2 h2
  obtain ⟨wa, wb, rfl, wf1, wf2⟩ := open_two Try.underlying80 (by kernel_rfl) (by kernel_rfl) Try.underlying68 o3 h3
  have k1 := u16_bounds wf1
  have k2 := u16_bounds wf2
  refine Calls.mono (Eng.narrowerLaw_any lo hi wa wb hin hy hy1 hy2 k1.1 k1.2 k2.1 k2.2) fun e W' ⟨he, hb⟩ => ?_
  subst he
  exact ⟨_, rfl, post_later (pv := []) hW' (List.append_nil _).symm (fun _ _ _ => (trodAll_cons_mk (shut_bool Try.underlying4 _) trodAll_mk0))
    (fun sp hsp => args_later kids full rowed hAk hb hsp) (fun _ _ => rfl) (ok_one (by kernel_rfl) rfl (okWide_bool_mk Try.underlying4 _)) hb⟩

theorem over : Rows.heatNarrowerRow.holds Try.pinned (OpenSpec.ofChange Rows.heatNarrowerSpec) :=
  OpenClaim.holds_of_wide 10 Try.f10 rfl rfl rfl rfl rfl rfl rfl ⟨rfl, rfl, rfl, rfl, rfl⟩ rfl rfl rfl rfl rfl (by kernel_rfl) Try.func10 (by kernel_rfl)
    (of_decide_eq_true (by kernel_rfl)) (by unfold Func.isWrapper; first | (rw [if_pos (by decide +kernel)]; kernel_rfl) | (rw [if_neg (by decide +kernel)]; exact ⟨rfl, rfl⟩))
    (fun os started H enc _ => lifted os started H enc)

theorem proved : Rows.HeatNarrowerSaid := over
end Go.Proofs.Ytigpefjeelgfdaa.heatNarrower
