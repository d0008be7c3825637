/-
  HeatParted returns true, for every works, recipe, history and number of first steps: the ranges of the first steps of a recipe are those of the works without the other steps, and those of the others the ranges with what comes out of them as a bar; a history is one of both parts. No condition.
-/
import Derived.Test.YtigpefjeelgfdaaDe6
import Derived.ProofKit
import Derived.OpenShut
import Derived.Below
import Derived.ChangeSame
import Derived.ReadAgain
import Derived.Deep.Slices
set_option linter.unusedSimpArgs false
set_option linter.unusedVariables false
/-
  Layer 1, plain: what HeatParted asks: a works cut in two behind its first steps.
-/
namespace Go.Proofs.Ytigpefjeelgfdaa
open Go.RowKit

/-- The first k steps; and the others, with a bar of one range. -/
def firstW (x : Works) (k : Nat) : Works := ⟨x.bars, x.steps.take k⟩
def restW (x : Works) (k : Nat) (r : Rg) : Works := ⟨[r], x.steps.drop k⟩
theorem manyOk_iff {x : Works} : manyOk x = true ↔ 1 ≤ x.bars.length ∧ x.bars.length ≤ 6 ∧ x.steps.length ≤ 6 ∧ ∀ ws ∈ x.steps, waysMany ws = true := by
  simp only [manyOk, Bool.and_eq_true, Bool.not_eq_true', decide_eq_false_iff_not, List.all_eq_true]
  constructor
  · rintro ⟨h1, h2⟩
    exact ⟨by omega, by omega, by omega, h2⟩
  · rintro ⟨h1, h2, h3, h4⟩
    exact ⟨by omega, h4⟩
theorem firstW_ok {x : Works} (h : worksErr x = 0) (k : Nat) : worksErr (firstW x k) = 0 := by
  obtain ⟨h1, h2, h3⟩ := worksOk_iff.1 h
  obtain ⟨a1, a2, a3, a4⟩ := manyOk_iff.1 h1
  refine worksOk_iff.2 ⟨manyOk_iff.2 ⟨a1, a2, ?_, fun ws hw => a4 ws (List.mem_of_mem_take hw)⟩, h2, List.all_eq_true.2 fun ws hw => List.all_eq_true.1 h3 ws (List.mem_of_mem_take hw)⟩
  simp only [firstW, List.length_take]
  omega
theorem restW_ok {x : Works} (h : worksErr x = 0) (k : Nat) {r : Rg} (hr : isHardB r.1 r.2 = true) : worksErr (restW x k r) = 0 := by
  obtain ⟨h1, h2, h3⟩ := worksOk_iff.1 h
  obtain ⟨a1, a2, a3, a4⟩ := manyOk_iff.1 h1
  refine worksOk_iff.2 ⟨manyOk_iff.2 ⟨by simp [restW], by simp [restW], ?_, fun ws hw => a4 ws (List.mem_of_mem_drop hw)⟩, List.all_eq_true.2 fun a ha => ?_, List.all_eq_true.2 fun ws hw => List.all_eq_true.1 h3 ws (List.mem_of_mem_drop hw)⟩
  · simp only [restW, List.length_drop]
    omega
  · simp only [restW, List.mem_cons, List.not_mem_nil, or_false] at ha
    subst ha
    exact hr
theorem restW_fine {x : Works} (h : fineB x = true) (k : Nat) {r : Rg} (hr : isHardB r.1 r.2 = true) : fineB (restW x k r) = true := by
  have h0 := restW_ok (fineB_works h) k hr
  simp only [fineB, Bool.and_eq_true, Bool.not_eq_true', decide_eq_true_eq] at h ⊢
  refine ⟨?_, h0⟩
  obtain ⟨h1, -⟩ := h
  simp only [greatB, Bool.or_eq_false_iff, decide_eq_false_iff_not, Bool.not_eq_false', List.all_eq_true] at h1 ⊢
  refine ⟨⟨by simp [restW], ?_⟩, fun ws hw => h1.2 ws (List.mem_of_mem_drop hw)⟩
  have := h1.1.2
  simp only [restW, List.length_drop]
  omega
section
variable {x : Works} {m : Nat} {ways hist : List Int} {k : Nat}
theorem intAt_take {l : List Int} {i : Nat} (hi : i < k) : intAt (l.take k) i = intAt l i := by
  simp only [intAt, List.getD_eq_getElem?_getD, List.getElem?_take, if_pos hi]
theorem intAt_drop (l : List Int) (k i : Nat) : intAt (l.drop k) i = intAt l (k + i) := by
  simp only [intAt, List.getD_eq_getElem?_getD, List.getElem?_drop]
theorem stepAt_take {l : List (List (List Kink))} {i : Nat} (hi : i < k) : stepAt (l.take k) i = stepAt l i := by
  simp only [stepAt, List.getD_eq_getElem?_getD, List.getElem?_take, if_pos hi]
theorem stepAt_drop (l : List (List (List Kink))) (k i : Nat) : stepAt (l.drop k) i = stepAt l (k + i) := by
  simp only [stepAt, List.getD_eq_getElem?_getD, List.getElem?_drop]
theorem first_rec (ok : RecOk x m ways) (hk : k ≤ x.steps.length) : RecOk (firstW x k) m (ways.take k) := by
  have hl := ok.len
  refine ⟨firstW_ok ok.works k, by simp only [firstW, List.length_take]; omega, ok.bar0, ok.bar1, fun i hi => ?_⟩
  rw [List.length_take] at hi
  have h1 := ok.ways i (by omega)
  simp only [wayIn, decide_eq_true_eq] at h1 ⊢
  simp only [firstW]
  rw [intAt_take (by omega), stepAt_take (by omega)]
  exact h1
theorem rest_rec (ok : RecOk x m ways) {r : Rg} (hr : isHardB r.1 r.2 = true) : RecOk (restW x k r) ((0 : Nat) : Int) (ways.drop k) := by
  have hl := ok.len
  refine ⟨restW_ok ok.works k hr, by simp only [restW, List.length_drop]; omega, by omega, by simp [restW], fun i hi => ?_⟩
  rw [List.length_drop] at hi
  have h1 := ok.ways (k + i) (by omega)
  simp only [wayIn, decide_eq_true_eq] at h1 ⊢
  simp only [restW]
  rw [intAt_drop, stepAt_drop]
  exact h1
theorem wayOf_first {i : Nat} (hi : i < k) : wayOf (firstW x k) (ways.take k) i = wayOf x ways i := by
  simp only [wayOf, firstW]
  rw [intAt_take hi, stepAt_take hi]
theorem wayOf_rest (x : Works) (ways : List Int) (k : Nat) (r : Rg) (i : Nat) : wayOf (restW x k r) (ways.drop k) i = wayOf x ways (k + i) := by
  simp only [wayOf, restW]
  rw [intAt_drop, stepAt_drop]
theorem rng_first : ∀ i, i ≤ k → rngN (firstW x k) m (ways.take k) i = rngN x m ways i
  | 0, _ => rfl
  | i + 1, hi => by
    show ((aft (wayOf (firstW x k) (ways.take k) i) (rngN (firstW x k) m (ways.take k) i).1).1, (aft (wayOf (firstW x k) (ways.take k) i) (rngN (firstW x k) m (ways.take k) i).2).2) = _
    rw [rng_first i (by omega), wayOf_first (by omega)]
    rfl
theorem rng_rest (x : Works) (m : Nat) (ways : List Int) (k : Nat) : ∀ i, rngN (restW x k (rngN x m ways k)) 0 (ways.drop k) i = rngN x m ways (k + i)
  | 0 => rfl
  | i + 1 => by
    show ((aft (wayOf (restW x k (rngN x m ways k)) (ways.drop k) i) (rngN (restW x k (rngN x m ways k)) 0 (ways.drop k) i).1).1, (aft (wayOf (restW x k (rngN x m ways k)) (ways.drop k) i) (rngN (restW x k (rngN x m ways k)) 0 (ways.drop k) i).2).2) = _
    rw [rng_rest x m ways k i, wayOf_rest]
    rfl
theorem rngs_first (hk : k ≤ x.steps.length) : rngsOf (firstW x k) m (ways.take k) = (rngsOf x m ways).take (k + 1) := by
  apply List.ext_getElem?
  intro i
  have hl : (firstW x k).steps.length = k := by simp only [firstW, List.length_take]; omega
  rw [List.getElem?_take]
  by_cases h : i < k + 1
  · rw [if_pos h, rngsOf_at (by omega), rngsOf_at (by omega), rng_first i (by omega)]
  · rw [if_neg h, List.getElem?_eq_none (by rw [rngsOf_len]; omega)]
theorem rngs_rest (hk : k ≤ x.steps.length) : rngsOf (restW x k (rngN x m ways k)) ((0 : Nat) : Int) (ways.drop k) = (rngsOf x m ways).drop k := by
  apply List.ext_getElem?
  intro i
  have hl : (restW x k (rngN x m ways k)).steps.length = x.steps.length - k := by simp only [restW, List.length_drop]
  rw [List.getElem?_drop]
  by_cases h : i ≤ x.steps.length - k
  · rw [rngsOf_at (by omega), rngsOf_at (by omega), rng_rest]
  · rw [List.getElem?_eq_none (by rw [rngsOf_len]; omega), List.getElem?_eq_none (by rw [rngsOf_len]; omega)]
theorem hist_all (ok : RecOk x m ways) (h : histErr x m ways hist = 0) (hl : hist.length = x.steps.length + 1) : ∀ i, i ≤ x.steps.length → histOk x m ways hist i = true := by
  have hall : allN (histOk x m ways hist) hist.length = true := by
    by_cases g : allN (histOk x m ways hist) hist.length = true
    · exact g
    · have g' : allN (histOk x m ways hist) hist.length = false := by simpa using g
      unfold histErr at h
      rw [if_neg (by simpa using recOk_iff.2 ok), if_neg (by simpa using hl), if_pos g'] at h
      cases h
  intro i hi
  exact allN_iff.1 hall i (by omega)
theorem first_hist (ok : RecOk x m ways) (h : histErr x m ways hist = 0) (hl : hist.length = x.steps.length + 1) (hk : k ≤ x.steps.length) : histErr (firstW x k) m (ways.take k) (hist.take (k + 1)) = 0 := by
  have hls : (firstW x k).steps.length = k := by simp only [firstW, List.length_take]; omega
  refine histErr_ok (recOk_iff.2 (first_rec ok hk)) (by rw [hls, List.length_take]; omega) (allN_iff.2 fun i hi => ?_)
  rw [List.length_take] at hi
  have h1 := hist_all ok h hl i (by omega)
  rcases i with _ | i
  · simp only [histOk, within] at h1 ⊢
    rw [intAt_take (by omega)]
    exact h1
  · simp only [histOk, within] at h1 ⊢
    rw [intAt_take (by omega), intAt_take (by omega), wayOf_first (by omega)]
    exact h1
theorem rest_hist (ok : RecOk x m ways) (h : histErr x m ways hist = 0) (hl : hist.length = x.steps.length + 1) (hk : k ≤ x.steps.length) : histErr (restW x k (rngN x m ways k)) ((0 : Nat) : Int) (ways.drop k) (hist.drop k) = 0 := by
  have hls : (restW x k (rngN x m ways k)).steps.length = x.steps.length - k := by simp only [restW, List.length_drop]
  have hv := rngN_val ok k hk
  refine histErr_ok (recOk_iff.2 (rest_rec ok (isHardB_iff.2 hv))) (by rw [hls, List.length_drop]; omega) (allN_iff.2 fun i hi => ?_)
  rw [List.length_drop] at hi
  rcases i with _ | i
  · have h2 := hist_rng ok h hl k hk
    simp only [histOk, within]
    rw [intAt_drop]
    simp only [inB, decide_eq_true_eq, Nat.add_zero]
    exact h2
  · have h1 := hist_all ok h hl (k + i + 1) (by omega)
    simp only [histOk, within] at h1 ⊢
    rw [intAt_drop, intAt_drop, wayOf_rest]
    exact h1
end
end Go.Proofs.Ytigpefjeelgfdaa

/-
  Layer 1's statements, by the engine: a works in two parts.
-/
namespace Go.Proofs.Ytigpefjeelgfdaa.Eng
open Go.RowKit

theorem recipe_c (bar : Int) (ways : List Int) : ACall Try.prog 51 [iD bar, intL ways] (recD bar ways) :=
  ⟨callable_of Try.func51 rfl rfl, fun ro w vs hro hs hr => by
    obtain ⟨l⟩ := vs
    match l, hs with
    | [v, u], _ =>
      obtain rfl := iD_inv (hr 0 _ v rfl rfl)
      have hu := hr 1 _ u rfl rfl
      have hu' := hu
      cases hu with
      | list _ A c f h1 h2 h3 h4 h5 =>
        refine (recipe_laid bar A _ c w).mono ?_
        rintro e w' ⟨he, hb⟩
        exact ⟨_, he, hb, agg2 (.val _ rfl) (hu'.keep (fun _ h => .inl h) fun b h => hb.block b (hro b h)) rfl rfl⟩⟩
theorem rngsOf_endsL {x : Works} {m : Nat} {ways : List Int} (ok : RecOk x m ways) : endsL (rowOf x ways (barP x (m : Int).toNat)) (x.steps.length + 1) = rngsOf x m ways := by
  rw [Int.toNat_natCast, endsL_iv ok]
  rfl
theorem rec_zero {x : Works} {m : Nat} {ways : List Int} (ok : RecOk x m ways) : recErr x m ways = 0 := recOk_iff.2 ok
theorem ranges_ok {x : Works} {m : Nat} {ways : List Int} (ok : RecOk x m ways) : ACall Try.prog 23 [worksD x, recD m ways] (.tup [.list (rgRows (rngsOf x m ways)), iD 0]) := by
  have h := ranges_w x m ways
  rw [rngsOf_endsL ok, rec_zero ok] at h
  exact h
theorem firstW_d (x : Works) (k : Nat) : worksD (firstW x k) = .agg [.list (rgRows x.bars), .list ((stepRows x.steps).take k)] := by simp only [worksD, firstW, stepRows, List.map_take]
theorem restW_d (x : Works) (k : Nat) (r : Rg) : worksD (restW x k r) = .agg [.list [[iD r.1, iD r.2]], .list ((stepRows x.steps).drop k)] := by simp only [worksD, restW, stepRows, List.map_drop]; rfl
theorem rec_take (b : Int) (ways : List Int) (k : Nat) : recD b (ways.take k) = .agg [iD b, .list ((iRows ways).take k)] := by simp only [recD, intL, iRows, List.map_take]
theorem rec_drop (b : Int) (ways : List Int) (k : Nat) : recD b (ways.drop k) = .agg [iD b, .list ((iRows ways).drop k)] := by simp only [recD, intL, iRows, List.map_drop]
theorem intL_take (l : List Int) (k : Nat) : intL (l.take k) = .list ((iRows l).take k) := by simp only [intL, iRows, List.map_take]
theorem intL_drop (l : List Int) (k : Nat) : intL (l.drop k) = .list ((iRows l).drop k) := by simp only [intL, iRows, List.map_drop]
theorem rgRows_take (l : List Rg) (k : Nat) : rgRows (l.take k) = (rgRows l).take k := by simp only [rgRows, List.map_take]
theorem rgRows_drop (l : List Rg) (k : Nat) : rgRows (l.drop k) = (rgRows l).drop k := by simp only [rgRows, List.map_drop]

theorem stepRows_each (l : List (List (List Kink))) (p : List Dat → Prop) : (∀ r ∈ stepRows l, p r) ↔ ∀ ws ∈ l, p [.list (wayRows ws)] := by simp [stepRows]
theorem rgRows_each (l : List Rg) (p : List Dat → Prop) : (∀ r ∈ rgRows l, p r) ↔ ∀ x ∈ l, p (rgRow x) := by unfold rgRows; exact List.forall_mem_map
theorem iRows_each (l : List Int) (p : List Dat → Prop) : (∀ r ∈ iRows l, p r) ↔ ∀ x ∈ l, p [iD x] := by simp [iRows]
set_option maxRecDepth 100000 in
set_option maxHeartbeats 4000000 in
theorem parted_out (x : Works) (nums lives : List Int) (f : Int) (h : fineB x = false ∨ (20 : Int) < nums.length ∨ (20 : Int) < lives.length) : WCall Try.prog 12 [worksD x, kintL .u8 nums, kintL .u32 lives, .val (.int .u8 f)] (bD true) := by
  have hg := fine_c x
  have hw := works_c
  rcases hgb : fineB x <;> rw [hgb] at hg
  · refine wcallK Try.func12 rfl rfl (show 4 ≤ _ by decide) rfl fun _ => ?_; simp only [Try.ntmps12]
    repeat (first | (with_reducible refine AWp.seqK fun _ => ?_) | (with_reducible refine AWp.blockK fun _ => ?_) | (with_reducible refine KK.go ?_) | (refine AWp.reg tabOk ?_; simp [-getElem?_pos, List.getElem?_cons_zero, List.getElem?_cons_succ, List.getElem?_nil, ]) | (refine AWp.condK fun _ _ => ?_; simp [-getElem?_pos, List.getElem?_cons_zero, List.getElem?_cons_succ, List.getElem?_nil, ]) | (refine AWp.ret ?_; try simp only [thenP]) | (refine AWp.skip ?_; try simp only [thenP]) | (refine AWp.exit ?_; try simp only [thenP]) | (with_reducible refine BB.go ?_; simp only [blockP, thenP, if_true, if_false, reduceIte]) | (refine AWp.draws tabOk (by kernel_rfl) (by kernel_rfl) ?_; simp [-getElem?_pos, List.getElem?_cons_zero, List.getElem?_cons_succ, List.getElem?_nil, ]) | (with_reducible refine And.intro (show okLog _ _ = true from by kernel_rfl) ?_))
    first | (refine Exec0.call [] hg (by simp [-getElem?_pos, ]) rfl (by simp [-getElem?_pos, List.getElem?_cons_zero, List.getElem?_cons_succ, List.getElem?_nil, ]) ?_; simp [-getElem?_pos, List.getElem?_cons_zero, List.getElem?_cons_succ, List.getElem?_nil, ]) | (refine Exec.call [] hg (by simp [-getElem?_pos, ]) rfl (by simp [-getElem?_pos, List.getElem?_cons_zero, List.getElem?_cons_succ, List.getElem?_nil, ]) ?_; simp [-getElem?_pos, List.getElem?_cons_zero, List.getElem?_cons_succ, List.getElem?_nil, ])
    repeat (first | (with_reducible refine AWp.seqK fun _ => ?_) | (with_reducible refine AWp.blockK fun _ => ?_) | (with_reducible refine KK.go ?_) | (refine AWp.reg tabOk ?_; simp [-getElem?_pos, List.getElem?_cons_zero, List.getElem?_cons_succ, List.getElem?_nil, ]) | (refine AWp.condK fun _ _ => ?_; simp [-getElem?_pos, List.getElem?_cons_zero, List.getElem?_cons_succ, List.getElem?_nil, ]) | (refine AWp.ret ?_; try simp only [thenP]) | (refine AWp.skip ?_; try simp only [thenP]) | (refine AWp.exit ?_; try simp only [thenP]) | (with_reducible refine BB.go ?_; simp only [blockP, thenP, if_true, if_false, reduceIte]) | (refine AWp.draws tabOk (by kernel_rfl) (by kernel_rfl) ?_; simp [-getElem?_pos, List.getElem?_cons_zero, List.getElem?_cons_succ, List.getElem?_nil, ]) | (with_reducible refine And.intro (show okLog _ _ = true from by kernel_rfl) ?_))
    first | (refine Exec0.call [] hw (by simp [-getElem?_pos, ]) rfl (by simp [-getElem?_pos, List.getElem?_cons_zero, List.getElem?_cons_succ, List.getElem?_nil, ]) ?_; simp [-getElem?_pos, List.getElem?_cons_zero, List.getElem?_cons_succ, List.getElem?_nil, ]) | (refine Exec.call [] hw (by simp [-getElem?_pos, ]) rfl (by simp [-getElem?_pos, List.getElem?_cons_zero, List.getElem?_cons_succ, List.getElem?_nil, ]) ?_; simp [-getElem?_pos, List.getElem?_cons_zero, List.getElem?_cons_succ, List.getElem?_nil, ])
    repeat (first | (with_reducible refine AWp.seqK fun _ => ?_) | (with_reducible refine AWp.blockK fun _ => ?_) | (with_reducible refine KK.go ?_) | (refine AWp.reg tabOk ?_; simp [-getElem?_pos, List.getElem?_cons_zero, List.getElem?_cons_succ, List.getElem?_nil, ]) | (refine AWp.condK fun _ _ => ?_; simp [-getElem?_pos, List.getElem?_cons_zero, List.getElem?_cons_succ, List.getElem?_nil, ]) | (refine AWp.ret ?_; try simp only [thenP]) | (refine AWp.skip ?_; try simp only [thenP]) | (refine AWp.exit ?_; try simp only [thenP]) | (with_reducible refine BB.go ?_; simp only [blockP, thenP, if_true, if_false, reduceIte]) | (refine AWp.draws tabOk (by kernel_rfl) (by kernel_rfl) ?_; simp [-getElem?_pos, List.getElem?_cons_zero, List.getElem?_cons_succ, List.getElem?_nil, ]) | (with_reducible refine And.intro (show okLog _ _ = true from by kernel_rfl) ?_))
    (first | refine RR.ret ?_ | refine RR.normal ?_); simp []
  by_cases hl : (20 : Int) < nums.length
  · refine wcallK Try.func12 rfl rfl (show 4 ≤ _ by decide) rfl fun _ => ?_; simp only [Try.ntmps12]
    repeat (first | (with_reducible refine AWp.seqK fun _ => ?_) | (with_reducible refine AWp.blockK fun _ => ?_) | (with_reducible refine KK.go ?_) | (refine AWp.reg tabOk ?_; simp [-getElem?_pos, List.getElem?_cons_zero, List.getElem?_cons_succ, List.getElem?_nil, hl]) | (refine AWp.condK fun _ _ => ?_; simp [-getElem?_pos, List.getElem?_cons_zero, List.getElem?_cons_succ, List.getElem?_nil, hl]) | (refine AWp.ret ?_; try simp only [thenP]) | (refine AWp.skip ?_; try simp only [thenP]) | (refine AWp.exit ?_; try simp only [thenP]) | (with_reducible refine BB.go ?_; simp only [blockP, thenP, if_true, if_false, reduceIte]) | (refine AWp.draws tabOk (by kernel_rfl) (by kernel_rfl) ?_; simp [-getElem?_pos, List.getElem?_cons_zero, List.getElem?_cons_succ, List.getElem?_nil, hl]) | (with_reducible refine And.intro (show okLog _ _ = true from by kernel_rfl) ?_))
    first | (refine Exec0.call [] hg (by simp [-getElem?_pos, hl]) rfl (by simp [-getElem?_pos, List.getElem?_cons_zero, List.getElem?_cons_succ, List.getElem?_nil, hl]) ?_; simp [-getElem?_pos, List.getElem?_cons_zero, List.getElem?_cons_succ, List.getElem?_nil, hl]) | (refine Exec.call [] hg (by simp [-getElem?_pos, hl]) rfl (by simp [-getElem?_pos, List.getElem?_cons_zero, List.getElem?_cons_succ, List.getElem?_nil, hl]) ?_; simp [-getElem?_pos, List.getElem?_cons_zero, List.getElem?_cons_succ, List.getElem?_nil, hl])
    repeat (first | (with_reducible refine AWp.seqK fun _ => ?_) | (with_reducible refine AWp.blockK fun _ => ?_) | (with_reducible refine KK.go ?_) | (refine AWp.reg tabOk ?_; simp [-getElem?_pos, List.getElem?_cons_zero, List.getElem?_cons_succ, List.getElem?_nil, hl]) | (refine AWp.condK fun _ _ => ?_; simp [-getElem?_pos, List.getElem?_cons_zero, List.getElem?_cons_succ, List.getElem?_nil, hl]) | (refine AWp.ret ?_; try simp only [thenP]) | (refine AWp.skip ?_; try simp only [thenP]) | (refine AWp.exit ?_; try simp only [thenP]) | (with_reducible refine BB.go ?_; simp only [blockP, thenP, if_true, if_false, reduceIte]) | (refine AWp.draws tabOk (by kernel_rfl) (by kernel_rfl) ?_; simp [-getElem?_pos, List.getElem?_cons_zero, List.getElem?_cons_succ, List.getElem?_nil, hl]) | (with_reducible refine And.intro (show okLog _ _ = true from by kernel_rfl) ?_))
    first | (refine Exec0.call [] hw (by simp [-getElem?_pos, ]) rfl (by simp [-getElem?_pos, List.getElem?_cons_zero, List.getElem?_cons_succ, List.getElem?_nil, ]) ?_; simp [-getElem?_pos, List.getElem?_cons_zero, List.getElem?_cons_succ, List.getElem?_nil, ]) | (refine Exec.call [] hw (by simp [-getElem?_pos, ]) rfl (by simp [-getElem?_pos, List.getElem?_cons_zero, List.getElem?_cons_succ, List.getElem?_nil, ]) ?_; simp [-getElem?_pos, List.getElem?_cons_zero, List.getElem?_cons_succ, List.getElem?_nil, ])
    repeat (first | (with_reducible refine AWp.seqK fun _ => ?_) | (with_reducible refine AWp.blockK fun _ => ?_) | (with_reducible refine KK.go ?_) | (refine AWp.reg tabOk ?_; simp [-getElem?_pos, List.getElem?_cons_zero, List.getElem?_cons_succ, List.getElem?_nil, ]) | (refine AWp.condK fun _ _ => ?_; simp [-getElem?_pos, List.getElem?_cons_zero, List.getElem?_cons_succ, List.getElem?_nil, ]) | (refine AWp.ret ?_; try simp only [thenP]) | (refine AWp.skip ?_; try simp only [thenP]) | (refine AWp.exit ?_; try simp only [thenP]) | (with_reducible refine BB.go ?_; simp only [blockP, thenP, if_true, if_false, reduceIte]) | (refine AWp.draws tabOk (by kernel_rfl) (by kernel_rfl) ?_; simp [-getElem?_pos, List.getElem?_cons_zero, List.getElem?_cons_succ, List.getElem?_nil, ]) | (with_reducible refine And.intro (show okLog _ _ = true from by kernel_rfl) ?_))
    (first | refine RR.ret ?_ | refine RR.normal ?_); simp []
  · by_cases hl2 : (20 : Int) < lives.length
    · refine wcallK Try.func12 rfl rfl (show 4 ≤ _ by decide) rfl fun _ => ?_; simp only [Try.ntmps12]
      repeat (first | (with_reducible refine AWp.seqK fun _ => ?_) | (with_reducible refine AWp.blockK fun _ => ?_) | (with_reducible refine KK.go ?_) | (refine AWp.reg tabOk ?_; simp [-getElem?_pos, List.getElem?_cons_zero, List.getElem?_cons_succ, List.getElem?_nil, hl, hl2]) | (refine AWp.condK fun _ _ => ?_; simp [-getElem?_pos, List.getElem?_cons_zero, List.getElem?_cons_succ, List.getElem?_nil, hl, hl2]) | (refine AWp.ret ?_; try simp only [thenP]) | (refine AWp.skip ?_; try simp only [thenP]) | (refine AWp.exit ?_; try simp only [thenP]) | (with_reducible refine BB.go ?_; simp only [blockP, thenP, if_true, if_false, reduceIte]) | (refine AWp.draws tabOk (by kernel_rfl) (by kernel_rfl) ?_; simp [-getElem?_pos, List.getElem?_cons_zero, List.getElem?_cons_succ, List.getElem?_nil, hl, hl2]) | (with_reducible refine And.intro (show okLog _ _ = true from by kernel_rfl) ?_))
      first | (refine Exec0.call [] hg (by simp [-getElem?_pos, hl, hl2]) rfl (by simp [-getElem?_pos, List.getElem?_cons_zero, List.getElem?_cons_succ, List.getElem?_nil, hl, hl2]) ?_; simp [-getElem?_pos, List.getElem?_cons_zero, List.getElem?_cons_succ, List.getElem?_nil, hl, hl2]) | (refine Exec.call [] hg (by simp [-getElem?_pos, hl, hl2]) rfl (by simp [-getElem?_pos, List.getElem?_cons_zero, List.getElem?_cons_succ, List.getElem?_nil, hl, hl2]) ?_; simp [-getElem?_pos, List.getElem?_cons_zero, List.getElem?_cons_succ, List.getElem?_nil, hl, hl2])
      repeat (first | (with_reducible refine AWp.seqK fun _ => ?_) | (with_reducible refine AWp.blockK fun _ => ?_) | (with_reducible refine KK.go ?_) | (refine AWp.reg tabOk ?_; simp [-getElem?_pos, List.getElem?_cons_zero, List.getElem?_cons_succ, List.getElem?_nil, hl, hl2]) | (refine AWp.condK fun _ _ => ?_; simp [-getElem?_pos, List.getElem?_cons_zero, List.getElem?_cons_succ, List.getElem?_nil, hl, hl2]) | (refine AWp.ret ?_; try simp only [thenP]) | (refine AWp.skip ?_; try simp only [thenP]) | (refine AWp.exit ?_; try simp only [thenP]) | (with_reducible refine BB.go ?_; simp only [blockP, thenP, if_true, if_false, reduceIte]) | (refine AWp.draws tabOk (by kernel_rfl) (by kernel_rfl) ?_; simp [-getElem?_pos, List.getElem?_cons_zero, List.getElem?_cons_succ, List.getElem?_nil, hl, hl2]) | (with_reducible refine And.intro (show okLog _ _ = true from by kernel_rfl) ?_))
      first | (refine Exec0.call [] hw (by simp [-getElem?_pos, ]) rfl (by simp [-getElem?_pos, List.getElem?_cons_zero, List.getElem?_cons_succ, List.getElem?_nil, ]) ?_; simp [-getElem?_pos, List.getElem?_cons_zero, List.getElem?_cons_succ, List.getElem?_nil, ]) | (refine Exec.call [] hw (by simp [-getElem?_pos, ]) rfl (by simp [-getElem?_pos, List.getElem?_cons_zero, List.getElem?_cons_succ, List.getElem?_nil, ]) ?_; simp [-getElem?_pos, List.getElem?_cons_zero, List.getElem?_cons_succ, List.getElem?_nil, ])
      repeat (first | (with_reducible refine AWp.seqK fun _ => ?_) | (with_reducible refine AWp.blockK fun _ => ?_) | (with_reducible refine KK.go ?_) | (refine AWp.reg tabOk ?_; simp [-getElem?_pos, List.getElem?_cons_zero, List.getElem?_cons_succ, List.getElem?_nil, ]) | (refine AWp.condK fun _ _ => ?_; simp [-getElem?_pos, List.getElem?_cons_zero, List.getElem?_cons_succ, List.getElem?_nil, ]) | (refine AWp.ret ?_; try simp only [thenP]) | (refine AWp.skip ?_; try simp only [thenP]) | (refine AWp.exit ?_; try simp only [thenP]) | (with_reducible refine BB.go ?_; simp only [blockP, thenP, if_true, if_false, reduceIte]) | (refine AWp.draws tabOk (by kernel_rfl) (by kernel_rfl) ?_; simp [-getElem?_pos, List.getElem?_cons_zero, List.getElem?_cons_succ, List.getElem?_nil, ]) | (with_reducible refine And.intro (show okLog _ _ = true from by kernel_rfl) ?_))
      (first | refine RR.ret ?_ | refine RR.normal ?_); simp []
    · simp [hgb, hl, hl2] at h
set_option maxRecDepth 100000 in
set_option maxHeartbeats 4000000 in
theorem parted_in (x : Works) (nums lives : List Int) (f : Int) (k : Nat) (hk : k ≤ x.steps.length) (hf0 : 0 ≤ f) (hf1 : f < 256) (hfk : f.tmod ((x.steps.length : Int) + 1) = k) (hgb : fineB x = true) (hl : ¬ (20 : Int) < nums.length) (hl2 : ¬ (20 : Int) < lives.length) (hnw : ∀ n ∈ nums, (Lit.int .u8 n).wf = true) (hlw : ∀ n ∈ lives, (Lit.int .u32 n).wf = true) :
    WCall Try.prog 12 [worksD x, kintL .u8 nums, kintL .u32 lives, .val (.int .u8 f)] (bD true) := by
  have hg := fine_c x
  have hw := works_c
  rw [hgb] at hg
  have hmany := (manyOk_iff.1 (worksOk_iff.1 (fineB_works hgb)).1)
  have h1c := one_c (fineB_works hgb) nums hnw
  have wf : IntKind.i64.wrap f = f := wrap64_in (by omega)
  have wl : IntKind.i64.wrap ((x.steps.length : Int) + 1) = (x.steps.length : Int) + 1 := wrap64_in (by omega)
  have wk : IntKind.i64.wrap ((k : Int) + 1) = (k : Int) + 1 := wrap64_in (by omega)
  have hz : ¬ (x.steps.length : Int) + 1 = 0 := by omega
  refine wcallK Try.func12 rfl rfl (show 4 ≤ _ by decide) rfl fun _ => ?_; simp only [Try.ntmps12]
  (first | (with_reducible refine AWp.seqK fun _ => ?_) | (with_reducible refine AWp.blockK fun _ => ?_) | (with_reducible refine KK.go ?_) | (refine AWp.reg tabOk ?_; simp [-getElem?_pos, List.getElem?_cons_zero, List.getElem?_cons_succ, List.getElem?_nil, ]) | (refine AWp.condK fun _ _ => ?_; simp [-getElem?_pos, List.getElem?_cons_zero, List.getElem?_cons_succ, List.getElem?_nil, ]) | (refine AWp.ret ?_; try simp only [thenP]) | (refine AWp.skip ?_; try simp only [thenP]) | (refine AWp.exit ?_; try simp only [thenP]) | (with_reducible refine BB.go ?_; simp only [blockP, thenP, if_true, if_false, reduceIte]) | (refine AWp.draws tabOk (by kernel_rfl) (by kernel_rfl) ?_; simp [-getElem?_pos, List.getElem?_cons_zero, List.getElem?_cons_succ, List.getElem?_nil, ]) | (with_reducible refine And.intro (show okLog _ _ = true from by kernel_rfl) ?_))
  (first | (with_reducible refine AWp.seqK fun _ => ?_) | (with_reducible refine AWp.blockK fun _ => ?_) | (with_reducible refine KK.go ?_) | (refine AWp.reg tabOk ?_; simp [-getElem?_pos, List.getElem?_cons_zero, List.getElem?_cons_succ, List.getElem?_nil, ]) | (refine AWp.condK fun _ _ => ?_; simp [-getElem?_pos, List.getElem?_cons_zero, List.getElem?_cons_succ, List.getElem?_nil, ]) | (refine AWp.ret ?_; try simp only [thenP]) | (refine AWp.skip ?_; try simp only [thenP]) | (refine AWp.exit ?_; try simp only [thenP]) | (with_reducible refine BB.go ?_; simp only [blockP, thenP, if_true, if_false, reduceIte]) | (refine AWp.draws tabOk (by kernel_rfl) (by kernel_rfl) ?_; simp [-getElem?_pos, List.getElem?_cons_zero, List.getElem?_cons_succ, List.getElem?_nil, ]) | (with_reducible refine And.intro (show okLog _ _ = true from by kernel_rfl) ?_))
  (first | (with_reducible refine AWp.seqK fun _ => ?_) | (with_reducible refine AWp.blockK fun _ => ?_) | (with_reducible refine KK.go ?_) | (refine AWp.reg tabOk ?_; simp [-getElem?_pos, List.getElem?_cons_zero, List.getElem?_cons_succ, List.getElem?_nil, ]) | (refine AWp.condK fun _ _ => ?_; simp [-getElem?_pos, List.getElem?_cons_zero, List.getElem?_cons_succ, List.getElem?_nil, ]) | (refine AWp.ret ?_; try simp only [thenP]) | (refine AWp.skip ?_; try simp only [thenP]) | (refine AWp.exit ?_; try simp only [thenP]) | (with_reducible refine BB.go ?_; simp only [blockP, thenP, if_true, if_false, reduceIte]) | (refine AWp.draws tabOk (by kernel_rfl) (by kernel_rfl) ?_; simp [-getElem?_pos, List.getElem?_cons_zero, List.getElem?_cons_succ, List.getElem?_nil, ]) | (with_reducible refine And.intro (show okLog _ _ = true from by kernel_rfl) ?_))
  refine AWp.fits (n := 1) (l := [(1, .d (kintL .u8 nums)), (2, .d (kintL .u32 lives)), (3, .d (.val (.int .u8 f))), (4, .ptr 0 0 0)]) (m := [(0, .box 25 [.d (.list (rgRows x.bars)), .d (.list (stepRows x.steps))] false)]) (σ := [0]) ⟨by rfl, by simp, by simp [or_imp, forall_and], by decide⟩ (AWp.frost ?_); simp only [List.map_cons, List.map_nil, frzB]
  repeat (first | (with_reducible refine AWp.seqK fun _ => ?_) | (with_reducible refine AWp.blockK fun _ => ?_) | (with_reducible refine KK.go ?_) | (refine AWp.reg tabOk ?_; simp [-getElem?_pos, List.getElem?_cons_zero, List.getElem?_cons_succ, List.getElem?_nil, hl, hl2]) | (refine AWp.condK fun _ _ => ?_; simp [-getElem?_pos, List.getElem?_cons_zero, List.getElem?_cons_succ, List.getElem?_nil, hl, hl2]) | (refine AWp.ret ?_; try simp only [thenP]) | (refine AWp.skip ?_; try simp only [thenP]) | (refine AWp.exit ?_; try simp only [thenP]) | (with_reducible refine BB.go ?_; simp only [blockP, thenP, if_true, if_false, reduceIte]) | (refine AWp.draws tabOk (by kernel_rfl) (by kernel_rfl) ?_; simp [-getElem?_pos, List.getElem?_cons_zero, List.getElem?_cons_succ, List.getElem?_nil, hl, hl2]) | (with_reducible refine And.intro (show okLog _ _ = true from by kernel_rfl) ?_))
  first | (refine Exec0.call [] hg (by simp [-getElem?_pos, hl, hl2]) rfl (by simp [-getElem?_pos, List.getElem?_cons_zero, List.getElem?_cons_succ, List.getElem?_nil, hl, hl2]) ?_; simp [-getElem?_pos, List.getElem?_cons_zero, List.getElem?_cons_succ, List.getElem?_nil, hl, hl2]) | (refine Exec.call [] hg (by simp [-getElem?_pos, hl, hl2]) rfl (by simp [-getElem?_pos, List.getElem?_cons_zero, List.getElem?_cons_succ, List.getElem?_nil, hl, hl2]) ?_; simp [-getElem?_pos, List.getElem?_cons_zero, List.getElem?_cons_succ, List.getElem?_nil, hl, hl2])
  repeat (first | (with_reducible refine AWp.seqK fun _ => ?_) | (with_reducible refine AWp.blockK fun _ => ?_) | (with_reducible refine KK.go ?_) | (refine AWp.reg tabOk ?_; simp [-getElem?_pos, List.getElem?_cons_zero, List.getElem?_cons_succ, List.getElem?_nil, hl, hl2]) | (refine AWp.condK fun _ _ => ?_; simp [-getElem?_pos, List.getElem?_cons_zero, List.getElem?_cons_succ, List.getElem?_nil, hl, hl2]) | (refine AWp.ret ?_; try simp only [thenP]) | (refine AWp.skip ?_; try simp only [thenP]) | (refine AWp.exit ?_; try simp only [thenP]) | (with_reducible refine BB.go ?_; simp only [blockP, thenP, if_true, if_false, reduceIte]) | (refine AWp.draws tabOk (by kernel_rfl) (by kernel_rfl) ?_; simp [-getElem?_pos, List.getElem?_cons_zero, List.getElem?_cons_succ, List.getElem?_nil, hl, hl2]) | (with_reducible refine And.intro (show okLog _ _ = true from by kernel_rfl) ?_))
  refine Exec0.callE h1c rfl (by simp [-getElem?_pos, recD]) rfl (by simp [-getElem?_pos, List.getElem?_cons_zero, List.getElem?_cons_succ, List.getElem?_nil, recD]) (AllFrz_mk (by simp [Blk.frz])) ?_; rintro _ ⟨m, ways, rfl, ok⟩; simp [-getElem?_pos, List.getElem?_cons_zero, List.getElem?_cons_succ, List.getElem?_nil, recD]
  iterate 1 (first | (with_reducible refine AWp.seqK fun _ => ?_) | (with_reducible refine AWp.blockK fun _ => ?_) | (with_reducible refine KK.go ?_) | (refine AWp.reg tabOk ?_; simp [-getElem?_pos, List.getElem?_cons_zero, List.getElem?_cons_succ, List.getElem?_nil, ]) | (refine AWp.condK fun _ _ => ?_; simp [-getElem?_pos, List.getElem?_cons_zero, List.getElem?_cons_succ, List.getElem?_nil, ]) | (refine AWp.ret ?_; try simp only [thenP]) | (refine AWp.skip ?_; try simp only [thenP]) | (refine AWp.exit ?_; try simp only [thenP]) | (with_reducible refine BB.go ?_; simp only [blockP, thenP, if_true, if_false, reduceIte]) | (refine AWp.draws tabOk (by kernel_rfl) (by kernel_rfl) ?_; simp [-getElem?_pos, List.getElem?_cons_zero, List.getElem?_cons_succ, List.getElem?_nil, ]) | (with_reducible refine And.intro (show okLog _ _ = true from by kernel_rfl) ?_))
  refine AWp.fits (n := 2) (l := [(2, .d (kintL .u32 lives)), (3, .d (.val (.int .u8 f))), (4, .ptr 0 0 0), (9, .ptr 1 0 0)]) (m := [(0, .box 25 [.d (.list (rgRows x.bars)), .d (.list (stepRows x.steps))] true), (1, .box 42 [.d (iD m), .d (intL ways)] false)]) (σ := [0, 17]) ⟨by rfl, by simp, by simp [or_imp, forall_and], by decide⟩ (AWp.frost ?_); simp only [List.map_cons, List.map_nil, frzB]
  have h2c := true_c ok lives hlw
  repeat (first | (with_reducible refine AWp.seqK fun _ => ?_) | (with_reducible refine AWp.blockK fun _ => ?_) | (with_reducible refine KK.go ?_) | (refine AWp.reg tabOk ?_; simp [-getElem?_pos, List.getElem?_cons_zero, List.getElem?_cons_succ, List.getElem?_nil, ]) | (refine AWp.condK fun _ _ => ?_; simp [-getElem?_pos, List.getElem?_cons_zero, List.getElem?_cons_succ, List.getElem?_nil, ]) | (refine AWp.ret ?_; try simp only [thenP]) | (refine AWp.skip ?_; try simp only [thenP]) | (refine AWp.exit ?_; try simp only [thenP]) | (with_reducible refine BB.go ?_; simp only [blockP, thenP, if_true, if_false, reduceIte]) | (refine AWp.draws tabOk (by kernel_rfl) (by kernel_rfl) ?_; simp [-getElem?_pos, List.getElem?_cons_zero, List.getElem?_cons_succ, List.getElem?_nil, ]) | (with_reducible refine And.intro (show okLog _ _ = true from by kernel_rfl) ?_))
  refine Exec0.callE h2c rfl (by simp [-getElem?_pos, recD]) rfl (by simp [-getElem?_pos, List.getElem?_cons_zero, List.getElem?_cons_succ, List.getElem?_nil, recD]) (AllFrz_mk (by simp [Blk.frz])) ?_; rintro _ ⟨hist, rfl, hh, hlen⟩; simp [-getElem?_pos, List.getElem?_cons_zero, List.getElem?_cons_succ, List.getElem?_nil, recD]
  repeat (first | (with_reducible refine AWp.seqK fun _ => ?_) | (with_reducible refine AWp.blockK fun _ => ?_) | (with_reducible refine KK.go ?_) | (refine AWp.reg tabOk ?_; simp [-getElem?_pos, List.getElem?_cons_zero, List.getElem?_cons_succ, List.getElem?_nil, wf, wl, hz, hfk]) | (refine AWp.condK fun _ _ => ?_; simp [-getElem?_pos, List.getElem?_cons_zero, List.getElem?_cons_succ, List.getElem?_nil, wf, wl, hz, hfk]) | (refine AWp.ret ?_; try simp only [thenP]) | (refine AWp.skip ?_; try simp only [thenP]) | (refine AWp.exit ?_; try simp only [thenP]) | (with_reducible refine BB.go ?_; simp only [blockP, thenP, if_true, if_false, reduceIte]) | (refine AWp.draws tabOk (by kernel_rfl) (by kernel_rfl) ?_; simp [-getElem?_pos, List.getElem?_cons_zero, List.getElem?_cons_succ, List.getElem?_nil, wf, wl, hz, hfk]) | (with_reducible refine And.intro (show okLog _ _ = true from by kernel_rfl) ?_))
  have h3c := ranges_ok ok
  have hrl := rngsOf_len x m ways
  first | (refine Exec0.call [] h3c (by simp [-getElem?_pos, recD]) rfl (by simp [-getElem?_pos, List.getElem?_cons_zero, List.getElem?_cons_succ, List.getElem?_nil, recD]) ?_; simp [-getElem?_pos, List.getElem?_cons_zero, List.getElem?_cons_succ, List.getElem?_nil, recD]) | (refine Exec.call [] h3c (by simp [-getElem?_pos, recD]) rfl (by simp [-getElem?_pos, List.getElem?_cons_zero, List.getElem?_cons_succ, List.getElem?_nil, recD]) ?_; simp [-getElem?_pos, List.getElem?_cons_zero, List.getElem?_cons_succ, List.getElem?_nil, recD])
  have hlen0 := hlen
  obtain ⟨n1, hn1⟩ : ∃ n1, n1 = x.steps.length + 1 := ⟨_, rfl⟩
  rw [← hn1] at hrl hlen
  have hkl : k < n1 := by omega
  have hxk : (rngsOf x m ways)[k]? = some (rngN x m ways k) := rngsOf_at hk
  have hv := isHardB_iff.2 (rngN_val ok k hk)
  have okf := first_rec ok hk (k := k)
  have okr := rest_rec (k := k) ok hv
  have hfy := fine_c (restW x k (rngN x m ways k))
  rw [restW_fine hgb k hv, restW_d] at hfy
  have r1c := ranges_ok okf
  have r2c := ranges_ok okr
  rw [rngs_first hk, firstW_d, rec_take, rgRows_take] at r1c
  rw [rngs_rest hk, restW_d, rec_drop, rgRows_drop, show ((0 : Nat) : Int) = 0 from rfl] at r2c
  have q1c := recipe_c m (ways.take k)
  have q2c := recipe_c 0 (ways.drop k)
  rw [intL_take, rec_take] at q1c
  rw [intL_drop, rec_drop] at q2c
  have s1c := ranges_c ((rngsOf x m ways).take (k + 1)) ((rngsOf x m ways).take (k + 1))
  have s2c := ranges_c ((rngsOf x m ways).drop k) ((rngsOf x m ways).drop k)
  rw [decide_eq_true rfl, rgRows_take] at s1c
  rw [decide_eq_true rfl, rgRows_drop] at s2c
  have s3c := chkHist_c (firstW x k) m (ways.take k) (hist.take (k + 1))
  have s4c := chkHist_c (restW x k (rngN x m ways k)) 0 (ways.drop k) (hist.drop k)
  rw [first_hist ok hh hlen0 hk, firstW_d, rec_take, intL_take] at s3c
  rw [show (0 : Int) = ((0 : Nat) : Int) from rfl, rest_hist ok hh hlen0 hk, restW_d, rec_drop, intL_drop, show ((0 : Nat) : Int) = 0 from rfl] at s4c
  generalize rngN x m ways k = p at *
  have t1 : (stepRows x.steps).take x.steps.length = stepRows x.steps := List.take_of_length_le (by simp)
  have t2 : (iRows ways).take ways.length = iRows ways := List.take_of_length_le (by simp)
  have t3 : (rgRows (rngsOf x m ways)).take n1 = rgRows (rngsOf x m ways) := List.take_of_length_le (by simp [hrl])
  have t4 : (iRows hist).take n1 = iRows hist := List.take_of_length_le (by simp [hlen])
  repeat (first | (with_reducible refine AWp.seqK fun _ => ?_) | (with_reducible refine AWp.blockK fun _ => ?_) | (with_reducible refine KK.go ?_) | (refine AWp.reg tabOk ?_; simp [-getElem?_pos, List.getElem?_cons_zero, List.getElem?_cons_succ, List.getElem?_nil, hrl, hlen, hk, stepRows_each, hkl, hxk, t1]) | (refine AWp.condK fun _ _ => ?_; simp [-getElem?_pos, List.getElem?_cons_zero, List.getElem?_cons_succ, List.getElem?_nil, hrl, hlen, hk, stepRows_each, hkl, hxk, t1]) | (refine AWp.ret ?_; try simp only [thenP]) | (refine AWp.skip ?_; try simp only [thenP]) | (refine AWp.exit ?_; try simp only [thenP]) | (with_reducible refine BB.go ?_; simp only [blockP, thenP, if_true, if_false, reduceIte]) | (refine AWp.draws tabOk (by kernel_rfl) (by kernel_rfl) ?_; simp [-getElem?_pos, List.getElem?_cons_zero, List.getElem?_cons_succ, List.getElem?_nil, hrl, hlen, hk, stepRows_each, hkl, hxk, t1]) | (with_reducible refine And.intro (show okLog _ _ = true from by kernel_rfl) ?_))
  first | (refine Exec0.call [45] hfy (by simp [-getElem?_pos, ]) rfl (by simp [-getElem?_pos, List.getElem?_cons_zero, List.getElem?_cons_succ, List.getElem?_nil, ]) ?_; simp [-getElem?_pos, List.getElem?_cons_zero, List.getElem?_cons_succ, List.getElem?_nil, ]) | (refine Exec.call [45] hfy (by simp [-getElem?_pos, ]) rfl (by simp [-getElem?_pos, List.getElem?_cons_zero, List.getElem?_cons_succ, List.getElem?_nil, ]) ?_; simp [-getElem?_pos, List.getElem?_cons_zero, List.getElem?_cons_succ, List.getElem?_nil, ])
  have hwl := ok.len
  have hkw : k ≤ ways.length := by omega
  repeat (first | (with_reducible refine AWp.seqK fun _ => ?_) | (with_reducible refine AWp.blockK fun _ => ?_) | (with_reducible refine KK.go ?_) | (refine AWp.reg tabOk ?_; simp [-getElem?_pos, List.getElem?_cons_zero, List.getElem?_cons_succ, List.getElem?_nil, hkw, iRows_mem, t2]) | (refine AWp.condK fun _ _ => ?_; simp [-getElem?_pos, List.getElem?_cons_zero, List.getElem?_cons_succ, List.getElem?_nil, hkw, iRows_mem, t2]) | (refine AWp.ret ?_; try simp only [thenP]) | (refine AWp.skip ?_; try simp only [thenP]) | (refine AWp.exit ?_; try simp only [thenP]) | (with_reducible refine BB.go ?_; simp only [blockP, thenP, if_true, if_false, reduceIte]) | (refine AWp.draws tabOk (by kernel_rfl) (by kernel_rfl) ?_; simp [-getElem?_pos, List.getElem?_cons_zero, List.getElem?_cons_succ, List.getElem?_nil, hkw, iRows_mem, t2]) | (with_reducible refine And.intro (show okLog _ _ = true from by kernel_rfl) ?_))
  first | (refine Exec0.call [] q1c (by simp [-getElem?_pos, hkw, iRows_mem, t2]) rfl (by simp [-getElem?_pos, List.getElem?_cons_zero, List.getElem?_cons_succ, List.getElem?_nil, hkw, iRows_mem, t2]) ?_; simp [-getElem?_pos, List.getElem?_cons_zero, List.getElem?_cons_succ, List.getElem?_nil, hkw, iRows_mem, t2]) | (refine Exec.call [] q1c (by simp [-getElem?_pos, hkw, iRows_mem, t2]) rfl (by simp [-getElem?_pos, List.getElem?_cons_zero, List.getElem?_cons_succ, List.getElem?_nil, hkw, iRows_mem, t2]) ?_; simp [-getElem?_pos, List.getElem?_cons_zero, List.getElem?_cons_succ, List.getElem?_nil, hkw, iRows_mem, t2])
  repeat (first | (with_reducible refine AWp.seqK fun _ => ?_) | (with_reducible refine AWp.blockK fun _ => ?_) | (with_reducible refine KK.go ?_) | (refine AWp.reg tabOk ?_; simp [-getElem?_pos, List.getElem?_cons_zero, List.getElem?_cons_succ, List.getElem?_nil, hkw, iRows_mem, t2]) | (refine AWp.condK fun _ _ => ?_; simp [-getElem?_pos, List.getElem?_cons_zero, List.getElem?_cons_succ, List.getElem?_nil, hkw, iRows_mem, t2]) | (refine AWp.ret ?_; try simp only [thenP]) | (refine AWp.skip ?_; try simp only [thenP]) | (refine AWp.exit ?_; try simp only [thenP]) | (with_reducible refine BB.go ?_; simp only [blockP, thenP, if_true, if_false, reduceIte]) | (refine AWp.draws tabOk (by kernel_rfl) (by kernel_rfl) ?_; simp [-getElem?_pos, List.getElem?_cons_zero, List.getElem?_cons_succ, List.getElem?_nil, hkw, iRows_mem, t2]) | (with_reducible refine And.intro (show okLog _ _ = true from by kernel_rfl) ?_))
  first | (refine Exec0.call [] q2c (by simp [-getElem?_pos, hkw, iRows_mem, t2]) rfl (by simp [-getElem?_pos, List.getElem?_cons_zero, List.getElem?_cons_succ, List.getElem?_nil, hkw, iRows_mem, t2]) ?_; simp [-getElem?_pos, List.getElem?_cons_zero, List.getElem?_cons_succ, List.getElem?_nil, hkw, iRows_mem, t2]) | (refine Exec.call [] q2c (by simp [-getElem?_pos, hkw, iRows_mem, t2]) rfl (by simp [-getElem?_pos, List.getElem?_cons_zero, List.getElem?_cons_succ, List.getElem?_nil, hkw, iRows_mem, t2]) ?_; simp [-getElem?_pos, List.getElem?_cons_zero, List.getElem?_cons_succ, List.getElem?_nil, hkw, iRows_mem, t2])
  repeat (first | (with_reducible refine AWp.seqK fun _ => ?_) | (with_reducible refine AWp.blockK fun _ => ?_) | (with_reducible refine KK.go ?_) | (refine AWp.reg tabOk ?_; simp [-getElem?_pos, List.getElem?_cons_zero, List.getElem?_cons_succ, List.getElem?_nil, hkw, iRows_mem, t2]) | (refine AWp.condK fun _ _ => ?_; simp [-getElem?_pos, List.getElem?_cons_zero, List.getElem?_cons_succ, List.getElem?_nil, hkw, iRows_mem, t2]) | (refine AWp.ret ?_; try simp only [thenP]) | (refine AWp.skip ?_; try simp only [thenP]) | (refine AWp.exit ?_; try simp only [thenP]) | (with_reducible refine BB.go ?_; simp only [blockP, thenP, if_true, if_false, reduceIte]) | (refine AWp.draws tabOk (by kernel_rfl) (by kernel_rfl) ?_; simp [-getElem?_pos, List.getElem?_cons_zero, List.getElem?_cons_succ, List.getElem?_nil, hkw, iRows_mem, t2]) | (with_reducible refine And.intro (show okLog _ _ = true from by kernel_rfl) ?_))
  first | (refine Exec0.call [] r1c (by simp [-getElem?_pos, ]) rfl (by simp [-getElem?_pos, List.getElem?_cons_zero, List.getElem?_cons_succ, List.getElem?_nil, ]) ?_; simp [-getElem?_pos, List.getElem?_cons_zero, List.getElem?_cons_succ, List.getElem?_nil, ]) | (refine Exec.call [] r1c (by simp [-getElem?_pos, ]) rfl (by simp [-getElem?_pos, List.getElem?_cons_zero, List.getElem?_cons_succ, List.getElem?_nil, ]) ?_; simp [-getElem?_pos, List.getElem?_cons_zero, List.getElem?_cons_succ, List.getElem?_nil, ])
  repeat (first | (with_reducible refine AWp.seqK fun _ => ?_) | (with_reducible refine AWp.blockK fun _ => ?_) | (with_reducible refine KK.go ?_) | (refine AWp.reg tabOk ?_; simp [-getElem?_pos, List.getElem?_cons_zero, List.getElem?_cons_succ, List.getElem?_nil, ]) | (refine AWp.condK fun _ _ => ?_; simp [-getElem?_pos, List.getElem?_cons_zero, List.getElem?_cons_succ, List.getElem?_nil, ]) | (refine AWp.ret ?_; try simp only [thenP]) | (refine AWp.skip ?_; try simp only [thenP]) | (refine AWp.exit ?_; try simp only [thenP]) | (with_reducible refine BB.go ?_; simp only [blockP, thenP, if_true, if_false, reduceIte]) | (refine AWp.draws tabOk (by kernel_rfl) (by kernel_rfl) ?_; simp [-getElem?_pos, List.getElem?_cons_zero, List.getElem?_cons_succ, List.getElem?_nil, ]) | (with_reducible refine And.intro (show okLog _ _ = true from by kernel_rfl) ?_))
  first | (refine Exec0.call [45] r2c (by simp [-getElem?_pos, ]) rfl (by simp [-getElem?_pos, List.getElem?_cons_zero, List.getElem?_cons_succ, List.getElem?_nil, ]) ?_; simp [-getElem?_pos, List.getElem?_cons_zero, List.getElem?_cons_succ, List.getElem?_nil, ]) | (refine Exec.call [45] r2c (by simp [-getElem?_pos, ]) rfl (by simp [-getElem?_pos, List.getElem?_cons_zero, List.getElem?_cons_succ, List.getElem?_nil, ]) ?_; simp [-getElem?_pos, List.getElem?_cons_zero, List.getElem?_cons_succ, List.getElem?_nil, ])
  have hk1 : (k : Int) + 1 ≤ n1 := by omega
  have hk0 : (0 : Int) ≤ (k : Int) + 1 := by omega
  have hkl2 : k ≤ n1 := by omega
  repeat (first | (with_reducible refine AWp.seqK fun _ => ?_) | (with_reducible refine AWp.blockK fun _ => ?_) | (with_reducible refine KK.go ?_) | (refine AWp.reg tabOk ?_; simp [-getElem?_pos, List.getElem?_cons_zero, List.getElem?_cons_succ, List.getElem?_nil, wk, hrl, hlen, hkl, hkl2, hk1, hk0, rgRows_each, iRows_mem, t3, t4]) | (refine AWp.condK fun _ _ => ?_; simp [-getElem?_pos, List.getElem?_cons_zero, List.getElem?_cons_succ, List.getElem?_nil, wk, hrl, hlen, hkl, hkl2, hk1, hk0, rgRows_each, iRows_mem, t3, t4]) | (refine AWp.ret ?_; try simp only [thenP]) | (refine AWp.skip ?_; try simp only [thenP]) | (refine AWp.exit ?_; try simp only [thenP]) | (with_reducible refine BB.go ?_; simp only [blockP, thenP, if_true, if_false, reduceIte]) | (refine AWp.draws tabOk (by kernel_rfl) (by kernel_rfl) ?_; simp [-getElem?_pos, List.getElem?_cons_zero, List.getElem?_cons_succ, List.getElem?_nil, wk, hrl, hlen, hkl, hkl2, hk1, hk0, rgRows_each, iRows_mem, t3, t4]) | (with_reducible refine And.intro (show okLog _ _ = true from by kernel_rfl) ?_))
  first | (refine Exec0.call [] s1c (by simp [-getElem?_pos, wk, hrl, hlen, hkl, hkl2, hk1, hk0, rgRows_each, iRows_mem, t3, t4]) rfl (by simp [-getElem?_pos, List.getElem?_cons_zero, List.getElem?_cons_succ, List.getElem?_nil, wk, hrl, hlen, hkl, hkl2, hk1, hk0, rgRows_each, iRows_mem, t3, t4]) ?_; simp [-getElem?_pos, List.getElem?_cons_zero, List.getElem?_cons_succ, List.getElem?_nil, wk, hrl, hlen, hkl, hkl2, hk1, hk0, rgRows_each, iRows_mem, t3, t4]) | (refine Exec.call [] s1c (by simp [-getElem?_pos, wk, hrl, hlen, hkl, hkl2, hk1, hk0, rgRows_each, iRows_mem, t3, t4]) rfl (by simp [-getElem?_pos, List.getElem?_cons_zero, List.getElem?_cons_succ, List.getElem?_nil, wk, hrl, hlen, hkl, hkl2, hk1, hk0, rgRows_each, iRows_mem, t3, t4]) ?_; simp [-getElem?_pos, List.getElem?_cons_zero, List.getElem?_cons_succ, List.getElem?_nil, wk, hrl, hlen, hkl, hkl2, hk1, hk0, rgRows_each, iRows_mem, t3, t4])
  first | (refine Exec0.call [] s2c (by simp [-getElem?_pos, wk, hrl, hlen, hkl, hkl2, hk1, hk0, rgRows_each, iRows_mem, t3, t4]) rfl (by simp [-getElem?_pos, List.getElem?_cons_zero, List.getElem?_cons_succ, List.getElem?_nil, wk, hrl, hlen, hkl, hkl2, hk1, hk0, rgRows_each, iRows_mem, t3, t4]) ?_; simp [-getElem?_pos, List.getElem?_cons_zero, List.getElem?_cons_succ, List.getElem?_nil, wk, hrl, hlen, hkl, hkl2, hk1, hk0, rgRows_each, iRows_mem, t3, t4]) | (refine Exec.call [] s2c (by simp [-getElem?_pos, wk, hrl, hlen, hkl, hkl2, hk1, hk0, rgRows_each, iRows_mem, t3, t4]) rfl (by simp [-getElem?_pos, List.getElem?_cons_zero, List.getElem?_cons_succ, List.getElem?_nil, wk, hrl, hlen, hkl, hkl2, hk1, hk0, rgRows_each, iRows_mem, t3, t4]) ?_; simp [-getElem?_pos, List.getElem?_cons_zero, List.getElem?_cons_succ, List.getElem?_nil, wk, hrl, hlen, hkl, hkl2, hk1, hk0, rgRows_each, iRows_mem, t3, t4])
  first | (refine Exec0.call [] s3c (by simp [-getElem?_pos, wk, hrl, hlen, hkl, hkl2, hk1, hk0, rgRows_each, iRows_mem, t3, t4]) rfl (by simp [-getElem?_pos, List.getElem?_cons_zero, List.getElem?_cons_succ, List.getElem?_nil, wk, hrl, hlen, hkl, hkl2, hk1, hk0, rgRows_each, iRows_mem, t3, t4]) ?_; simp [-getElem?_pos, List.getElem?_cons_zero, List.getElem?_cons_succ, List.getElem?_nil, wk, hrl, hlen, hkl, hkl2, hk1, hk0, rgRows_each, iRows_mem, t3, t4]) | (refine Exec.call [] s3c (by simp [-getElem?_pos, wk, hrl, hlen, hkl, hkl2, hk1, hk0, rgRows_each, iRows_mem, t3, t4]) rfl (by simp [-getElem?_pos, List.getElem?_cons_zero, List.getElem?_cons_succ, List.getElem?_nil, wk, hrl, hlen, hkl, hkl2, hk1, hk0, rgRows_each, iRows_mem, t3, t4]) ?_; simp [-getElem?_pos, List.getElem?_cons_zero, List.getElem?_cons_succ, List.getElem?_nil, wk, hrl, hlen, hkl, hkl2, hk1, hk0, rgRows_each, iRows_mem, t3, t4])
  first | (refine Exec0.call [45] s4c (by simp [-getElem?_pos, wk, hrl, hlen, hkl, hkl2, hk1, hk0, rgRows_each, iRows_mem, t3, t4]) rfl (by simp [-getElem?_pos, List.getElem?_cons_zero, List.getElem?_cons_succ, List.getElem?_nil, wk, hrl, hlen, hkl, hkl2, hk1, hk0, rgRows_each, iRows_mem, t3, t4]) ?_; simp [-getElem?_pos, List.getElem?_cons_zero, List.getElem?_cons_succ, List.getElem?_nil, wk, hrl, hlen, hkl, hkl2, hk1, hk0, rgRows_each, iRows_mem, t3, t4]) | (refine Exec.call [45] s4c (by simp [-getElem?_pos, wk, hrl, hlen, hkl, hkl2, hk1, hk0, rgRows_each, iRows_mem, t3, t4]) rfl (by simp [-getElem?_pos, List.getElem?_cons_zero, List.getElem?_cons_succ, List.getElem?_nil, wk, hrl, hlen, hkl, hkl2, hk1, hk0, rgRows_each, iRows_mem, t3, t4]) ?_; simp [-getElem?_pos, List.getElem?_cons_zero, List.getElem?_cons_succ, List.getElem?_nil, wk, hrl, hlen, hkl, hkl2, hk1, hk0, rgRows_each, iRows_mem, t3, t4])
  first | (refine Exec0.call [] hw (by simp [-getElem?_pos, ]) rfl (by simp [-getElem?_pos, List.getElem?_cons_zero, List.getElem?_cons_succ, List.getElem?_nil, ]) ?_; simp [-getElem?_pos, List.getElem?_cons_zero, List.getElem?_cons_succ, List.getElem?_nil, ]) | (refine Exec.call [] hw (by simp [-getElem?_pos, ]) rfl (by simp [-getElem?_pos, List.getElem?_cons_zero, List.getElem?_cons_succ, List.getElem?_nil, ]) ?_; simp [-getElem?_pos, List.getElem?_cons_zero, List.getElem?_cons_succ, List.getElem?_nil, ])
  repeat (first | (with_reducible refine AWp.seqK fun _ => ?_) | (with_reducible refine AWp.blockK fun _ => ?_) | (with_reducible refine KK.go ?_) | (refine AWp.reg tabOk ?_; simp [-getElem?_pos, List.getElem?_cons_zero, List.getElem?_cons_succ, List.getElem?_nil, ]) | (refine AWp.condK fun _ _ => ?_; simp [-getElem?_pos, List.getElem?_cons_zero, List.getElem?_cons_succ, List.getElem?_nil, ]) | (refine AWp.ret ?_; try simp only [thenP]) | (refine AWp.skip ?_; try simp only [thenP]) | (refine AWp.exit ?_; try simp only [thenP]) | (with_reducible refine BB.go ?_; simp only [blockP, thenP, if_true, if_false, reduceIte]) | (refine AWp.draws tabOk (by kernel_rfl) (by kernel_rfl) ?_; simp [-getElem?_pos, List.getElem?_cons_zero, List.getElem?_cons_succ, List.getElem?_nil, ]) | (with_reducible refine And.intro (show okLog _ _ = true from by kernel_rfl) ?_))
  (first | refine RR.ret ?_ | refine RR.normal ?_); simp []
theorem parted_w (x : Works) (nums lives : List Int) (f : Int) (hf0 : 0 ≤ f) (hf1 : f ≤ 255) (hnw : ∀ n ∈ nums, (Lit.int .u8 n).wf = true) (hlw : ∀ n ∈ lives, (Lit.int .u32 n).wf = true) :
    WCall Try.prog 12 [worksD x, kintL .u8 nums, kintL .u32 lives, .val (.int .u8 f)] (bD true) := by
  by_cases h : fineB x = false ∨ (20 : Int) < nums.length ∨ (20 : Int) < lives.length
  · exact parted_out x nums lives f h
  · simp only [not_or, Bool.not_eq_false] at h
    obtain ⟨h1, h2, h3⟩ := h
    have e : f.tmod ((x.steps.length : Int) + 1) = ((f.tmod ((x.steps.length : Int) + 1)).toNat : Int) := (Int.toNat_of_nonneg (Int.tmod_nonneg _ hf0)).symm
    have hb := Int.tmod_lt_of_pos f (show (0 : Int) < (x.steps.length : Int) + 1 by omega)
    exact parted_in x nums lives f _ (by omega) hf0 (by omega) e h1 h2 h3 hnw hlw
end Go.Proofs.Ytigpefjeelgfdaa.Eng

/-
  Layer 1's statements: what a weak call says of values.
-/
namespace Go.Proofs.Ytigpefjeelgfdaa.Eng
open Go.RowKit

theorem law4 {f : FuncId} {a b c d : Dat} (h : WCall Try.prog f [a, b, c, d] (bD true)) {W : World} {va vb vc vd : Value} (ha : RepD (· < W.heap.size) W a va) (hb : RepD (· < W.heap.size) W b vb) (hc : RepD (· < W.heap.size) W c vc) (hd : RepD (· < W.heap.size) W d vd) :
    Calls Try.prog f #[va, vb, vc, vd] W fun e w' => e = .returned (.bool true) ∧ Below W.heap.size W w' := by
  refine (h.calls W #[va, vb, vc, vd] rfl fun i d v hd hv => ?_).mono fun e w' ⟨v, h1, h2, h3⟩ => ?_
  · match i with
    | 0 => simp at hd hv; subst hd; subst hv; exact ha
    | 1 => simp at hd hv; subst hd; subst hv; exact hb
    | 2 => simp at hd hv; subst hd; subst hv; exact hc
    | 3 => simp at hd hv; subst hd; subst hv; assumption
    | i + 4 => simp at hd
  · rw [val_inv h3] at h1
    exact ⟨h1, h2⟩
theorem kints_wf {k : IntKind} {w : World} {B : Nat} {A : Option Addr} {l : List Int} (h : IntsW k w B A l) : ∀ n ∈ l, (Lit.int k n).wf = true := fun n hn => by
  obtain ⟨i, hi, rfl⟩ := List.getElem_of_mem hn
  obtain ⟨b, off, _, _, hx⟩ := h (by omega)
  exact (hx i _ (List.getElem?_eq_getElem hi)).2
theorem rgD_rep2 {ro : Nat → Prop} {w : World} (lo hi : Int) : RepD ro w (rgD lo hi) (.agg #[.int .i64 lo, .int .i64 hi]) := agg2 (.val _ rfl) (.val _ rfl) rfl rfl
end Go.Proofs.Ytigpefjeelgfdaa.Eng

/-
  Layer 1's statements: what the engine says of HeatParted, as the words for memory say it.
-/
namespace Go.Proofs.Ytigpefjeelgfdaa.Eng
open Go.RowKit

theorem partedLaw_any {W : World} {x : Works} {Ab As Ar Ay Az : Option Addr} {cb cs cr cy cz : Nat} {ways nums lives : List Int} (f : Int) (h : In W W.heap.size Ab As Ar cb cs cr x ways) (hy : IntsW .u8 W W.heap.size Ay nums) (hy1 : nums.length ≤ cy) (hy2 : cy ≤ 9223372036854775807)
    (hz : IntsW .u32 W W.heap.size Az lives) (hz1 : lives.length ≤ cz) (hz2 : cz ≤ 9223372036854775807) (hf0 : 0 ≤ f) (hf1 : f ≤ 255) :
    Calls Try.prog 12 #[.agg #[.slice Ab x.bars.length cb, .slice As x.steps.length cs], .slice Ay nums.length cy, .slice Az lives.length cz, .int .u8 f] W fun e w' => e = .returned (.bool true) ∧ Below W.heap.size W w' :=
  law4 (parted_w x nums lives f hf0 hf1 (kints_wf hy) (kints_wf hz)) (of_works h) (of_kints (B := W.heap.size) (fun _ h => h) ⟨_, _, rfl, hy1, hy2, hy⟩) (of_kints (B := W.heap.size) (fun _ h => h) ⟨_, _, rfl, hz1, hz2, hz⟩) (.val _ rfl)
end Go.Proofs.Ytigpefjeelgfdaa.Eng

/-
  The last step of a law's row, from 'what was there is as it was' alone.
-/
namespace Go.Proofs.Ytigpefjeelgfdaa
open Go.ChangeShapes Go.WideShapes Go.ChangeAt Go.RowKit

/-- A law that takes no package variable: it answers, what was there is as it was, and the arguments read as they did. -/
theorem post_later {H : Type} {enc : TypeId × Value → H} {P : Program} {f : Func} {s : ChangeSpec} {apart fresh handsOn again : Bool} {W W' : World} {args : Array Value} {v : Value} {ds gs : List (DataW H)} {before pa pv : List MemPlace}
    (hW : DataW.Whole enc P f.params.toList s.vars apart W args.toList ds gs before) (hsplit : before = pa ++ pv)
    (hr : ∀ (b : Nat) (sp : Nat → Bool) (hd : Bool), DataW.TrodAll enc P W' b sp hd f.resultTypes.toList (v.resultList f.resultTypes.size) (s.fn H (ds ++ gs)).results [])
    (ha : ∀ sp : Nat → Bool, (∀ p ∈ before, sp p.block = true) → DataW.TrodAll enc P W' 0 sp true f.params.toList args.toList (s.fn H (ds ++ gs)).args pa)
    (hv : ∀ sp : Nat → Bool, (∀ p ∈ before, sp p.block = true) → DataW.TrodVars enc P W' sp s.vars (s.fn H (ds ++ gs)).vars pv)
    (hk : ∀ (j : Nat) (t : TypeId) (r : Value), f.resultTypes[j]? = some t → (v.resultList f.resultTypes.size)[j]? = some r → Value.okWide P W' .any 0 t r)
    (hb : Below W.heap.size W W') : s.post enc P f apart fresh handsOn again W args v W' := by
  have inside : ∀ p, p ∈ before → p.block < W.heap.size := fun p hp => hW.lt p hp
  have keep : ∀ p ∈ before, (decide ((p : MemPlace).block < W.heap.size)) = true := fun p hp => decide_eq_true (inside p hp)
  refine ⟨ds, gs, before, [], pa, pv, hW, hr _ _ _, ha (fun b => decide (b < W.heap.size)) keep, hv (fun b => decide (b < W.heap.size)) keep, ?_, ?_⟩
  · refine World.keptBut_mono (fun p hp => ⟨hp, ?_⟩) (hb.frame (· ∈ before))
    right
    rw [hsplit, List.mem_append] at hp
    exact hp
  · intro _
    obtain ⟨_, _, _, _, _, hz, hn⟩ := hW
    have e : [] ++ pa ++ pv = before := by rw [hsplit, List.nil_append]
    refine ⟨hk, _, _, [] ++ pa ++ pv, ⟨[] ++ pa, pv, trodAll_append (ha _ fun _ _ => rfl) (hr _ _ _), hv _ fun _ _ => rfl, rfl, fun b off hp => ?_, fun h => ?_⟩, fun p hp _ => ?_⟩
    · rw [e] at hp
      rw [hb.frozen (inside _ hp)]
      exact hz b off hp
    · have := hn h
      rw [← e] at this
      simpa using this
    · rw [e] at hp
      simpa using hp
end Go.Proofs.Ytigpefjeelgfdaa

/-
  What came in, as the words of these texts have it: slices, structs, works, recipes; and that it reads again behind a call that leaves it alone.
-/
namespace Go.Proofs.Ytigpefjeelgfdaa
open Go.ChangeShapes Go.WideShapes Go.ChangeAt Go.RowKit Go.Deep

section
variable {H : Type} {enc : TypeId × Value → H} {P : Program} {w : World}

theorem list_of {α : Type} {R : Nat → α → Prop} : ∀ (n : Nat), (∀ i, i < n → ∃ x, R i x) → ∃ l : List α, l.length = n ∧ ∀ i x, l[i]? = some x → R i x
  | 0, _ => ⟨[], rfl, fun i x h => by simp at h⟩
  | n + 1, h => by
    obtain ⟨l, hl, hx⟩ := list_of n fun i hi => h i (by omega)
    obtain ⟨y, hy⟩ := h n (by omega)
    refine ⟨l ++ [y], by simp [hl], fun i x hi => ?_⟩
    rcases Nat.lt_or_ge i n with h1 | h1
    · rw [List.getElem?_append_left (by omega)] at hi
      exact hx i x hi
    · rw [List.getElem?_append_right (by omega)] at hi
      have : i = n := by
        have := (List.getElem?_eq_some_iff.1 hi).1
        simp at this
        omega
      subst this
      simp [hl] at hi
      subst hi
      exact hy

/-- An element that is read off cells. -/
def ElemOf (enc : TypeId × Value → H) (P : Program) (w : World) {α : Type} (R : World → Nat → Nat → α → Prop) (size : Nat) (e : TypeId) : Prop :=
  ∀ (b off : Nat) (cs : List Value) (n : Nat) (x : DataW H × List MemPlace), b < w.heap.size → cs.length = size → (∀ j u, cs[j]? = some u → w.cell? ⟨b, off + j, none⟩ = some u) → DataW.trod enc P w 0 (fun _ => true) true n e cs = some x → ∃ y, R w b off y

theorem open_sl {α : Type} {R : World → Nat → Nat → α → Prop} {size : Nat} {t e : TypeId} {fuel : Nat} {cs : List Value} {x : DataW H × List MemPlace} (ht : P.underlying t = some (.slice e)) (hc : P.cellsOf e = size) (h0 : 0 < size)
    (he : ElemOf enc P w R size e) (h : DataW.trod enc P w 0 (fun _ => true) true fuel t cs = some x) : ∃ v l, cs = [v] ∧ SL R size w w.heap.size v l := by
  rcases open_slice ht h with ⟨h1, _⟩ | ⟨a, len, cap, m, n, D, Pl, hcs, hb, hl, hmx, hm, hx, hel⟩
  · exact ⟨_, [], h1, SL.nil _ _ _ _⟩
  · have hmc : m = cap := by simpa using hm
    obtain ⟨b, off, spot⟩ := a
    have cell : ∀ i, i < m → ∃ cs', cs'.length = size ∧ (∀ j u, cs'[j]? = some u → w.cell? (Addr.add ⟨b, off, spot⟩ (i * size + j)) = some u) ∧ DataW.trod enc P w 0 (fun _ => true) true n e cs' = some (D i, Pl i) := by
      intro i hi
      obtain ⟨cs', h1, h2⟩ := hel i hi
      rw [hc] at h1
      obtain ⟨_, hlen, hat⟩ := World.cells?_some h1
      refine ⟨cs', hlen, fun j u hj => ?_, h2⟩
      have hjl : j < size := by rw [← hlen]; exact (List.getElem?_eq_some_iff.1 hj).1
      rw [← Go.Deep.add_add, hat j hjl, hj]
    have spot0 : 0 < m → spot = none := fun hm0 => by
      obtain ⟨cs', h1, h2, _⟩ := cell 0 hm0
      have h3 : cs'[0]? = some (cs'[0]'(by omega)) := List.getElem?_eq_getElem (by omega)
      have := World.cell?_spot (h2 0 _ h3)
      simpa [Addr.add] using this
    by_cases hm0 : len = 0
    · subst hm0
      exact ⟨_, [], hcs, some ⟨b, off, spot⟩, cap, rfl, by simp, by unfold maxLen at hmx; omega, fun h => absurd h (by simp)⟩
    have hsp := spot0 (by omega)
    subst hsp
    have hb2 : b < w.heap.size := by
      obtain ⟨cs', h1, h2, _⟩ := cell 0 (by omega)
      have h3 : cs'[0]? = some (cs'[0]'(by omega)) := List.getElem?_eq_getElem (by omega)
      have h4 := World.block_lt_of_cell? w _ (h2 0 _ h3)
      simpa [Addr.add] using h4
    obtain ⟨l, hll, hlx⟩ := list_of (R := fun i y => R w b (off + i * size) y) len fun i hi => by
      obtain ⟨cs', h1, h2, h3⟩ := cell i (by omega)
      refine he b (off + i * size) cs' n _ hb2 h1 (fun j u hj => ?_) h3
      have := h2 j u hj
      by_cases e0 : i * size + j = 0
      · rw [e0] at this
        have e1 : off + i * size + j = off := by omega
        rw [e1]
        simpa [Addr.add] using this
      · simp only [Addr.add, if_neg e0] at this
        rwa [Nat.add_assoc]
    exact ⟨_, l, hcs, some ⟨b, off, none⟩, cap, by rw [hll], by omega, by unfold maxLen at hmx; omega, fun _ => ⟨b, off, rfl, hb2, hlx⟩⟩

theorem elem_int {k : IntKind} {e : TypeId} (he : P.underlying e = some (.int k)) : ElemOf enc P w (IntAt k) 1 e := by
  intro b off cs n x hb hl hat h
  obtain ⟨m, rfl, _⟩ := DataW.trod_int he h
  exact ⟨m, hat 0 _ rfl⟩
theorem elem_range {e ti : TypeId} {f0 f1 : Field} (he : P.underlying e = some (.struct #[f0, f1])) (h0 : f0.type = ti) (h1 : f1.type = ti) (o0 : f0.offset = 0) (o1 : f1.offset = 1) (hi : P.underlying ti = some (.int .i64)) (hc : P.cellsOf ti = 1) : ElemOf enc P w RgAt 2 e := by
  intro b off cs n x hb hl hat h
  obtain ⟨y0, y1, m, _, _, g0, g1⟩ := trod_struct2 he h
  rw [h0, hc, o0] at g0
  rw [h1, hc, o1] at g1
  match cs, hl with
  | [u, v], _ =>
    obtain ⟨n0, e0, _⟩ := DataW.trod_int hi g0
    obtain ⟨n1, e1, _⟩ := DataW.trod_int hi g1
    simp at e0 e1
    subst e0
    subst e1
    exact ⟨(n0, n1), hat 0 _ rfl, hat 1 _ rfl⟩
theorem elem_kink {e ti tr : TypeId} {f0 f1 g0 g1 : Field} (he : P.underlying e = some (.struct #[f0, f1])) (hr : P.underlying tr = some (.struct #[g0, g1])) (h0 : f0.type = ti) (h1 : f1.type = tr) (o0 : f0.offset = 0) (o1 : f1.offset = 1)
    (k0 : g0.type = ti) (k1 : g1.type = ti) (p0 : g0.offset = 0) (p1 : g1.offset = 1) (hi : P.underlying ti = some (.int .i64)) (hc : P.cellsOf ti = 1) (hcr : P.cellsOf tr = 2) : ElemOf enc P w KinkAt 3 e := by
  intro b off cs n x hb hl hat h
  obtain ⟨y0, y1, m, _, _, q0, q1⟩ := trod_struct2 he h
  rw [h0, hc, o0] at q0
  rw [h1, hcr, o1] at q1
  obtain ⟨z0, z1, m1, _, _, r0, r1⟩ := trod_struct2 hr q1
  rw [k0, hc, p0] at r0
  rw [k1, hc, p1] at r1
  match cs, hl with
  | [u, v, t], _ =>
    obtain ⟨n0, e0, _⟩ := DataW.trod_int hi q0
    obtain ⟨n1, e1, _⟩ := DataW.trod_int hi r0
    obtain ⟨n2, e2, _⟩ := DataW.trod_int hi r1
    simp at e0 e1 e2
    subst e0
    subst e1
    subst e2
    exact ⟨⟨n0, n1, n2⟩, hat 0 _ rfl, hat 1 _ rfl, hat 2 _ rfl⟩
/-- A struct whose only field is a slice. -/
theorem elem_box {α : Type} {R : World → Nat → Nat → α → Prop} {size : Nat} {e ts te : TypeId} {f0 : Field} (he : P.underlying e = some (.struct #[f0])) (h0 : f0.type = ts) (o0 : f0.offset = 0) (hs : P.underlying ts = some (.slice te)) (hcs : P.cellsOf ts = 1) (hc : P.cellsOf te = size) (hz : 0 < size)
    (hel : ElemOf enc P w R size te) : ElemOf enc P w (fun w b off l => ∃ v, w.cell? ⟨b, off, none⟩ = some v ∧ SL R size w w.heap.size v l) 1 e := by
  intro b off cs n x hb hl hat h
  obtain ⟨y0, m, _, _, q0⟩ := trod_struct1 he h
  rw [h0, hcs, o0] at q0
  match cs, hl with
  | [u], _ =>
    obtain ⟨v, l, hv, hsl⟩ := open_sl hs hc hz hel q0
    simp at hv
    subst hv
    exact ⟨l, u, hat 0 _ rfl, hsl⟩

/-- What came in reads again, where all that was there is as it was. -/
theorem args_later {W W' : World} {T : TypeId → Prop} (K : Kids P T) (hz : ∀ t e, T t → P.underlying t = some (.slice e) → 0 < P.cellsOf e) {ts : List TypeId} {vs : List Value} {ds : List (DataW H)} {ps : List MemPlace}
    (hT : ∀ t ∈ ts, T t) (h : DataW.TrodAll enc P W 0 (fun _ => true) true ts vs ds ps) (hb : Below W.heap.size W W') {sp : Nat → Bool} (hs : ∀ p ∈ ps, sp p.block = true) : DataW.TrodAll enc P W' 0 sp true ts vs ds ps := by
  have carry : ∀ {ts : List TypeId} {vs : List Value} {ds : List (DataW H)} {ps : List MemPlace}, DataW.TrodAll enc P W 0 (fun _ => true) true ts vs ds ps → DataW.TrodAll enc P W' 0 (fun _ => true) true ts vs ds ps := by
    intro ts
    induction ts with
    | nil =>
      intro vs ds ps h
      obtain ⟨rfl, rfl, rfl⟩ := trodAll_nil h
      rfl
    | cons t ts ih =>
      intro vs ds ps h
      obtain ⟨v, vs1, d, ds1, a, b, rfl, rfl, rfl, ⟨n, h1⟩, h2⟩ := trodAll_cons h
      refine ⟨a, b, ⟨n, DataW.trod_carry n _ _ _ h1 fun p hp => ?_⟩, ih h2, rfl⟩
      have hlt := DataW.trod_lt n _ _ _ h1 p hp
      cases p with
      | cell bl off => exact hb.cell (p := ⟨bl, off, none⟩) hlt
      | map bl => exact hb.block bl hlt
  exact (carry h).respare K hz hT hs
end
end Go.Proofs.Ytigpefjeelgfdaa

/-
  What came in, at the types of layer 1's statements.
-/
namespace Go.Proofs.Ytigpefjeelgfdaa
open Go.ChangeShapes Go.WideShapes Go.ChangeAt Go.RowKit Go.Deep

theorem kids : Kids Try.prog (· < Try.prog.types.size) := kids_rows (by kernel_rfl) (by kernel_rfl)
theorem full : ∀ t e, t < Try.prog.types.size → Try.prog.underlying t = some (.slice e) → 0 < Try.prog.cellsOf e := slices_full_of Try.prog (by kernel_rfl)

theorem list_two {l : List Value} (h : l.toArray.size = 2) : ∃ a b, l = [a, b] := by
  rcases l with _ | ⟨a, _ | ⟨b, _ | ⟨c, l⟩⟩⟩
  · simp at h
  · simp at h
  · exact ⟨a, b, rfl⟩
  · simp at h
theorem list_one {l : List Value} (h : l.toArray.size = 1) : ∃ a, l = [a] := by
  rcases l with _ | ⟨a, _ | ⟨b, l⟩⟩
  · simp at h
  · exact ⟨a, rfl⟩
  · simp at h
theorem one_eq {u v : Value} (h : [u] = [v]) : u = v := by simpa using h
section
variable {H : Type} {enc : TypeId × Value → H} {w : World}
theorem el_i64 : ElemOf enc Try.prog w (IntAt .i64) 1 (2 : Nat) := elem_int Try.underlying2
theorem el_int : ElemOf enc Try.prog w (IntAt .i64) 1 (3 : Nat) := elem_int Try.underlying3
theorem el_range : ElemOf enc Try.prog w RgAt 2 (33 : Nat) := elem_range Try.underlying33 rfl rfl rfl rfl Try.underlying2 (by kernel_rfl)
theorem el_kink : ElemOf enc Try.prog w KinkAt 3 (93 : Nat) := elem_kink Try.underlying93 Try.underlying33 rfl rfl rfl rfl rfl rfl rfl rfl Try.underlying2 (by kernel_rfl) (by kernel_rfl)
theorem el_way : ElemOf enc Try.prog w (fun w b off l => ∃ v, w.cell? ⟨b, off, none⟩ = some v ∧ SL KinkAt 3 w w.heap.size v l) 1 (28 : Nat) :=
  elem_box Try.underlying28 rfl rfl Try.underlying26 (by kernel_rfl) (by kernel_rfl) (by decide) el_kink
theorem el_step : ElemOf enc Try.prog w (fun w b off l => ∃ v, w.cell? ⟨b, off, none⟩ = some v ∧ SL (fun w b off l => ∃ v, w.cell? ⟨b, off, none⟩ = some v ∧ SL KinkAt 3 w w.heap.size v l) 1 w w.heap.size v l) 1 (88 : Nat) :=
  elem_box Try.underlying88 rfl rfl Try.underlying86 (by kernel_rfl) (by kernel_rfl) (by decide) el_way

set_option maxRecDepth 100000 in
theorem open_works {base : Nat} {v : Value} {d : DataW H} {p : List MemPlace} (hv : Value.okWide Try.prog w .any base (25 : Nat) v) (h : DataW.Trod enc Try.prog w 0 (fun _ => true) true (25 : Nat) v d p) :
    ∃ (Ab As : Option Addr) (cb cs : Nat) (x : Works), v = .agg #[.slice Ab x.bars.length cb, .slice As x.steps.length cs] ∧ In w w.heap.size Ab As none cb cs 0 x [] := by
  obtain ⟨⟨l⟩, rfl, hsz⟩ := okWide_struct Try.underlying25 hv
  obtain ⟨fuel, hf⟩ := h
  obtain ⟨y0, y1, n, _, _, g0, g1⟩ := trod_struct2 Try.underlying25 hf
  have hc : Try.prog.cellsOf (25 : Nat) = 2 := by kernel_rfl
  rw [hc] at hsz
  obtain ⟨u0, u1, rfl⟩ := list_two hsz
  obtain ⟨v0, bars, e0, A0, c0, k0, k1, k2, s0⟩ := open_sl Try.underlying22 (by kernel_rfl) (by decide) el_range g0
  obtain ⟨v1, steps, e1, A1, c1, j0, j1, j2, s1⟩ := open_sl Try.underlying23 (by kernel_rfl) (by decide) el_step g1
  have q0 : u0 = v0 := one_eq e0
  have q1 : u1 = v1 := one_eq e1
  subst q0
  subst q1
  subst k0
  subst j0
  exact ⟨A0, A1, c0, c1, ⟨bars, steps⟩, rfl, ⟨s0, s1, fun h => absurd h (by simp), k1, k2, j1, j2, by simp, by omega, Nat.le_refl _⟩⟩
set_option maxRecDepth 100000 in
theorem open_way {base : Nat} {v : Value} {d : DataW H} {p : List MemPlace} (hv : Value.okWide Try.prog w .any base (28 : Nat) v) (h : DataW.Trod enc Try.prog w 0 (fun _ => true) true (28 : Nat) v d p) :
    ∃ (A : Option Addr) (c : Nat) (ks : List Kink), v = .agg #[.slice A ks.length c] ∧ KinksA w w.heap.size A ks ∧ ks.length ≤ c ∧ c ≤ 9223372036854775807 := by
  obtain ⟨⟨l⟩, rfl, hsz⟩ := okWide_struct Try.underlying28 hv
  obtain ⟨fuel, hf⟩ := h
  obtain ⟨y0, n, _, _, g0⟩ := trod_struct1 Try.underlying28 hf
  have hc : Try.prog.cellsOf (28 : Nat) = 1 := by kernel_rfl
  rw [hc] at hsz
  obtain ⟨u0, rfl⟩ := list_one hsz
  obtain ⟨v0, ks, e0, A0, c0, k0, k1, k2, s0⟩ := open_sl Try.underlying26 (by kernel_rfl) (by decide) el_kink g0
  have q0 : u0 = v0 := one_eq e0
  subst q0
  subst k0
  exact ⟨A0, c0, ks, rfl, s0, k1, k2⟩
set_option maxRecDepth 100000 in
theorem open_recipe {base : Nat} {v : Value} {d : DataW H} {p : List MemPlace} (hv : Value.okWide Try.prog w .any base (42 : Nat) v) (h : DataW.Trod enc Try.prog w 0 (fun _ => true) true (42 : Nat) v d p) :
    ∃ (bar : Int) (A : Option Addr) (c : Nat) (ways : List Int), v = .agg #[.int .i64 bar, .slice A ways.length c] ∧ IntsA .i64 w w.heap.size A ways ∧ ways.length ≤ c ∧ c ≤ 9223372036854775807 := by
  obtain ⟨⟨l⟩, rfl, hsz⟩ := okWide_struct Try.underlying42 hv
  obtain ⟨fuel, hf⟩ := h
  obtain ⟨y0, y1, n, _, _, g0, g1⟩ := trod_struct2 Try.underlying42 hf
  have hc : Try.prog.cellsOf (42 : Nat) = 2 := by kernel_rfl
  rw [hc] at hsz
  obtain ⟨u0, u1, rfl⟩ := list_two hsz
  obtain ⟨bar, e0, _⟩ := DataW.trod_int Try.underlying3 g0
  obtain ⟨v1, ways, e1, A1, c1, j0, j1, j2, s1⟩ := open_sl Try.underlying40 (by kernel_rfl) (by decide) el_int g1
  have q0 : u0 = .int .i64 bar := one_eq e0
  have q1 : u1 = v1 := one_eq e1
  subst q0
  subst q1
  subst j0
  exact ⟨bar, A1, c1, ways, rfl, s1, j1, j2⟩
set_option maxRecDepth 100000 in
theorem open_measured {base : Nat} {v : Value} {d : DataW H} {p : List MemPlace} (hv : Value.okWide Try.prog w .any base (33 : Nat) v) (h : DataW.Trod enc Try.prog w 0 (fun _ => true) true (33 : Nat) v d p) :
    ∃ lo hi : Int, v = .agg #[.int .i64 lo, .int .i64 hi] := by
  obtain ⟨⟨l⟩, rfl, hsz⟩ := okWide_struct Try.underlying33 hv
  obtain ⟨fuel, hf⟩ := h
  obtain ⟨y0, y1, n, _, _, g0, g1⟩ := trod_struct2 Try.underlying33 hf
  have hc : Try.prog.cellsOf (33 : Nat) = 2 := by kernel_rfl
  rw [hc] at hsz
  obtain ⟨u0, u1, rfl⟩ := list_two hsz
  obtain ⟨lo, e0, _⟩ := DataW.trod_int Try.underlying2 g0
  obtain ⟨hi, e1, _⟩ := DataW.trod_int Try.underlying2 g1
  have q0 : u0 = .int .i64 lo := one_eq e0
  have q1 : u1 = .int .i64 hi := one_eq e1
  subst q0
  subst q1
  exact ⟨lo, hi, rfl⟩
set_option maxRecDepth 100000 in
theorem open_int {base : Nat} {t : TypeId} {k : IntKind} {v : Value} {d : DataW H} {p : List MemPlace} (ht : Try.prog.underlying t = some (.int k)) (hv : Value.okWide Try.prog w .any base t v) (h : DataW.Trod enc Try.prog w 0 (fun _ => true) true t v d p) :
    ∃ n : Int, v = .int k n ∧ (Lit.int k n).wf = true := by
  obtain ⟨n, rfl⟩ := okWide_int ht hv
  obtain ⟨fuel, hf⟩ := h
  obtain ⟨m, e, _, hw⟩ := DataW.trod_int ht hf
  have e2 : Value.int k n = .int k m := one_eq e
  obtain rfl : n = m := by simpa using e2
  exact ⟨n, rfl, hw⟩
set_option maxRecDepth 100000 in
theorem open_list {k : IntKind} {t e : TypeId} {base : Nat} {v : Value} {d : DataW H} {p : List MemPlace} (ht : Try.prog.underlying t = some (.slice e)) (hc : Try.prog.cellsOf e = 1) (he : Try.prog.underlying e = some (.int k)) (hv : Value.okWide Try.prog w .any base t v) (h : DataW.Trod enc Try.prog w 0 (fun _ => true) true t v d p) :
    ∃ (A : Option Addr) (c : Nat) (l : List Int), v = .slice A l.length c ∧ IntsA k w w.heap.size A l ∧ l.length ≤ c ∧ c ≤ 9223372036854775807 := by
  obtain ⟨a, n, c, rfl⟩ := okWide_slice ht hv
  obtain ⟨fuel, hf⟩ := h
  obtain ⟨v1, l, e1, A1, c1, j0, j1, j2, s1⟩ := open_sl ht hc (by decide) (elem_int he) hf
  have q1 : Value.slice a n c = v1 := one_eq e1
  subst q1
  rw [j0]
  exact ⟨A1, c1, l, rfl, s1, j1, j2⟩
end
end Go.Proofs.Ytigpefjeelgfdaa

/-
  What came in: numbers that fit their kind.
-/
namespace Go.Proofs.Ytigpefjeelgfdaa
open Go.ChangeShapes Go.WideShapes Go.ChangeAt Go.RowKit Go.Deep

theorem u16_bounds {n : Int} (h : (Lit.int .u16 n).wf = true) : 0 ≤ n ∧ n ≤ 65535 := by
  simp only [Lit.wf, Bool.and_eq_true, decide_eq_true_eq] at h
  have e1 : IntKind.u16.min = 0 := by decide
  have e2 : IntKind.u16.max = 65535 := by decide
  omega
section
variable {H : Type} {enc : TypeId × Value → H} {w : World}
theorem elem_intW {P : Program} {k : IntKind} {e : TypeId} (he : P.underlying e = some (.int k)) : ElemOf enc P w (IntW k) 1 e := by
  intro b off cs n x hb hl hat h
  obtain ⟨m, rfl, _, hw⟩ := DataW.trod_int he h
  exact ⟨m, hat 0 _ rfl, hw⟩
set_option maxRecDepth 100000 in
theorem open_listW {k : IntKind} {t e : TypeId} {base : Nat} {v : Value} {d : DataW H} {p : List MemPlace} (ht : Try.prog.underlying t = some (.slice e)) (hc : Try.prog.cellsOf e = 1) (he : Try.prog.underlying e = some (.int k)) (hv : Value.okWide Try.prog w .any base t v) (h : DataW.Trod enc Try.prog w 0 (fun _ => true) true t v d p) :
    ∃ (A : Option Addr) (c : Nat) (l : List Int), v = .slice A l.length c ∧ IntsW k w w.heap.size A l ∧ l.length ≤ c ∧ c ≤ 9223372036854775807 := by
  obtain ⟨a, n, c, rfl⟩ := okWide_slice ht hv
  obtain ⟨fuel, hf⟩ := h
  obtain ⟨v1, l, e1, A1, c1, j0, j1, j2, s1⟩ := open_sl ht hc (by decide) (elem_intW he) hf
  have q1 : Value.slice a n c = v1 := one_eq e1
  subst q1
  rw [j0]
  exact ⟨A1, c1, l, rfl, s1, j1, j2⟩
end
end Go.Proofs.Ytigpefjeelgfdaa

namespace Go.Proofs.Ytigpefjeelgfdaa.heatParted
open Go.ChangeShapes Go.WideShapes Go.ChangeAt Go.RowKit

theorem own : ownKnob Try.prog.godebug = none := by kernel_rfl
theorem rowed : ∀ t ∈ Try.f12.params.toList, t < Try.prog.types.size := of_decide_eq_true (by kernel_rfl)

set_option maxRecDepth 100000 in
set_option maxHeartbeats 1000000 in
theorem lifted (os : Os) (started : os.Started) (H : Type) (enc : TypeId × Value → H) :
    ReturnsInHanded {} Try.checked os 12 .any (Rows.heatPartedSpec.pre6 enc Try.prog Try.f12 Rows.heatPartedRow.domain false) (Rows.heatPartedSpec.post enc Try.prog Try.f12 false true false false) := by
  refine returnsInHanded_of_change (C := Try.checked) own started (by kernel_rfl) Try.func12
    (ChangeSpec.witness6 (enc := enc) (C := Try.checked) false ⟨#[], #[.agg #[.slice none 0 0, .slice none 0 0], .slice none 0 0, .slice none 0 0, .int .u8 0], []⟩ 8 (by kernel_rfl) (by kernel_rfl) (by kernel_rfl) (by kernel_rfl)) ?_
  intro W base args ds gs before hval0 hW hcnd _
  have hval : ∀ (j : Nat) t v, Try.f12.params[j]? = some t → args[j]? = some v → Value.okWide Try.prog W .any base t v := hval0
  have hW' := hW
  obtain ⟨p, q, hA0, hV, rfl, hfz, hnd⟩ := hW
  have hA : DataW.TrodAll enc Try.prog W 0 (fun _ => true) true Try.f12.params.toList args.toList ds p := hA0
  have hAk := hA
  rw [Try.params12] at hA hval
  obtain ⟨v0, vs0, d0, ds0, a0, b0, e0, f0, rfl, h0, t0⟩ := trodAll_cons hA
  obtain ⟨v1, vs1, d1, ds1, a1, b1, e1, f1, rfl, h1, t1⟩ := trodAll_cons t0
  obtain ⟨v2, vs2, d2, ds2, a2, b2, e2, f2, rfl, h2, t2⟩ := trodAll_cons t1
  obtain ⟨v3, vs3, d3, ds3, a3, b3, e3, f3, rfl, h3, t3⟩ := trodAll_cons t2
  obtain ⟨en, fn, rfl⟩ := trodAll_nil t3
  subst en
  subst fn
  subst e3
  subst f3
  subst e2
  subst f2
  subst e1
  subst f1
  subst f0
  have ea : args = #[v0, v1, v2, v3] := by rw [← Array.toList_inj]; exact e0
  subst ea
  clear e0
  obtain ⟨rfl, rfl⟩ := trodVars_none hV
  clear hA0 hval0 hA
  simp only [List.append_nil] at hW' hAk
  have o0 := hval 0 _ _ rfl rfl
  have o1 := hval 1 _ _ rfl rfl
  have o2 := hval 2 _ _ rfl rfl
  have o3 := hval 3 _ _ rfl rfl
  clear hval
  obtain ⟨Ab, As, cb, cs, x, rfl, hin⟩ := open_works o0 h0
  obtain ⟨Ay, cy, recs, rfl, hy, hy1, hy2⟩ := open_listW Try.underlying66 (by kernel_rfl) Try.underlying5 o1 h1
  obtain ⟨Az, cz, lives, rfl, hz, hz1, hz2⟩ := open_listW Try.underlying67 (by kernel_rfl) Try.underlying126 o2 h2
  obtain ⟨first, rfl, hwf⟩ := open_int Try.underlying5 o3 h3
  have hd := u8_bounds hwf
  refine Calls.mono (Eng.partedLaw_any first hin hy hy1 hy2 hz hz1 hz2 hd.1 hd.2) fun e W' ⟨he, hb⟩ => ?_
  subst he
  exact ⟨_, rfl, post_later (pv := []) hW' (List.append_nil _).symm (fun _ _ _ => (trodAll_cons_mk (shut_bool Try.underlying4 _) trodAll_mk0))
    (fun sp hsp => args_later kids full rowed hAk hb hsp) (fun _ _ => rfl) (ok_one (by kernel_rfl) rfl (okWide_bool_mk Try.underlying4 _)) hb⟩

theorem over : Rows.heatPartedRow.holds Try.pinned (OpenSpec.ofChange Rows.heatPartedSpec) :=
  OpenClaim.holds_of_wide 12 Try.f12 rfl rfl rfl rfl rfl rfl rfl ⟨rfl, rfl, rfl, rfl, rfl⟩ rfl rfl rfl rfl rfl (by kernel_rfl) Try.func12 (by kernel_rfl)
    (of_decide_eq_true (by kernel_rfl)) (by unfold Func.isWrapper; first | (rw [if_pos (by decide +kernel)]; kernel_rfl) | (rw [if_neg (by decide +kernel)]; exact ⟨rfl, rfl⟩))
    (fun os started H enc _ => lifted os started H enc)

theorem proved : Rows.HeatPartedSaid := over
end Go.Proofs.Ytigpefjeelgfdaa.heatParted
