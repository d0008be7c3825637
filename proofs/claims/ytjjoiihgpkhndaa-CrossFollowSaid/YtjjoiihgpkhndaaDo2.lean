/-
  CrossFollow returns true, for every pair and numbers: the stations at which blades meet in a truth have spans of tilts that follow one another without a gap. No condition.
-/
import Derived.Test.YtjjoiihgpkhndaaDo1
import Derived.Test.YtjjoiihgpkhndaaRows
import Derived.ProofKit
import Derived.OpenShut
import Derived.Below
import Derived.ChangeSame
import Derived.ReadAgain
import Derived.Deep.Slices
set_option linter.unusedSimpArgs false
set_option linter.unusedVariables false

namespace Go.Proofs.Ytjjoiihgpkhndaa.Eng
open Go.RowKit
set_option maxRecDepth 100000 in
theorem refLess_c (a b : Int × Int) (w1 : IntKind.i64.wrap (a.1 * b.2) = a.1 * b.2) (w2 : IntKind.i64.wrap (b.1 * a.2) = b.1 * a.2) : ACall Try.prog 40 [ratD a, ratD b] (bD (lessQ a b)) := by
  obtain ⟨a1, a2⟩ := a
  obtain ⟨b1, b2⟩ := b
  unfold ratD
  simp only at w1 w2
  refine acallK tabOk Try.func40 rfl rfl (show 2 ≤ _ by decide) rfl fun _ => ?_; simp only [Try.ntmps40]
  repeat (first | (with_reducible first | refine AWp.seqK fun _ => ?_ | refine AWp.blockK fun _ => ?_ | refine KK.go ?_) | ((first | refine AWp.reg tabOk ?_ | refine AWp.condK fun _ _ => ?_ | refine AWp.draws tabOk (by kernel_rfl) (by kernel_rfl) ?_); simp [-getElem?_pos, z0, z1, z2, w1, w2]) | ((first | refine AWp.ret ?_ | refine AWp.skip ?_ | refine AWp.exit ?_); try simp only [thenP]) | (with_reducible refine BB.go ?_; simp only [blockP, thenP, if_true, if_false, reduceIte]) | (with_reducible refine And.intro (show okLog _ _ = true from by kernel_rfl) ?_))
  (first | refine RR.ret ?_ | refine RR.normal ?_); simp [lessQ]
set_option maxRecDepth 100000 in
set_option maxHeartbeats 4000000 in
theorem refFraction_c (num den : Int) (hn : -4000000000000000000 ≤ num ∧ num ≤ 4000000000000000000) (hd : 0 < den ∧ den ≤ 4000000000000000000) : ACall Try.prog 88 [iD num, iD den] (ratD (red num den)) := by
  obtain ⟨r, hr⟩ : ∃ r, r = ratD (red num den) := ⟨_, rfl⟩
  rw [← hr]
  have wn : IntKind.i64.wrap (-num) = -num := wrap64_in (by omega)
  obtain ⟨A, hA⟩ : ∃ A : Int, A = num.natAbs := ⟨_, rfl⟩
  have g0 : Int.gcd A den = Int.gcd num den := by rw [hA]; simp [Int.gcd]
  have hA2 : 0 ≤ A ∧ A ≤ 4000000000000000000 := by omega
  have hmax : (if num < -num then -num else num) = A := by split <;> omega
  have q : ∀ n b : Int, (-4000000000000000000 ≤ n ∧ n ≤ 4000000000000000000) → IntKind.i64.wrap (n.tdiv b) = n.tdiv b := fun n b h => by have := tdiv_in (b := b) h; exact wrap64_in (by omega)
  refine acallK tabOk Try.func88 rfl rfl (show 2 ≤ _ by decide) rfl fun _ => ?_; simp only [Try.ntmps88]
  repeat (first | (with_reducible first | refine AWp.seqK fun _ => ?_ | refine AWp.blockK fun _ => ?_ | refine KK.go ?_) | ((first | refine AWp.reg tabOk ?_ | refine AWp.condK fun _ _ => ?_ | refine AWp.draws tabOk (by kernel_rfl) (by kernel_rfl) ?_); simp [-getElem?_pos, z0, z1, z2, wn, hmax]) | ((first | refine AWp.ret ?_ | refine AWp.skip ?_ | refine AWp.exit ?_); try simp only [thenP]) | (with_reducible refine BB.go ?_; simp only [blockP, thenP, if_true, if_false, reduceIte]) | (with_reducible refine And.intro (show okLog _ _ = true from by kernel_rfl) ?_))
  refine AWp.loopK (ι := { p : Int × Int // Int.gcd p.1 p.2 = Int.gcd num den ∧ (0 ≤ p.1 ∧ p.1 ≤ 4000000000000000000) ∧ (0 ≤ p.2 ∧ p.2 ≤ 4000000000000000000) }) (n := 1) (fun k => [(0, .d (iD num)), (1, .d (iD den)), (4, .ptr 0 0 0), (5, .d (iD k.1.1)), (6, .d (iD k.1.2))]) (fun _ => [(0, .box 25 [.d (iD 0), .d (iD 0)] false)]) (fun k => k.1.2.natAbs) ⟨(A, den), g0, hA2, by omega, by omega⟩ [0] ?_ ?_
  · refine ⟨by rfl, by simp [hmax], by simp [or_imp, forall_and, hmax] <;> (try (intro _hne; simp [_hne])), by decide⟩
  rintro ⟨⟨x, y⟩, hg, hx, hy⟩ kk
  simp only at hg hx hy
  by_cases hy0 : y = 0
  · subst hy0
    have hx2 : x = Int.gcd num den := by rw [← hg]; simp [Int.gcd]; omega
    have hx0 : ¬ x = 0 := fun e => by
      have := Int.gcd_eq_zero_iff.1 (show Int.gcd num den = 0 by omega)
      omega
    have q1 := q num x hn
    have q2 := q den x (by omega)
    have hr' : r = .agg [iD (num.tdiv x), iD (den.tdiv x)] := by rw [hr]; simp only [ratD, red, if_neg (show ¬ den < 0 by omega), ← hx2]
    repeat (first | (with_reducible first | refine AWp.seqK fun _ => ?_ | refine AWp.blockK fun _ => ?_ | refine KK.go ?_) | ((first | refine AWp.reg tabOk ?_ | refine AWp.condK fun _ _ => ?_ | refine AWp.draws tabOk (by kernel_rfl) (by kernel_rfl) ?_); simp [-getElem?_pos, z0, z1, z2, hx0, q1, q2]) | ((first | refine AWp.ret ?_ | refine AWp.skip ?_ | refine AWp.exit ?_); try simp only [thenP]) | (with_reducible refine BB.go ?_; simp only [blockP, thenP, if_true, if_false, reduceIte]) | (with_reducible refine And.intro (show okLog _ _ = true from by kernel_rfl) ?_))
    (first | refine RR.ret ?_ | refine RR.normal ?_); simp [hr']
  · repeat (first | (with_reducible first | refine AWp.seqK fun _ => ?_ | refine AWp.blockK fun _ => ?_ | refine KK.go ?_) | ((first | refine AWp.reg tabOk ?_ | refine AWp.condK fun _ _ => ?_ | refine AWp.draws tabOk (by kernel_rfl) (by kernel_rfl) ?_); simp [-getElem?_pos, z0, z1, z2, hy0]) | ((first | refine AWp.ret ?_ | refine AWp.skip ?_ | refine AWp.exit ?_); try simp only [thenP]) | (with_reducible refine BB.go ?_; simp only [blockP, thenP, if_true, if_false, reduceIte]) | (with_reducible refine And.intro (show okLog _ _ = true from by kernel_rfl) ?_))
    have ht := tmod_in (b := y) (M := 4000000000000000000) (n := x) (by omega)
    have ht0 : 0 ≤ x.tmod y := Int.tmod_nonneg _ hx.1
    refine LL.go ⟨(y, x.tmod y), (gcd_step x y).trans hg, hy, ht0, ht.2⟩ [0] ⟨by rfl, by simp [], by simp [or_imp, forall_and, ] <;> (try (intro _hne; simp [_hne])), by decide⟩ ?_
    have h1 : (x.tmod y).natAbs < y.natAbs := by rw [Int.natAbs_tmod]; exact Nat.mod_lt _ (by omega)
    simp only
    exact h1
set_option maxRecDepth 100000 in
set_option maxHeartbeats 8000000 in
theorem refCheckPair_c (l : List CSt) : ACall Try.prog 20 [pairD l] (iD (pairErr l)) := by
  obtain ⟨r, hr⟩ : ∃ r, r = pairErr l := ⟨_, rfl⟩
  rw [← hr]
  by_cases h1 : l.length < 1
  · have h1' : l.length = 0 := by omega
    have h1'' : l = [] := List.eq_nil_of_length_eq_zero h1'
    have hr' : r = 6 := by rw [hr, pairErr, if_pos (.inl h1)]
    refine acallK tabOk Try.func20 rfl rfl (show 1 ≤ _ by decide) rfl fun _ => ?_; simp only [Try.ntmps20]
    repeat (first | (with_reducible first | refine zq1 fun _ => ?_ | refine zq2 fun _ => ?_ | refine zq3 ?_) | ((first | refine zq4 ?_ | refine zq5 fun _ _ => ?_ | refine zq6 ?_); simp [-getElem?_pos, z0, z1, z2, h1', h1'']) | ((first | refine AWp.ret ?_ | refine AWp.skip ?_ | refine AWp.exit ?_); try simp only [thenP]) | (with_reducible refine zq7 ?_; simp only [blockP, thenP, reduceIte]) | with_reducible refine zq8 ?_)
    (first | refine RR.ret ?_ | refine RR.normal ?_); simp [hr']
  have h1' : ¬ ((l.length : Int) < 1) := by omega
  by_cases h2 : 25 < l.length
  · have h2' : (25 : Int) < l.length := by omega
    have hr' : r = 6 := by rw [hr, pairErr, if_pos (.inr h2)]
    refine acallK tabOk Try.func20 rfl rfl (show 1 ≤ _ by decide) rfl fun _ => ?_; simp only [Try.ntmps20]
    repeat (first | (with_reducible first | refine zq1 fun _ => ?_ | refine zq2 fun _ => ?_ | refine zq3 ?_) | ((first | refine zq4 ?_ | refine zq5 fun _ _ => ?_ | refine zq6 ?_); simp [-getElem?_pos, z0, z1, z2, h1', h2']) | ((first | refine AWp.ret ?_ | refine AWp.skip ?_ | refine AWp.exit ?_); try simp only [thenP]) | (with_reducible refine zq7 ?_; simp only [blockP, thenP, reduceIte]) | with_reducible refine zq8 ?_)
    (first | refine RR.ret ?_ | refine RR.normal ?_); simp [hr']
  have h2' : ¬ (25 : Int) < l.length := by omega
  rw [pairErr, if_neg (by omega)] at hr
  refine acallK tabOk Try.func20 rfl rfl (show 1 ≤ _ by decide) rfl fun _ => ?_; simp only [Try.ntmps20]
  repeat (first | (with_reducible first | refine zq1 fun _ => ?_ | refine zq2 fun _ => ?_ | refine zq3 ?_) | ((first | refine zq4 ?_ | refine zq5 fun _ _ => ?_ | refine zq6 ?_); simp [-getElem?_pos, z0, z1, z2, h1', h2']) | ((first | refine AWp.ret ?_ | refine AWp.skip ?_ | refine AWp.exit ?_); try simp only [thenP]) | (with_reducible refine zq7 ?_; simp only [blockP, thenP, reduceIte]) | with_reducible refine zq8 ?_)
  refine AWp.loopK (ι := { k : Nat // k ≤ l.length ∧ okTo l k = true }) (n := 0) (fun k => [(0, .d (pairD l)), (3, .d (iD k.1))]) (fun _ => []) (fun k => l.length - k.1) ⟨0, Nat.zero_le _, by simp [okTo]⟩ [] ?_ ?_
  · refine ⟨by rfl, by simp [], by simp [or_imp, forall_and, ] <;> (try (intro _hne; simp [_hne])), by decide⟩
  rintro ⟨k, hk, hall⟩ kk
  by_cases hlt : k < l.length
  · obtain ⟨t, ht⟩ : ∃ t, l[k]? = some t := ⟨_, List.getElem?_eq_getElem hlt⟩
    have bad : okAt l k = false → r = 3 := fun h => by rw [hr, okTo_not h _ hlt]; rfl
    have good : okAt l k = true → okTo l (k + 1) = true := fun h => by rw [okTo_succ, hall, h]; rfl
    cases k with
    | zero =>
      have w01 : IntKind.i64.wrap 1 = 1 := by decide
      by_cases g1 : t.at_ < 0
      · have hr' := bad (by simp [okAt, ht, stnC, fromK, inK]; omega)
        repeat (first | (with_reducible first | refine zq1 fun _ => ?_ | refine zq2 fun _ => ?_ | refine zq3 ?_) | ((first | refine zq4 ?_ | refine zq5 fun _ _ => ?_ | refine zq6 ?_); simp [-getElem?_pos, z0, z1, z2, hlt, ht, g1]) | ((first | refine AWp.ret ?_ | refine AWp.skip ?_ | refine AWp.exit ?_); try simp only [thenP]) | (with_reducible refine zq7 ?_; simp only [blockP, thenP, reduceIte]) | with_reducible refine zq8 ?_)
        (first | refine RR.ret ?_ | refine RR.normal ?_); simp [hr']
      by_cases g2 : 1000 < t.at_
      · have hr' := bad (by simp [okAt, ht, stnC, fromK, inK]; omega)
        repeat (first | (with_reducible first | refine zq1 fun _ => ?_ | refine zq2 fun _ => ?_ | refine zq3 ?_) | ((first | refine zq4 ?_ | refine zq5 fun _ _ => ?_ | refine zq6 ?_); simp [-getElem?_pos, z0, z1, z2, hlt, ht, g1, g2]) | ((first | refine AWp.ret ?_ | refine AWp.skip ?_ | refine AWp.exit ?_); try simp only [thenP]) | (with_reducible refine zq7 ?_; simp only [blockP, thenP, reduceIte]) | with_reducible refine zq8 ?_)
        (first | refine RR.ret ?_ | refine RR.normal ?_); simp [hr']
      by_cases g3 : t.lo < -1000
      · have hr' := bad (by simp [okAt, ht, stnC, fromK, inK]; omega)
        repeat (first | (with_reducible first | refine zq1 fun _ => ?_ | refine zq2 fun _ => ?_ | refine zq3 ?_) | ((first | refine zq4 ?_ | refine zq5 fun _ _ => ?_ | refine zq6 ?_); simp [-getElem?_pos, z0, z1, z2, hlt, ht, g1, g2, g3]) | ((first | refine AWp.ret ?_ | refine AWp.skip ?_ | refine AWp.exit ?_); try simp only [thenP]) | (with_reducible refine zq7 ?_; simp only [blockP, thenP, reduceIte]) | with_reducible refine zq8 ?_)
        (first | refine RR.ret ?_ | refine RR.normal ?_); simp [hr']
      by_cases g4 : t.hi < t.lo
      · have hr' := bad (by simp [okAt, ht, stnC, fromK, inK]; omega)
        repeat (first | (with_reducible first | refine zq1 fun _ => ?_ | refine zq2 fun _ => ?_ | refine zq3 ?_) | ((first | refine zq4 ?_ | refine zq5 fun _ _ => ?_ | refine zq6 ?_); simp [-getElem?_pos, z0, z1, z2, hlt, ht, g1, g2, g3, g4]) | ((first | refine AWp.ret ?_ | refine AWp.skip ?_ | refine AWp.exit ?_); try simp only [thenP]) | (with_reducible refine zq7 ?_; simp only [blockP, thenP, reduceIte]) | with_reducible refine zq8 ?_)
        (first | refine RR.ret ?_ | refine RR.normal ?_); simp [hr']
      by_cases g5 : 1000 < t.hi
      · have hr' := bad (by simp [okAt, ht, stnC, fromK, inK]; omega)
        repeat (first | (with_reducible first | refine zq1 fun _ => ?_ | refine zq2 fun _ => ?_ | refine zq3 ?_) | ((first | refine zq4 ?_ | refine zq5 fun _ _ => ?_ | refine zq6 ?_); simp [-getElem?_pos, z0, z1, z2, hlt, ht, g1, g2, g3, g4, g5]) | ((first | refine AWp.ret ?_ | refine AWp.skip ?_ | refine AWp.exit ?_); try simp only [thenP]) | (with_reducible refine zq7 ?_; simp only [blockP, thenP, reduceIte]) | with_reducible refine zq8 ?_)
        (first | refine RR.ret ?_ | refine RR.normal ?_); simp [hr']
      · have ho := good (by simp [okAt, ht, stnC, fromK, inK]; omega)
        repeat (first | (with_reducible first | refine zq1 fun _ => ?_ | refine zq2 fun _ => ?_ | refine zq3 ?_) | ((first | refine zq4 ?_ | refine zq5 fun _ _ => ?_ | refine zq6 ?_); simp [-getElem?_pos, z0, z1, z2, hlt, ht, g1, g2, g3, g4, g5, w01]) | ((first | refine AWp.ret ?_ | refine AWp.skip ?_ | refine AWp.exit ?_); try simp only [thenP]) | (with_reducible refine zq7 ?_; simp only [blockP, thenP, reduceIte]) | with_reducible refine zq8 ?_)
        refine LL.go ⟨0 + 1, hlt, ho⟩ [] ⟨by rfl, by simp [w01], by simp [or_imp, forall_and, w01] <;> (try (intro _hne; simp [_hne])), by decide⟩ ?_
        simp; omega
    | succ j =>
      obtain ⟨p, hp⟩ : ∃ p, l[j]? = some p := ⟨_, List.getElem?_eq_getElem (by omega)⟩
      have wj : IntKind.i64.wrap (j : Int) = (j : Int) := wrap64_in (by omega)
      have w1' : IntKind.i64.wrap ((j : Int) + 1 + 1) = (j : Int) + 1 + 1 := wrap64_in (by omega)
      have tn : ((j : Int) + 1).toNat = j + 1 := by omega
      have n0 : 0 ≤ (j : Int) + 1 := by omega
      have p0' : (0 : Int) < (j : Int) + 1 := by omega
      have hlt' : (j : Int) + 1 < l.length := by omega
      have l0 : j < l.length := by omega
      by_cases g1 : t.at_ < 0
      · have hr' := bad (by simp [okAt, ht, hp, stnC, fromK, inK]; omega)
        repeat (first | (with_reducible first | refine zq1 fun _ => ?_ | refine zq2 fun _ => ?_ | refine zq3 ?_) | ((first | refine zq4 ?_ | refine zq5 fun _ _ => ?_ | refine zq6 ?_); simp [-getElem?_pos, z0, z1, z2, hlt, ht, g1, hlt', tn, n0]) | ((first | refine AWp.ret ?_ | refine AWp.skip ?_ | refine AWp.exit ?_); try simp only [thenP]) | (with_reducible refine zq7 ?_; simp only [blockP, thenP, reduceIte]) | with_reducible refine zq8 ?_)
        (first | refine RR.ret ?_ | refine RR.normal ?_); simp [hr']
      by_cases g2 : 1000 < t.at_
      · have hr' := bad (by simp [okAt, ht, hp, stnC, fromK, inK]; omega)
        repeat (first | (with_reducible first | refine zq1 fun _ => ?_ | refine zq2 fun _ => ?_ | refine zq3 ?_) | ((first | refine zq4 ?_ | refine zq5 fun _ _ => ?_ | refine zq6 ?_); simp [-getElem?_pos, z0, z1, z2, hlt, ht, g1, g2, hlt', tn, n0]) | ((first | refine AWp.ret ?_ | refine AWp.skip ?_ | refine AWp.exit ?_); try simp only [thenP]) | (with_reducible refine zq7 ?_; simp only [blockP, thenP, reduceIte]) | with_reducible refine zq8 ?_)
        (first | refine RR.ret ?_ | refine RR.normal ?_); simp [hr']
      by_cases g6 : t.at_ ≤ p.at_
      · have hr' := bad (by simp [okAt, ht, hp, stnC, fromK, inK]; omega)
        repeat (first | (with_reducible first | refine zq1 fun _ => ?_ | refine zq2 fun _ => ?_ | refine zq3 ?_) | ((first | refine zq4 ?_ | refine zq5 fun _ _ => ?_ | refine zq6 ?_); simp [-getElem?_pos, z0, z1, z2, hlt, ht, hp, g1, g2, g6, hlt', tn, n0, p0', wj, l0]) | ((first | refine AWp.ret ?_ | refine AWp.skip ?_ | refine AWp.exit ?_); try simp only [thenP]) | (with_reducible refine zq7 ?_; simp only [blockP, thenP, reduceIte]) | with_reducible refine zq8 ?_)
        (first | refine RR.ret ?_ | refine RR.normal ?_); simp [hr']
      by_cases g3 : t.lo < -1000
      · have hr' := bad (by simp [okAt, ht, hp, stnC, fromK, inK]; omega)
        repeat (first | (with_reducible first | refine zq1 fun _ => ?_ | refine zq2 fun _ => ?_ | refine zq3 ?_) | ((first | refine zq4 ?_ | refine zq5 fun _ _ => ?_ | refine zq6 ?_); simp [-getElem?_pos, z0, z1, z2, hlt, ht, hp, g1, g2, g6, g3, hlt', tn, n0, p0', wj, l0]) | ((first | refine AWp.ret ?_ | refine AWp.skip ?_ | refine AWp.exit ?_); try simp only [thenP]) | (with_reducible refine zq7 ?_; simp only [blockP, thenP, reduceIte]) | with_reducible refine zq8 ?_)
        (first | refine RR.ret ?_ | refine RR.normal ?_); simp [hr']
      by_cases g4 : t.hi < t.lo
      · have hr' := bad (by simp [okAt, ht, hp, stnC, fromK, inK]; omega)
        repeat (first | (with_reducible first | refine zq1 fun _ => ?_ | refine zq2 fun _ => ?_ | refine zq3 ?_) | ((first | refine zq4 ?_ | refine zq5 fun _ _ => ?_ | refine zq6 ?_); simp [-getElem?_pos, z0, z1, z2, hlt, ht, hp, g1, g2, g6, g3, g4, hlt', tn, n0, p0', wj, l0]) | ((first | refine AWp.ret ?_ | refine AWp.skip ?_ | refine AWp.exit ?_); try simp only [thenP]) | (with_reducible refine zq7 ?_; simp only [blockP, thenP, reduceIte]) | with_reducible refine zq8 ?_)
        (first | refine RR.ret ?_ | refine RR.normal ?_); simp [hr']
      by_cases g5 : 1000 < t.hi
      · have hr' := bad (by simp [okAt, ht, hp, stnC, fromK, inK]; omega)
        repeat (first | (with_reducible first | refine zq1 fun _ => ?_ | refine zq2 fun _ => ?_ | refine zq3 ?_) | ((first | refine zq4 ?_ | refine zq5 fun _ _ => ?_ | refine zq6 ?_); simp [-getElem?_pos, z0, z1, z2, hlt, ht, hp, g1, g2, g6, g3, g4, g5, hlt', tn, n0, p0', wj, l0]) | ((first | refine AWp.ret ?_ | refine AWp.skip ?_ | refine AWp.exit ?_); try simp only [thenP]) | (with_reducible refine zq7 ?_; simp only [blockP, thenP, reduceIte]) | with_reducible refine zq8 ?_)
        (first | refine RR.ret ?_ | refine RR.normal ?_); simp [hr']
      · have ho := good (by simp [okAt, ht, hp, stnC, fromK, inK]; omega)
        repeat (first | (with_reducible first | refine zq1 fun _ => ?_ | refine zq2 fun _ => ?_ | refine zq3 ?_) | ((first | refine zq4 ?_ | refine zq5 fun _ _ => ?_ | refine zq6 ?_); simp [-getElem?_pos, z0, z1, z2, hlt, ht, hp, g1, g2, g6, g3, g4, g5, hlt', tn, n0, p0', wj, l0, w1']) | ((first | refine AWp.ret ?_ | refine AWp.skip ?_ | refine AWp.exit ?_); try simp only [thenP]) | (with_reducible refine zq7 ?_; simp only [blockP, thenP, reduceIte]) | with_reducible refine zq8 ?_)
        refine LL.go ⟨j + 1 + 1, hlt, ho⟩ [] ⟨by rfl, by simp [], by simp [or_imp, forall_and, ] <;> (try (intro _hne; simp [_hne])), by decide⟩ ?_
        simp; omega
  · obtain rfl : k = l.length := by omega
    have hr' : r = 0 := by rw [hr, if_pos hall]
    repeat (first | (with_reducible first | refine zq1 fun _ => ?_ | refine zq2 fun _ => ?_ | refine zq3 ?_) | ((first | refine zq4 ?_ | refine zq5 fun _ _ => ?_ | refine zq6 ?_); simp [-getElem?_pos, z0, z1, z2, hlt]) | ((first | refine AWp.ret ?_ | refine AWp.skip ?_ | refine AWp.exit ?_); try simp only [thenP]) | (with_reducible refine zq7 ?_; simp only [blockP, thenP, reduceIte]) | with_reducible refine zq8 ?_)
    (first | refine RR.ret ?_ | refine RR.normal ?_); simp [hr']
end Go.Proofs.Ytjjoiihgpkhndaa.Eng


noncomputable section
namespace Go.Proofs.Ytjjoiihgpkhndaa.Eng
open Go.RowKit
variable {P : Program}
theorem ACall.ofR {f : FuncId} {ds : List Dat} {d : Dat} (h : RCall P f (ds.map .d) d (fun _ => none)) : ACall P f ds d :=
  ⟨h.callable, fun ro w vs hro hs hr => by
    let E : Env := ⟨ro, fun _ => False, fun _ => ⟨0, 0, 0⟩⟩
    have M : MS (fixOf w) ro (fun _ => False) (fun _ => none) E w := ⟨Kept.refl _ _, fun _ h => h, fun _ h => .inl h, hro, fun _ h => h, fun i b hi => by (cases hi), fun i b hi => by (cases hi), fun i b hi => by (cases hi), fun i b hi => by (cases hi), fun i j b c hi => by (cases hi)⟩
    refine (h.calls (fixOf w) ro (fun _ => False) 0 E w vs (fun _ h => h.elim) M (by simp [hs]) fun i x v hx hv => ?_).mono ?_
    · rw [List.getElem?_map, Option.map_eq_some_iff] at hx
      obtain ⟨d, hd, rfl⟩ := hx
      exact .d _ _ (hr i d v hd hv)
    · rintro e w' ⟨v, E', rfl, M', hE, hw, hv⟩
      cases hv with
      | d _ _ hv =>
      refine ⟨v, rfl, M'.below.below, hv.keep (fun b hb => ?_) fun _ _ => rfl⟩
      rcases M'.ro1 b hb with h | h
      · exact .inl h
      · exact .inr ⟨Nat.le_of_not_lt h, M'.rlt b hb⟩⟩
end Go.Proofs.Ytjjoiihgpkhndaa.Eng


noncomputable section
namespace Go.Proofs.Ytjjoiihgpkhndaa.Eng
open Go.RowKit
def spanD (a b : Int × Int) : Dat := .agg [iD a.1, iD a.2, iD b.1, iD b.2]
theorem tilts_a (l : List CSt) (v : List Int) (i : Int) : ACall Try.prog 17 [pairD l, intL v, iD i] (.tup [spanD (tiltsQ l v i).1 (tiltsQ l v i).2, iD (tiltsE l v i)]) :=
  ACall.ofR (RCall.of3 (n0 := 0) fun n _ => (tilts_c l v i n _).mono fun y n' m' ⟨_, h2, h3⟩ => ⟨by rw [h3]; rfl, h2⟩)
set_option maxRecDepth 100000 in
set_option maxHeartbeats 8000000 in
theorem refIsTruth_c (l : List CSt) (v : List Int) : ACall Try.prog 52 [pairD l, intL v] (iD (truthErr l v)) := by
  have c := refCheckPair_c l
  obtain ⟨r, hr⟩ : ∃ r, r = truthErr l v := ⟨_, rfl⟩
  rw [← hr]
  unfold truthErr at hr
  by_cases h0 : pairErr l = 0
  · rw [if_pos h0] at hr
    rw [h0] at c
    have hl : l.length ≤ 25 := by
      unfold pairErr at h0
      split at h0
      · cases h0
      · omega
    by_cases hv : v.length = l.length
    · rw [if_pos hv] at hr
      refine acallK tabOk Try.func52 rfl rfl (show 2 ≤ _ by decide) rfl fun _ => ?_; simp only [Try.ntmps52]
      repeat (first | (with_reducible first | refine zq1 fun _ => ?_ | refine zq2 fun _ => ?_ | refine zq3 ?_) | ((first | refine zq4 ?_ | refine zq5 fun _ _ => ?_ | refine zq6 ?_); simp [-getElem?_pos, z0, z1, z2, hv]) | ((first | refine AWp.ret ?_ | refine AWp.skip ?_ | refine AWp.exit ?_); try simp only [thenP]) | (with_reducible refine zq7 ?_; simp only [blockP, thenP, reduceIte]) | with_reducible refine zq8 ?_)
      (first | refine Exec0.call [] c ?_ rfl ?_ ?_ | refine Exec.call [] c ?_ rfl ?_ ?_); (focus simp [-getElem?_pos, hv]); (focus simp [-getElem?_pos, z0, z1, z2, hv]); simp [-getElem?_pos, z0, z1, z2, hv]
      repeat (first | (with_reducible first | refine zq1 fun _ => ?_ | refine zq2 fun _ => ?_ | refine zq3 ?_) | ((first | refine zq4 ?_ | refine zq5 fun _ _ => ?_ | refine zq6 ?_); simp [-getElem?_pos, z0, z1, z2, hv]) | ((first | refine AWp.ret ?_ | refine AWp.skip ?_ | refine AWp.exit ?_); try simp only [thenP]) | (with_reducible refine zq7 ?_; simp only [blockP, thenP, reduceIte]) | with_reducible refine zq8 ?_)
      refine AWp.loopK (ι := { k : Nat // k ≤ l.length ∧ trOk l v k = true }) (n := 0) (fun k => [(0, .d (pairD l)), (1, .d (intL v)), (5, .d (iD k.1))]) (fun _ => []) (fun k => l.length - k.1) ⟨0, Nat.zero_le _, by simp [trOk]⟩ [] ?_ ?_
      · refine ⟨by rfl, by simp [], by simp [or_imp, forall_and, ] <;> (try (intro _hne; simp [_hne])), by decide⟩
      rintro ⟨k, hk, hal⟩ kk
      have w1 : IntKind.i64.wrap ((k : Int) + 1) = (k : Int) + 1 := wrap64_in (by omega)
      by_cases hlt : k < l.length
      · obtain ⟨t, ht⟩ : ∃ t, l[k]? = some t := ⟨_, List.getElem?_eq_getElem hlt⟩
        have hkv : k < v.length := by omega
        obtain ⟨x, hx⟩ : ∃ x, v[k]? = some x := ⟨_, List.getElem?_eq_getElem hkv⟩
        have tr : trOk l v (k + 1) = fromK t.lo t.hi [x] := by
          unfold trOk at hal ⊢
          rw [allK_take (spots_get ht), hal, Bool.true_and]
          simp [hx]
        have bad (h : trOk l v (k + 1) = false) : r = 3 := by
          have : trOk l v l.length = false := by
            unfold trOk at h ⊢
            rw [List.all_eq_false] at h ⊢
            obtain ⟨y, hy, hy2⟩ := h
            exact ⟨y, List.take_subset_take_left _ (by omega) hy, hy2⟩
          rw [hr, this]; rfl
        by_cases g1 : x < t.lo
        · have hr' : r = 3 := bad (by rw [tr]; simp [fromK, inK]; omega)
          repeat (first | (with_reducible first | refine zq1 fun _ => ?_ | refine zq2 fun _ => ?_ | refine zq3 ?_) | ((first | refine zq4 ?_ | refine zq5 fun _ _ => ?_ | refine zq6 ?_); simp [-getElem?_pos, z0, z1, z2, hv, hlt, ht, hx, hkv, g1]) | ((first | refine AWp.ret ?_ | refine AWp.skip ?_ | refine AWp.exit ?_); try simp only [thenP]) | (with_reducible refine zq7 ?_; simp only [blockP, thenP, reduceIte]) | with_reducible refine zq8 ?_)
          (first | refine RR.ret ?_ | refine RR.normal ?_); simp [hr']
        by_cases g2 : t.hi < x
        · have hr' : r = 3 := bad (by rw [tr]; simp [fromK, inK]; omega)
          repeat (first | (with_reducible first | refine zq1 fun _ => ?_ | refine zq2 fun _ => ?_ | refine zq3 ?_) | ((first | refine zq4 ?_ | refine zq5 fun _ _ => ?_ | refine zq6 ?_); simp [-getElem?_pos, z0, z1, z2, hv, hlt, ht, hx, hkv, g1, g2]) | ((first | refine AWp.ret ?_ | refine AWp.skip ?_ | refine AWp.exit ?_); try simp only [thenP]) | (with_reducible refine zq7 ?_; simp only [blockP, thenP, reduceIte]) | with_reducible refine zq8 ?_)
          (first | refine RR.ret ?_ | refine RR.normal ?_); simp [hr']
        · have tr2 : trOk l v (k + 1) = true := by rw [tr]; simp [fromK, inK]; omega
          repeat (first | (with_reducible first | refine zq1 fun _ => ?_ | refine zq2 fun _ => ?_ | refine zq3 ?_) | ((first | refine zq4 ?_ | refine zq5 fun _ _ => ?_ | refine zq6 ?_); simp [-getElem?_pos, z0, z1, z2, hv, hlt, ht, hx, hkv, g1, g2, w1]) | ((first | refine AWp.ret ?_ | refine AWp.skip ?_ | refine AWp.exit ?_); try simp only [thenP]) | (with_reducible refine zq7 ?_; simp only [blockP, thenP, reduceIte]) | with_reducible refine zq8 ?_)
          refine LL.go ⟨k + 1, hlt, tr2⟩ [] ⟨by rfl, by simp [], by simp [or_imp, forall_and, ] <;> (try (intro _hne; simp [_hne])), by decide⟩ ?_
          simp; omega
      · obtain rfl : k = l.length := by omega
        have hr' : r = 0 := by rw [hr, if_pos hal]
        repeat (first | (with_reducible first | refine zq1 fun _ => ?_ | refine zq2 fun _ => ?_ | refine zq3 ?_) | ((first | refine zq4 ?_ | refine zq5 fun _ _ => ?_ | refine zq6 ?_); simp [-getElem?_pos, z0, z1, z2, hv, hlt]) | ((first | refine AWp.ret ?_ | refine AWp.skip ?_ | refine AWp.exit ?_); try simp only [thenP]) | (with_reducible refine zq7 ?_; simp only [blockP, thenP, reduceIte]) | with_reducible refine zq8 ?_)
        (first | refine RR.ret ?_ | refine RR.normal ?_); simp [hr']
    · have hr' : r = 15 := by rw [hr, if_neg hv]
      have hv' : ¬ (v.length : Int) = l.length := by omega
      refine acallK tabOk Try.func52 rfl rfl (show 2 ≤ _ by decide) rfl fun _ => ?_; simp only [Try.ntmps52]
      repeat (first | (with_reducible first | refine zq1 fun _ => ?_ | refine zq2 fun _ => ?_ | refine zq3 ?_) | ((first | refine zq4 ?_ | refine zq5 fun _ _ => ?_ | refine zq6 ?_); simp [-getElem?_pos, z0, z1, z2, hv, hv']) | ((first | refine AWp.ret ?_ | refine AWp.skip ?_ | refine AWp.exit ?_); try simp only [thenP]) | (with_reducible refine zq7 ?_; simp only [blockP, thenP, reduceIte]) | with_reducible refine zq8 ?_)
      (first | refine Exec0.call [] c ?_ rfl ?_ ?_ | refine Exec.call [] c ?_ rfl ?_ ?_); (focus simp [-getElem?_pos, hv, hv']); (focus simp [-getElem?_pos, z0, z1, z2, hv, hv']); simp [-getElem?_pos, z0, z1, z2, hv, hv']
      repeat (first | (with_reducible first | refine zq1 fun _ => ?_ | refine zq2 fun _ => ?_ | refine zq3 ?_) | ((first | refine zq4 ?_ | refine zq5 fun _ _ => ?_ | refine zq6 ?_); simp [-getElem?_pos, z0, z1, z2, hv, hv']) | ((first | refine AWp.ret ?_ | refine AWp.skip ?_ | refine AWp.exit ?_); try simp only [thenP]) | (with_reducible refine zq7 ?_; simp only [blockP, thenP, reduceIte]) | with_reducible refine zq8 ?_)
      (first | refine RR.ret ?_ | refine RR.normal ?_); simp [hr']
  · rw [if_neg h0] at hr
    rw [← hr] at c h0
    refine acallK tabOk Try.func52 rfl rfl (show 2 ≤ _ by decide) rfl fun _ => ?_; simp only [Try.ntmps52]
    repeat (first | (with_reducible first | refine zq1 fun _ => ?_ | refine zq2 fun _ => ?_ | refine zq3 ?_) | ((first | refine zq4 ?_ | refine zq5 fun _ _ => ?_ | refine zq6 ?_); simp [-getElem?_pos, z0, z1, z2, h0]) | ((first | refine AWp.ret ?_ | refine AWp.skip ?_ | refine AWp.exit ?_); try simp only [thenP]) | (with_reducible refine zq7 ?_; simp only [blockP, thenP, reduceIte]) | with_reducible refine zq8 ?_)
    (first | refine Exec0.call [] c ?_ rfl ?_ ?_ | refine Exec.call [] c ?_ rfl ?_ ?_); (focus simp [-getElem?_pos, h0]); (focus simp [-getElem?_pos, z0, z1, z2, h0]); simp [-getElem?_pos, z0, z1, z2, h0]
    repeat (first | (with_reducible first | refine zq1 fun _ => ?_ | refine zq2 fun _ => ?_ | refine zq3 ?_) | ((first | refine zq4 ?_ | refine zq5 fun _ _ => ?_ | refine zq6 ?_); simp [-getElem?_pos, z0, z1, z2, h0]) | ((first | refine AWp.ret ?_ | refine AWp.skip ?_ | refine AWp.exit ?_); try simp only [thenP]) | (with_reducible refine zq7 ?_; simp only [blockP, thenP, reduceIte]) | with_reducible refine zq8 ?_)
    (first | refine Exec0.call [] c ?_ rfl ?_ ?_ | refine Exec.call [] c ?_ rfl ?_ ?_); (focus simp [-getElem?_pos, h0]); (focus simp [-getElem?_pos, z0, z1, z2, h0]); simp [-getElem?_pos, z0, z1, z2, h0]
    repeat (first | (with_reducible first | refine zq1 fun _ => ?_ | refine zq2 fun _ => ?_ | refine zq3 ?_) | ((first | refine zq4 ?_ | refine zq5 fun _ _ => ?_ | refine zq6 ?_); simp [-getElem?_pos, z0, z1, z2, h0]) | ((first | refine AWp.ret ?_ | refine AWp.skip ?_ | refine AWp.exit ?_); try simp only [thenP]) | (with_reducible refine zq7 ?_; simp only [blockP, thenP, reduceIte]) | with_reducible refine zq8 ?_)
    (first | refine RR.ret ?_ | refine RR.normal ?_); simp []
end Go.Proofs.Ytjjoiihgpkhndaa.Eng


noncomputable section
namespace Go.Proofs.Ytjjoiihgpkhndaa.Eng
open Go.RowKit
theorem red_neg (a b : Int) (hb : 0 < b) : red (-a) (-b) = red a b := by
  unfold red
  simp only [Int.neg_gcd, Int.gcd_neg]
  rw [if_pos (by omega), if_neg (by omega)]
  simp
def loTo (v : List Int) (L : List Spot) (q : Spot) (s k : Nat) : Int × Int := leastR (fun a b => lessQ b a) (-10000, 1) (((L.take s).map (slope v q)).take k)
def hiTo (v : List Int) (L : List Spot) (q : Spot) (s k : Nat) : Int × Int := leastR lessQ (10000, 1) (((L.drop (s + 1)).map (slope v q)).take (k - (s + 1)))
theorem loTo_succ {v : List Int} {L : List Spot} {q o : Spot} {s k : Nat} (hk : k < s) (ho : L[k]? = some o) : loTo v L q s (k + 1) = if lessQ (loTo v L q s k) (slope v q o) = true then slope v q o else loTo v L q s k := by
  unfold loTo
  rw [leastR_succ _ _ (q := slope v q o) (by rw [List.getElem?_map, List.getElem?_take, if_pos hk, ho]; rfl)]
theorem loTo_end {v : List Int} {L : List Spot} {q : Spot} {s k : Nat} (hk : s ≤ k) : loTo v L q s k = leastR (fun a b => lessQ b a) (-10000, 1) ((L.take s).map (slope v q)) := by
  unfold loTo
  rw [List.take_of_length_le (by simp; omega)]
theorem hiTo_succ {v : List Int} {L : List Spot} {q o : Spot} {s k : Nat} (hk : s < k) (ho : L[k]? = some o) : hiTo v L q s (k + 1) = if lessQ (slope v q o) (hiTo v L q s k) = true then slope v q o else hiTo v L q s k := by
  unfold hiTo
  rw [show k + 1 - (s + 1) = (k - (s + 1)) + 1 by omega, leastR_succ _ _ (q := slope v q o) (by rw [List.getElem?_map, List.getElem?_drop, show s + 1 + (k - (s + 1)) = k by omega, ho]; rfl)]
theorem hiTo_low {v : List Int} {L : List Spot} {q : Spot} {s k : Nat} (hk : k ≤ s + 1) : hiTo v L q s k = (10000, 1) := by
  unfold hiTo
  rw [show k - (s + 1) = 0 by omega]
  rfl
theorem hiTo_end {v : List Int} {L : List Spot} {q : Spot} {s k : Nat} (hk : L.length ≤ k) : hiTo v L q s k = leastR lessQ (10000, 1) ((L.drop (s + 1)).map (slope v q)) := by
  unfold hiTo
  rw [List.take_of_length_le (by simp; omega)]
set_option maxRecDepth 100000 in
set_option maxHeartbeats 16000000 in
theorem refSpan_c {l : List CSt} {v v' : List Int} {s : Nat} {own : Int} {q : Spot} (hp : pairErr l = 0) (hv : v.length = l.length) (hq : (spots l)[s]? = some q) (hv' : v' = v.set s own) (ok : ∀ o ∈ spots l, SpotOk v' o) :
    ACall Try.prog 55 [pairD l, intL v, iD s, iD own] (.tup [if lessQ (tiltHi v' (spots l) q) (tiltLo v' (spots l) q) = true then spanD (0, 0) (0, 0) else spanD (tiltLo v' (spots l) q) (tiltHi v' (spots l) q), iD (if lessQ (tiltHi v' (spots l) q) (tiltLo v' (spots l) q) = true then 22 else 0)]) := by
  obtain ⟨r, hr⟩ : ∃ r : Dat, r = .tup [if lessQ (tiltHi v' (spots l) q) (tiltLo v' (spots l) q) = true then spanD (0, 0) (0, 0) else spanD (tiltLo v' (spots l) q) (tiltHi v' (spots l) q), iD (if lessQ (tiltHi v' (spots l) q) (tiltLo v' (spots l) q) = true then 22 else 0)] := ⟨_, rfl⟩
  rw [← hr]
  have hl : l.length ≤ 25 := by
    unfold pairErr at hp
    split at hp
    · cases hp
    · omega
  obtain ⟨ts, hts, eq⟩ := spot_is hq
  have hsl : s < l.length := (List.getElem?_eq_some_iff.1 hts).1
  refine acallK tabOk Try.func55 rfl rfl (show 4 ≤ _ by decide) rfl fun _ => ?_; simp only [Try.ntmps55]
  repeat (first | (with_reducible first | refine zq1 fun _ => ?_ | refine zq2 fun _ => ?_ | refine zq3 ?_) | ((first | refine zq4 ?_ | refine zq5 fun _ _ => ?_ | refine zq6 ?_); simp [-getElem?_pos, z0, z1, z2, ]) | ((first | refine AWp.ret ?_ | refine AWp.skip ?_ | refine AWp.exit ?_); try simp only [thenP]) | (with_reducible refine zq7 ?_; simp only [blockP, thenP, reduceIte]) | with_reducible refine zq8 ?_)
  have vs' : v'[s]? = some own := by rw [hv', List.getElem?_set_self (by omega)]
  have oq := ok q (List.mem_of_getElem? hq)
  have qn : q.name = (s : Int) := spots_name hq
  have qa : q.at_ = ts.at_ := by rw [eq]
  have ownB : -1000 ≤ own ∧ own ≤ 1000 := by
    obtain ⟨y, y1, y2⟩ := oq.high
    rw [qn, Int.toNat_natCast, vs'] at y1
    cases y1
    exact y2
  have sIn : ∀ L' : List Spot, (∀ o ∈ L', o ∈ spots l) → ∀ (less : Int × Int → Int × Int → Bool) (one : Int × Int), ((-1000000 ≤ one.1 ∧ one.1 ≤ 1000000) ∧ (-1000000 ≤ one.2 ∧ one.2 ≤ 1000000)) → ∀ j, (-1000000 ≤ (leastR less one ((L'.map (slope v' q)).take j)).1 ∧ (leastR less one ((L'.map (slope v' q)).take j)).1 ≤ 1000000) ∧ (-1000000 ≤ (leastR less one ((L'.map (slope v' q)).take j)).2 ∧ (leastR less one ((L'.map (slope v' q)).take j)).2 ≤ 1000000) := fun L' hL less one h1 j => by
    rcases leastR_mem less one ((L'.map (slope v' q)).take j) with h | h
    · rw [h]; exact h1
    · obtain ⟨o, ho, e⟩ := List.mem_map.1 (List.mem_of_mem_take h)
      rw [← e]
      exact slope_in oq (ok o (hL o ho))
  have loIn : ∀ j, (-1000000 ≤ (loTo v' (spots l) q s j).1 ∧ (loTo v' (spots l) q s j).1 ≤ 1000000) ∧ (-1000000 ≤ (loTo v' (spots l) q s j).2 ∧ (loTo v' (spots l) q s j).2 ≤ 1000000) := sIn ((spots l).take s) (fun o ho => List.mem_of_mem_take ho) (fun a b => lessQ b a) (-10000, 1) (by decide)
  have hiIn : ∀ j, (-1000000 ≤ (hiTo v' (spots l) q s j).1 ∧ (hiTo v' (spots l) q s j).1 ≤ 1000000) ∧ (-1000000 ≤ (hiTo v' (spots l) q s j).2 ∧ (hiTo v' (spots l) q s j).2 ≤ 1000000) := fun j => sIn ((spots l).drop (s + 1)) (fun o ho => List.mem_of_mem_drop ho) lessQ (10000, 1) (by decide) (j - (s + 1))
  refine AWp.loopK (ι := { k : Nat // k ≤ l.length }) (n := 2) (fun k => [(0, .d (pairD l)), (1, .d (intL v)), (2, .d (iD s)), (3, .d (iD own)), (8, .ptr 0 0 0), (9, .d (iD 0)), (10, .ptr 1 0 0), (11, .d (iD k.1))]) (fun k => [(0, .box 34 [.d (iD 0), .d (iD 0), .d (iD 0), .d (iD 0)] false), (1, .box 34 [.d (iD (loTo v' (spots l) q s k.1).1), .d (iD (loTo v' (spots l) q s k.1).2), .d (iD (hiTo v' (spots l) q s k.1).1), .d (iD (hiTo v' (spots l) q s k.1).2)] false)]) (fun k => l.length - k.1) ⟨0, Nat.zero_le _⟩ [0, 5] ?_ ?_
  · have a1 : loTo v' (spots l) q s 0 = (-10000, 1) := by simp [loTo, leastR]
    have a2 : hiTo v' (spots l) q s 0 = (10000, 1) := hiTo_low (by omega)
    refine ⟨by rfl, by simp [a1, a2], by simp [or_imp, forall_and, a1, a2] <;> (try (intro _hne; simp [_hne])), by decide⟩
  rintro ⟨k, hk⟩ kk
  have w1 : IntKind.i64.wrap ((k : Int) + 1) = (k : Int) + 1 := wrap64_in (by omega)
  by_cases hlt : k < l.length
  · obtain ⟨t, ht⟩ : ∃ t, l[k]? = some t := ⟨_, List.getElem?_eq_getElem hlt⟩
    have hkv : k < v.length := by omega
    obtain ⟨x, hx⟩ : ∃ x, v[k]? = some x := ⟨_, List.getElem?_eq_getElem hkv⟩
    have ho := spots_get ht
    have oo := ok _ (List.mem_of_getElem? ho)
    have oa : 0 ≤ t.at_ ∧ t.at_ ≤ 1000 := oo.at_
    have qa2 : 0 ≤ ts.at_ ∧ ts.at_ ≤ 1000 := by rw [← qa]; exact oq.at_
    have xB : k ≠ s → -1000 ≤ x ∧ x ≤ 1000 := fun h => by
      obtain ⟨y, y1, y2⟩ := oo.high
      simp only [Int.toNat_natCast] at y1
      rw [hv', List.getElem?_set_ne (by omega), hx] at y1
      cases y1
      exact y2
    have vx : k ≠ s → v'[k]? = some x := fun h => by rw [hv', List.getElem?_set_ne (by omega), hx]
    by_cases g1 : k < s
    · have g1' : ¬ s < k := by omega
      have xb := xB (by omega)
      have al := at_lt hp ht s hts g1
      have sl : slope v' q ⟨t.at_, t.lo, t.hi, k⟩ = red (own - x) (ts.at_ - t.at_) := by
        unfold slope
        rw [qn, qa]
        simp only [Int.toNat_natCast, vs', vx (by omega), Option.getD_some]
        rw [← red_neg (own - x) (ts.at_ - t.at_) (by omega)]
        congr 1 <;> omega
      have wa : IntKind.i64.wrap (own - x) = own - x := wrap64_in (by omega)
      have wb : IntKind.i64.wrap (ts.at_ - t.at_) = ts.at_ - t.at_ := wrap64_in (by omega)
      have cf : ACall Try.prog 88 [iD (own - x), iD (ts.at_ - t.at_)] (ratD (slope v' q ⟨t.at_, t.lo, t.hi, k⟩)) := by
        rw [sl]; exact refFraction_c _ _ (by omega) (by omega)
      have sb := slope_in oq oo
      have lb := loIn k
      have nx := loTo_succ (v := v') (q := q) g1 ho
      have hx2 : hiTo v' (spots l) q s (k + 1) = hiTo v' (spots l) q s k := by rw [hiTo_low (by omega), hiTo_low (by omega)]
      have cl := refLess_c (loTo v' (spots l) q s k) (slope v' q ⟨t.at_, t.lo, t.hi, k⟩) (mul_in lb.1 sb.2) (mul_in sb.1 lb.2)
      generalize slope v' q ⟨t.at_, t.lo, t.hi, k⟩ = sq at cf cl nx
      rcases hb : lessQ (loTo v' (spots l) q s k) sq <;> rw [hb] at cl nx
      · repeat (first | (with_reducible first | refine zq1 fun _ => ?_ | refine zq2 fun _ => ?_ | refine zq3 ?_) | ((first | refine zq4 ?_ | refine zq5 fun _ _ => ?_ | refine zq6 ?_); simp [-getElem?_pos, z0, z1, z2, hlt, ht, hts, hx, hkv, hsl, g1, wa, wb]) | ((first | refine AWp.ret ?_ | refine AWp.skip ?_ | refine AWp.exit ?_); try simp only [thenP]) | (with_reducible refine zq7 ?_; simp only [blockP, thenP, reduceIte]) | with_reducible refine zq8 ?_)
        refine Exec.call [] cf ?_ rfl ?_ ?_; (focus simp [-getElem?_pos]); (focus simp [-getElem?_pos, z0, z1, z2, ratD]); simp [-getElem?_pos, z0, z1, z2, ratD]
        repeat (first | (with_reducible first | refine zq1 fun _ => ?_ | refine zq2 fun _ => ?_ | refine zq3 ?_) | ((first | refine zq4 ?_ | refine zq5 fun _ _ => ?_ | refine zq6 ?_); simp [-getElem?_pos, z0, z1, z2, ratD]) | ((first | refine AWp.ret ?_ | refine AWp.skip ?_ | refine AWp.exit ?_); try simp only [thenP]) | (with_reducible refine zq7 ?_; simp only [blockP, thenP, reduceIte]) | with_reducible refine zq8 ?_)
        refine Exec0.call [] cl ?_ rfl ?_ ?_; (focus simp [-getElem?_pos]); (focus simp [-getElem?_pos, z0, z1, z2, ratD]); simp [-getElem?_pos, z0, z1, z2, ratD]
        repeat (first | (with_reducible first | refine zq1 fun _ => ?_ | refine zq2 fun _ => ?_ | refine zq3 ?_) | ((first | refine zq4 ?_ | refine zq5 fun _ _ => ?_ | refine zq6 ?_); simp [-getElem?_pos, z0, z1, z2, g1, g1', w1]) | ((first | refine AWp.ret ?_ | refine AWp.skip ?_ | refine AWp.exit ?_); try simp only [thenP]) | (with_reducible refine zq7 ?_; simp only [blockP, thenP, reduceIte]) | with_reducible refine zq8 ?_)
        simp at nx
        refine LL.go ⟨k + 1, hlt⟩ [0, 1] ⟨by rfl, by simp [nx, hx2], by simp [or_imp, forall_and, nx, hx2] <;> (try (intro _hne; simp [_hne])), by decide⟩ ?_
        simp; omega
      · repeat (first | (with_reducible first | refine zq1 fun _ => ?_ | refine zq2 fun _ => ?_ | refine zq3 ?_) | ((first | refine zq4 ?_ | refine zq5 fun _ _ => ?_ | refine zq6 ?_); simp [-getElem?_pos, z0, z1, z2, hlt, ht, hts, hx, hkv, hsl, g1, wa, wb]) | ((first | refine AWp.ret ?_ | refine AWp.skip ?_ | refine AWp.exit ?_); try simp only [thenP]) | (with_reducible refine zq7 ?_; simp only [blockP, thenP, reduceIte]) | with_reducible refine zq8 ?_)
        refine Exec.call [] cf ?_ rfl ?_ ?_; (focus simp [-getElem?_pos]); (focus simp [-getElem?_pos, z0, z1, z2, ratD]); simp [-getElem?_pos, z0, z1, z2, ratD]
        repeat (first | (with_reducible first | refine zq1 fun _ => ?_ | refine zq2 fun _ => ?_ | refine zq3 ?_) | ((first | refine zq4 ?_ | refine zq5 fun _ _ => ?_ | refine zq6 ?_); simp [-getElem?_pos, z0, z1, z2, ratD]) | ((first | refine AWp.ret ?_ | refine AWp.skip ?_ | refine AWp.exit ?_); try simp only [thenP]) | (with_reducible refine zq7 ?_; simp only [blockP, thenP, reduceIte]) | with_reducible refine zq8 ?_)
        refine Exec0.call [] cl ?_ rfl ?_ ?_; (focus simp [-getElem?_pos]); (focus simp [-getElem?_pos, z0, z1, z2, ratD]); simp [-getElem?_pos, z0, z1, z2, ratD]
        repeat (first | (with_reducible first | refine zq1 fun _ => ?_ | refine zq2 fun _ => ?_ | refine zq3 ?_) | ((first | refine zq4 ?_ | refine zq5 fun _ _ => ?_ | refine zq6 ?_); simp [-getElem?_pos, z0, z1, z2, g1, g1', w1]) | ((first | refine AWp.ret ?_ | refine AWp.skip ?_ | refine AWp.exit ?_); try simp only [thenP]) | (with_reducible refine zq7 ?_; simp only [blockP, thenP, reduceIte]) | with_reducible refine zq8 ?_)
        simp at nx
        refine LL.go ⟨k + 1, hlt⟩ [0, 1] ⟨by rfl, by simp [nx, hx2], by simp [or_imp, forall_and, nx, hx2] <;> (try (intro _hne; simp [_hne])), by decide⟩ ?_
        simp; omega
    have lk : loTo v' (spots l) q s (k + 1) = loTo v' (spots l) q s k := by rw [loTo_end (by omega), loTo_end (by omega)]
    by_cases g2 : s < k
    · have xb := xB (by omega)
      have al := at_lt hp hts k ht g2
      have sl : slope v' q ⟨t.at_, t.lo, t.hi, k⟩ = red (x - own) (t.at_ - ts.at_) := by
        unfold slope
        rw [qn, qa]
        simp only [Int.toNat_natCast, vs', vx (by omega), Option.getD_some]
      have wa : IntKind.i64.wrap (x - own) = x - own := wrap64_in (by omega)
      have wb : IntKind.i64.wrap (t.at_ - ts.at_) = t.at_ - ts.at_ := wrap64_in (by omega)
      have cf : ACall Try.prog 88 [iD (x - own), iD (t.at_ - ts.at_)] (ratD (slope v' q ⟨t.at_, t.lo, t.hi, k⟩)) := by
        rw [sl]; exact refFraction_c _ _ (by omega) (by omega)
      have sb := slope_in oq oo
      have lb := hiIn k
      have nx := hiTo_succ (v := v') (q := q) g2 ho
      have cl := refLess_c (slope v' q ⟨t.at_, t.lo, t.hi, k⟩) (hiTo v' (spots l) q s k) (mul_in sb.1 lb.2) (mul_in lb.1 sb.2)
      generalize slope v' q ⟨t.at_, t.lo, t.hi, k⟩ = sq at cf cl nx
      rcases hb : lessQ sq (hiTo v' (spots l) q s k) <;> rw [hb] at cl nx
      · repeat (first | (with_reducible first | refine zq1 fun _ => ?_ | refine zq2 fun _ => ?_ | refine zq3 ?_) | ((first | refine zq4 ?_ | refine zq5 fun _ _ => ?_ | refine zq6 ?_); simp [-getElem?_pos, z0, z1, z2, hlt, ht, hts, hx, hkv, hsl, g1, g2, wa, wb]) | ((first | refine AWp.ret ?_ | refine AWp.skip ?_ | refine AWp.exit ?_); try simp only [thenP]) | (with_reducible refine zq7 ?_; simp only [blockP, thenP, reduceIte]) | with_reducible refine zq8 ?_)
        refine Exec.call [] cf ?_ rfl ?_ ?_; (focus simp [-getElem?_pos]); (focus simp [-getElem?_pos, z0, z1, z2, ratD]); simp [-getElem?_pos, z0, z1, z2, ratD]
        repeat (first | (with_reducible first | refine zq1 fun _ => ?_ | refine zq2 fun _ => ?_ | refine zq3 ?_) | ((first | refine zq4 ?_ | refine zq5 fun _ _ => ?_ | refine zq6 ?_); simp [-getElem?_pos, z0, z1, z2, ratD]) | ((first | refine AWp.ret ?_ | refine AWp.skip ?_ | refine AWp.exit ?_); try simp only [thenP]) | (with_reducible refine zq7 ?_; simp only [blockP, thenP, reduceIte]) | with_reducible refine zq8 ?_)
        refine Exec0.call [] cl ?_ rfl ?_ ?_; (focus simp [-getElem?_pos]); (focus simp [-getElem?_pos, z0, z1, z2, ratD]); simp [-getElem?_pos, z0, z1, z2, ratD]
        repeat (first | (with_reducible first | refine zq1 fun _ => ?_ | refine zq2 fun _ => ?_ | refine zq3 ?_) | ((first | refine zq4 ?_ | refine zq5 fun _ _ => ?_ | refine zq6 ?_); simp [-getElem?_pos, z0, z1, z2, w1]) | ((first | refine AWp.ret ?_ | refine AWp.skip ?_ | refine AWp.exit ?_); try simp only [thenP]) | (with_reducible refine zq7 ?_; simp only [blockP, thenP, reduceIte]) | with_reducible refine zq8 ?_)
        simp at nx
        refine LL.go ⟨k + 1, hlt⟩ [0, 1] ⟨by rfl, by simp [nx, lk], by simp [or_imp, forall_and, nx, lk] <;> (try (intro _hne; simp [_hne])), by decide⟩ ?_
        simp; omega
      · repeat (first | (with_reducible first | refine zq1 fun _ => ?_ | refine zq2 fun _ => ?_ | refine zq3 ?_) | ((first | refine zq4 ?_ | refine zq5 fun _ _ => ?_ | refine zq6 ?_); simp [-getElem?_pos, z0, z1, z2, hlt, ht, hts, hx, hkv, hsl, g1, g2, wa, wb]) | ((first | refine AWp.ret ?_ | refine AWp.skip ?_ | refine AWp.exit ?_); try simp only [thenP]) | (with_reducible refine zq7 ?_; simp only [blockP, thenP, reduceIte]) | with_reducible refine zq8 ?_)
        refine Exec.call [] cf ?_ rfl ?_ ?_; (focus simp [-getElem?_pos]); (focus simp [-getElem?_pos, z0, z1, z2, ratD]); simp [-getElem?_pos, z0, z1, z2, ratD]
        repeat (first | (with_reducible first | refine zq1 fun _ => ?_ | refine zq2 fun _ => ?_ | refine zq3 ?_) | ((first | refine zq4 ?_ | refine zq5 fun _ _ => ?_ | refine zq6 ?_); simp [-getElem?_pos, z0, z1, z2, ratD]) | ((first | refine AWp.ret ?_ | refine AWp.skip ?_ | refine AWp.exit ?_); try simp only [thenP]) | (with_reducible refine zq7 ?_; simp only [blockP, thenP, reduceIte]) | with_reducible refine zq8 ?_)
        refine Exec0.call [] cl ?_ rfl ?_ ?_; (focus simp [-getElem?_pos]); (focus simp [-getElem?_pos, z0, z1, z2, ratD]); simp [-getElem?_pos, z0, z1, z2, ratD]
        repeat (first | (with_reducible first | refine zq1 fun _ => ?_ | refine zq2 fun _ => ?_ | refine zq3 ?_) | ((first | refine zq4 ?_ | refine zq5 fun _ _ => ?_ | refine zq6 ?_); simp [-getElem?_pos, z0, z1, z2, w1]) | ((first | refine AWp.ret ?_ | refine AWp.skip ?_ | refine AWp.exit ?_); try simp only [thenP]) | (with_reducible refine zq7 ?_; simp only [blockP, thenP, reduceIte]) | with_reducible refine zq8 ?_)
        simp at nx
        refine LL.go ⟨k + 1, hlt⟩ [0, 1] ⟨by rfl, by simp [nx, lk], by simp [or_imp, forall_and, nx, lk] <;> (try (intro _hne; simp [_hne])), by decide⟩ ?_
        simp; omega
    · have hx2 : hiTo v' (spots l) q s (k + 1) = hiTo v' (spots l) q s k := by rw [hiTo_low (by omega), hiTo_low (by omega)]
      repeat (first | (with_reducible first | refine zq1 fun _ => ?_ | refine zq2 fun _ => ?_ | refine zq3 ?_) | ((first | refine zq4 ?_ | refine zq5 fun _ _ => ?_ | refine zq6 ?_); simp [-getElem?_pos, z0, z1, z2, hlt, g1, g2, w1]) | ((first | refine AWp.ret ?_ | refine AWp.skip ?_ | refine AWp.exit ?_); try simp only [thenP]) | (with_reducible refine zq7 ?_; simp only [blockP, thenP, reduceIte]) | with_reducible refine zq8 ?_)
      refine LL.go ⟨k + 1, hlt⟩ [0, 1] ⟨by rfl, by simp [lk, hx2], by simp [or_imp, forall_and, lk, hx2] <;> (try (intro _hne; simp [_hne])), by decide⟩ ?_
      simp; omega
  · obtain rfl : k = l.length := by omega
    have lb := loIn l.length
    have hb := hiIn l.length
    have cl := refLess_c (hiTo v' (spots l) q s l.length) (loTo v' (spots l) q s l.length) (mul_in hb.1 lb.2) (mul_in lb.1 hb.2)
    have e1 : loTo v' (spots l) q s l.length = tiltLo v' (spots l) q := by rw [loTo_end (by omega)]; unfold tiltLo before; rw [qn, Int.toNat_natCast]
    have e2 : hiTo v' (spots l) q s l.length = tiltHi v' (spots l) q := by rw [hiTo_end (by simp)]; unfold tiltHi behindS; rw [qn, Int.toNat_natCast]
    rw [e1, e2] at cl
    rcases hb : lessQ (tiltHi v' (spots l) q) (tiltLo v' (spots l) q) <;> rw [hb] at cl hr
    · have hr' : r = .tup [.agg [iD (tiltLo v' (spots l) q).1, iD (tiltLo v' (spots l) q).2, iD (tiltHi v' (spots l) q).1, iD (tiltHi v' (spots l) q).2], iD 0] := hr
      repeat (first | (with_reducible first | refine zq1 fun _ => ?_ | refine zq2 fun _ => ?_ | refine zq3 ?_) | ((first | refine zq4 ?_ | refine zq5 fun _ _ => ?_ | refine zq6 ?_); simp [-getElem?_pos, z0, z1, z2, hlt, e1, e2]) | ((first | refine AWp.ret ?_ | refine AWp.skip ?_ | refine AWp.exit ?_); try simp only [thenP]) | (with_reducible refine zq7 ?_; simp only [blockP, thenP, reduceIte]) | with_reducible refine zq8 ?_)
      refine Exec0.call [] cl ?_ rfl ?_ ?_; (focus simp [-getElem?_pos]); (focus simp [-getElem?_pos, z0, z1, z2, ratD]); simp [-getElem?_pos, z0, z1, z2, ratD]
      repeat (first | (with_reducible first | refine zq1 fun _ => ?_ | refine zq2 fun _ => ?_ | refine zq3 ?_) | ((first | refine zq4 ?_ | refine zq5 fun _ _ => ?_ | refine zq6 ?_); simp [-getElem?_pos, z0, z1, z2, z0]) | ((first | refine AWp.ret ?_ | refine AWp.skip ?_ | refine AWp.exit ?_); try simp only [thenP]) | (with_reducible refine zq7 ?_; simp only [blockP, thenP, reduceIte]) | with_reducible refine zq8 ?_)
      (first | refine RR.ret ?_ | refine RR.normal ?_); simp [hr']
    · have hr' : r = .tup [.agg [iD 0, iD 0, iD 0, iD 0], iD 22] := hr
      repeat (first | (with_reducible first | refine zq1 fun _ => ?_ | refine zq2 fun _ => ?_ | refine zq3 ?_) | ((first | refine zq4 ?_ | refine zq5 fun _ _ => ?_ | refine zq6 ?_); simp [-getElem?_pos, z0, z1, z2, hlt, e1, e2]) | ((first | refine AWp.ret ?_ | refine AWp.skip ?_ | refine AWp.exit ?_); try simp only [thenP]) | (with_reducible refine zq7 ?_; simp only [blockP, thenP, reduceIte]) | with_reducible refine zq8 ?_)
      refine Exec0.call [] cl ?_ rfl ?_ ?_; (focus simp [-getElem?_pos]); (focus simp [-getElem?_pos, z0, z1, z2, ratD]); simp [-getElem?_pos, z0, z1, z2, ratD]
      repeat (first | (with_reducible first | refine zq1 fun _ => ?_ | refine zq2 fun _ => ?_ | refine zq3 ?_) | ((first | refine zq4 ?_ | refine zq5 fun _ _ => ?_ | refine zq6 ?_); simp [-getElem?_pos, z0, z1, z2, z0]) | ((first | refine AWp.ret ?_ | refine AWp.skip ?_ | refine AWp.exit ?_); try simp only [thenP]) | (with_reducible refine zq7 ?_; simp only [blockP, thenP, reduceIte]) | with_reducible refine zq8 ?_)
      (first | refine RR.ret ?_ | refine RR.normal ?_); simp [hr']
end Go.Proofs.Ytjjoiihgpkhndaa.Eng


noncomputable section
namespace Go.Proofs.Ytjjoiihgpkhndaa.Eng
open Go.RowKit
theorem set_own {v : List Int} {s : Nat} {x : Int} (h : v[s]? = some x) : v = v.set s x := by
  obtain ⟨hs, rfl⟩ := List.getElem?_eq_some_iff.1 h
  simp
set_option maxRecDepth 100000 in
set_option maxHeartbeats 8000000 in
theorem refTilts_c (l : List CSt) (v : List Int) (i : Int) : ACall Try.prog 18 [pairD l, intL v, iD i] (.tup [spanD (tiltsQ l v i).1 (tiltsQ l v i).2, iD (tiltsE l v i)]) := by
  have c := refIsTruth_c l v
  obtain ⟨r, hr⟩ : ∃ r : Dat, r = .tup [spanD (tiltsQ l v i).1 (tiltsQ l v i).2, iD (tiltsE l v i)] := ⟨_, rfl⟩
  rw [← hr]
  have hz (h : tiltsE l v i ≠ 0) : tiltsQ l v i = ((0, 0), (0, 0)) := by unfold tiltsQ; rw [if_neg h]
  by_cases h0 : truthErr l v = 0
  · obtain ⟨p1, p2, p3⟩ := truth_of h0
    rw [h0] at c
    by_cases g1 : i < 0
    · have he : tiltsE l v i = 3 := by
        unfold tiltsE
        rw [if_pos h0, if_neg (by omega)]
      have hr' : r = .tup [.agg [iD 0, iD 0, iD 0, iD 0], iD 3] := by rw [hr, hz (by rw [he]; decide), he]; rfl
      refine acallK tabOk Try.func18 rfl rfl (show 3 ≤ _ by decide) rfl fun _ => ?_; simp only [Try.ntmps18]
      repeat (first | (with_reducible first | refine zq1 fun _ => ?_ | refine zq2 fun _ => ?_ | refine zq3 ?_) | ((first | refine zq4 ?_ | refine zq5 fun _ _ => ?_ | refine zq6 ?_); simp [-getElem?_pos, z0, z1, z2, g1]) | ((first | refine AWp.ret ?_ | refine AWp.skip ?_ | refine AWp.exit ?_); try simp only [thenP]) | (with_reducible refine zq7 ?_; simp only [blockP, thenP, reduceIte]) | with_reducible refine zq8 ?_)
      (first | refine Exec0.call [] c ?_ rfl ?_ ?_ | refine Exec.call [] c ?_ rfl ?_ ?_); (focus simp [-getElem?_pos, g1]); (focus simp [-getElem?_pos, z0, z1, z2, g1]); simp [-getElem?_pos, z0, z1, z2, g1]
      repeat (first | (with_reducible first | refine zq1 fun _ => ?_ | refine zq2 fun _ => ?_ | refine zq3 ?_) | ((first | refine zq4 ?_ | refine zq5 fun _ _ => ?_ | refine zq6 ?_); simp [-getElem?_pos, z0, z1, z2, g1]) | ((first | refine AWp.ret ?_ | refine AWp.skip ?_ | refine AWp.exit ?_); try simp only [thenP]) | (with_reducible refine zq7 ?_; simp only [blockP, thenP, reduceIte]) | with_reducible refine zq8 ?_)
      (first | refine RR.ret ?_ | refine RR.normal ?_); simp [hr']
    by_cases g2 : (l.length : Int) ≤ i
    · have he : tiltsE l v i = 3 := by
        unfold tiltsE
        rw [if_pos h0, if_pos (by omega), List.getElem?_eq_none (by simp; omega)]
      have hr' : r = .tup [.agg [iD 0, iD 0, iD 0, iD 0], iD 3] := by rw [hr, hz (by rw [he]; decide), he]; rfl
      refine acallK tabOk Try.func18 rfl rfl (show 3 ≤ _ by decide) rfl fun _ => ?_; simp only [Try.ntmps18]
      repeat (first | (with_reducible first | refine zq1 fun _ => ?_ | refine zq2 fun _ => ?_ | refine zq3 ?_) | ((first | refine zq4 ?_ | refine zq5 fun _ _ => ?_ | refine zq6 ?_); simp [-getElem?_pos, z0, z1, z2, g1, g2]) | ((first | refine AWp.ret ?_ | refine AWp.skip ?_ | refine AWp.exit ?_); try simp only [thenP]) | (with_reducible refine zq7 ?_; simp only [blockP, thenP, reduceIte]) | with_reducible refine zq8 ?_)
      (first | refine Exec0.call [] c ?_ rfl ?_ ?_ | refine Exec.call [] c ?_ rfl ?_ ?_); (focus simp [-getElem?_pos, g1]); (focus simp [-getElem?_pos, z0, z1, z2, g1]); simp [-getElem?_pos, z0, z1, z2, g1]
      repeat (first | (with_reducible first | refine zq1 fun _ => ?_ | refine zq2 fun _ => ?_ | refine zq3 ?_) | ((first | refine zq4 ?_ | refine zq5 fun _ _ => ?_ | refine zq6 ?_); simp [-getElem?_pos, z0, z1, z2, g1, g2]) | ((first | refine AWp.ret ?_ | refine AWp.skip ?_ | refine AWp.exit ?_); try simp only [thenP]) | (with_reducible refine zq7 ?_; simp only [blockP, thenP, reduceIte]) | with_reducible refine zq8 ?_)
      (first | refine RR.ret ?_ | refine RR.normal ?_); simp [hr']
    · obtain ⟨s, rfl⟩ : ∃ s : Nat, i = (s : Int) := ⟨i.toNat, by omega⟩
      have hs : s < l.length := by omega
      have hsv : s < v.length := by omega
      obtain ⟨q, hq⟩ : ∃ q, (spots l)[s]? = some q := ⟨_, List.getElem?_eq_getElem (by simpa using hs)⟩
      obtain ⟨x, hx⟩ : ∃ x, v[s]? = some x := ⟨_, List.getElem?_eq_getElem hsv⟩
      have cs := refSpan_c p1 p2 hq (set_own hx) (spotsOk p1 p2 p3)
      have he : tiltsE l v s = if lessQ (tiltHi v (spots l) q) (tiltLo v (spots l) q) = true then 22 else 0 := by
        unfold tiltsE
        rw [if_pos h0, if_pos (by omega), Int.toNat_natCast, hq]
      have hQ : tiltsQ l v s = if lessQ (tiltHi v (spots l) q) (tiltLo v (spots l) q) = true then ((0, 0), (0, 0)) else (tiltLo v (spots l) q, tiltHi v (spots l) q) := by
        unfold tiltsQ
        rw [he, Int.toNat_natCast, hq]
        split <;> rfl
      rw [he, hQ] at hr
      rcases hb : lessQ (tiltHi v (spots l) q) (tiltLo v (spots l) q) <;> rw [hb] at cs hr
      · have cs' : ACall Try.prog 55 [pairD l, intL v, iD s, iD x] (.tup [.agg [iD (tiltLo v (spots l) q).1, iD (tiltLo v (spots l) q).2, iD (tiltHi v (spots l) q).1, iD (tiltHi v (spots l) q).2], iD 0]) := cs
        have hr' : r = .tup [.agg [iD (tiltLo v (spots l) q).1, iD (tiltLo v (spots l) q).2, iD (tiltHi v (spots l) q).1, iD (tiltHi v (spots l) q).2], iD 0] := hr
        refine acallK tabOk Try.func18 rfl rfl (show 3 ≤ _ by decide) rfl fun _ => ?_; simp only [Try.ntmps18]
        repeat (first | (with_reducible first | refine zq1 fun _ => ?_ | refine zq2 fun _ => ?_ | refine zq3 ?_) | ((first | refine zq4 ?_ | refine zq5 fun _ _ => ?_ | refine zq6 ?_); simp [-getElem?_pos, z0, z1, z2, g1, g2, hx, hsv, hs]) | ((first | refine AWp.ret ?_ | refine AWp.skip ?_ | refine AWp.exit ?_); try simp only [thenP]) | (with_reducible refine zq7 ?_; simp only [blockP, thenP, reduceIte]) | with_reducible refine zq8 ?_)
        (first | refine Exec0.call [] c ?_ rfl ?_ ?_ | refine Exec.call [] c ?_ rfl ?_ ?_); (focus simp [-getElem?_pos, g1]); (focus simp [-getElem?_pos, z0, z1, z2, g1]); simp [-getElem?_pos, z0, z1, z2, g1]
        repeat (first | (with_reducible first | refine zq1 fun _ => ?_ | refine zq2 fun _ => ?_ | refine zq3 ?_) | ((first | refine zq4 ?_ | refine zq5 fun _ _ => ?_ | refine zq6 ?_); simp [-getElem?_pos, z0, z1, z2, g1, g2, hx, hsv, hs]) | ((first | refine AWp.ret ?_ | refine AWp.skip ?_ | refine AWp.exit ?_); try simp only [thenP]) | (with_reducible refine zq7 ?_; simp only [blockP, thenP, reduceIte]) | with_reducible refine zq8 ?_)
        (first | refine Exec0.call [] cs' ?_ rfl ?_ ?_ | refine Exec.call [] cs' ?_ rfl ?_ ?_); (focus simp [-getElem?_pos, g1]); (focus simp [-getElem?_pos, z0, z1, z2, g1]); simp [-getElem?_pos, z0, z1, z2, g1]
        repeat (first | (with_reducible first | refine zq1 fun _ => ?_ | refine zq2 fun _ => ?_ | refine zq3 ?_) | ((first | refine zq4 ?_ | refine zq5 fun _ _ => ?_ | refine zq6 ?_); simp [-getElem?_pos, z0, z1, z2, g1, g2, hx, hsv, hs]) | ((first | refine AWp.ret ?_ | refine AWp.skip ?_ | refine AWp.exit ?_); try simp only [thenP]) | (with_reducible refine zq7 ?_; simp only [blockP, thenP, reduceIte]) | with_reducible refine zq8 ?_)
        (first | refine RR.ret ?_ | refine RR.normal ?_); simp [hr']
      · have cs' : ACall Try.prog 55 [pairD l, intL v, iD s, iD x] (.tup [.agg [iD 0, iD 0, iD 0, iD 0], iD 22]) := cs
        have hr' : r = .tup [.agg [iD 0, iD 0, iD 0, iD 0], iD 22] := hr
        refine acallK tabOk Try.func18 rfl rfl (show 3 ≤ _ by decide) rfl fun _ => ?_; simp only [Try.ntmps18]
        repeat (first | (with_reducible first | refine zq1 fun _ => ?_ | refine zq2 fun _ => ?_ | refine zq3 ?_) | ((first | refine zq4 ?_ | refine zq5 fun _ _ => ?_ | refine zq6 ?_); simp [-getElem?_pos, z0, z1, z2, g1, g2, hx, hsv, hs]) | ((first | refine AWp.ret ?_ | refine AWp.skip ?_ | refine AWp.exit ?_); try simp only [thenP]) | (with_reducible refine zq7 ?_; simp only [blockP, thenP, reduceIte]) | with_reducible refine zq8 ?_)
        (first | refine Exec0.call [] c ?_ rfl ?_ ?_ | refine Exec.call [] c ?_ rfl ?_ ?_); (focus simp [-getElem?_pos, g1]); (focus simp [-getElem?_pos, z0, z1, z2, g1]); simp [-getElem?_pos, z0, z1, z2, g1]
        repeat (first | (with_reducible first | refine zq1 fun _ => ?_ | refine zq2 fun _ => ?_ | refine zq3 ?_) | ((first | refine zq4 ?_ | refine zq5 fun _ _ => ?_ | refine zq6 ?_); simp [-getElem?_pos, z0, z1, z2, g1, g2, hx, hsv, hs]) | ((first | refine AWp.ret ?_ | refine AWp.skip ?_ | refine AWp.exit ?_); try simp only [thenP]) | (with_reducible refine zq7 ?_; simp only [blockP, thenP, reduceIte]) | with_reducible refine zq8 ?_)
        (first | refine Exec0.call [] cs' ?_ rfl ?_ ?_ | refine Exec.call [] cs' ?_ rfl ?_ ?_); (focus simp [-getElem?_pos, g1]); (focus simp [-getElem?_pos, z0, z1, z2, g1]); simp [-getElem?_pos, z0, z1, z2, g1]
        repeat (first | (with_reducible first | refine zq1 fun _ => ?_ | refine zq2 fun _ => ?_ | refine zq3 ?_) | ((first | refine zq4 ?_ | refine zq5 fun _ _ => ?_ | refine zq6 ?_); simp [-getElem?_pos, z0, z1, z2, g1, g2, hx, hsv, hs]) | ((first | refine AWp.ret ?_ | refine AWp.skip ?_ | refine AWp.exit ?_); try simp only [thenP]) | (with_reducible refine zq7 ?_; simp only [blockP, thenP, reduceIte]) | with_reducible refine zq8 ?_)
        (first | refine RR.ret ?_ | refine RR.normal ?_); simp [hr']
  · have he : tiltsE l v i = truthErr l v := by unfold tiltsE; rw [if_neg h0]
    have hr' : r = .tup [.agg [iD 0, iD 0, iD 0, iD 0], iD (truthErr l v)] := by rw [hr, hz (by rw [he]; exact h0), he]; rfl
    refine acallK tabOk Try.func18 rfl rfl (show 3 ≤ _ by decide) rfl fun _ => ?_; simp only [Try.ntmps18]
    repeat (first | (with_reducible first | refine zq1 fun _ => ?_ | refine zq2 fun _ => ?_ | refine zq3 ?_) | ((first | refine zq4 ?_ | refine zq5 fun _ _ => ?_ | refine zq6 ?_); simp [-getElem?_pos, z0, z1, z2, h0]) | ((first | refine AWp.ret ?_ | refine AWp.skip ?_ | refine AWp.exit ?_); try simp only [thenP]) | (with_reducible refine zq7 ?_; simp only [blockP, thenP, reduceIte]) | with_reducible refine zq8 ?_)
    (first | refine Exec0.call [] c ?_ rfl ?_ ?_ | refine Exec.call [] c ?_ rfl ?_ ?_); (focus simp [-getElem?_pos, h0]); (focus simp [-getElem?_pos, z0, z1, z2, h0]); simp [-getElem?_pos, z0, z1, z2, h0]
    repeat (first | (with_reducible first | refine zq1 fun _ => ?_ | refine zq2 fun _ => ?_ | refine zq3 ?_) | ((first | refine zq4 ?_ | refine zq5 fun _ _ => ?_ | refine zq6 ?_); simp [-getElem?_pos, z0, z1, z2, h0]) | ((first | refine AWp.ret ?_ | refine AWp.skip ?_ | refine AWp.exit ?_); try simp only [thenP]) | (with_reducible refine zq7 ?_; simp only [blockP, thenP, reduceIte]) | with_reducible refine zq8 ?_)
    (first | refine Exec0.call [] c ?_ rfl ?_ ?_ | refine Exec.call [] c ?_ rfl ?_ ?_); (focus simp [-getElem?_pos, h0]); (focus simp [-getElem?_pos, z0, z1, z2, h0]); simp [-getElem?_pos, z0, z1, z2, h0]
    repeat (first | (with_reducible first | refine zq1 fun _ => ?_ | refine zq2 fun _ => ?_ | refine zq3 ?_) | ((first | refine zq4 ?_ | refine zq5 fun _ _ => ?_ | refine zq6 ?_); simp [-getElem?_pos, z0, z1, z2, h0]) | ((first | refine AWp.ret ?_ | refine AWp.skip ?_ | refine AWp.exit ?_); try simp only [thenP]) | (with_reducible refine zq7 ?_; simp only [blockP, thenP, reduceIte]) | with_reducible refine zq8 ?_)
    (first | refine RR.ret ?_ | refine RR.normal ?_); simp [hr']
end Go.Proofs.Ytjjoiihgpkhndaa.Eng


noncomputable section
namespace Go.Proofs.Ytjjoiihgpkhndaa.Eng
open Go.RowKit
set_option maxRecDepth 100000 in
theorem great_c (l : List CSt) : ACall Try.prog 13 [pairD l] (bD (decide (35 < l.length))) := by
  by_cases h : 35 < l.length
  · have h' : (35 : Int) < l.length := by omega
    rw [decide_eq_true h]
    refine acallK tabOk Try.func13 rfl rfl (show 1 ≤ _ by decide) rfl fun _ => ?_; simp only [Try.ntmps13]
    repeat (first | (with_reducible first | refine zq1 fun _ => ?_ | refine zq2 fun _ => ?_ | refine zq3 ?_) | ((first | refine zq4 ?_ | refine zq5 fun _ _ => ?_ | refine zq6 ?_); simp [-getElem?_pos, z0, z1, z2, h, h']) | ((first | refine AWp.ret ?_ | refine AWp.skip ?_ | refine AWp.exit ?_); try simp only [thenP]) | (with_reducible refine zq7 ?_; simp only [blockP, thenP, reduceIte]) | with_reducible refine zq8 ?_)
    (first | refine RR.ret ?_ | refine RR.normal ?_); simp []
  · have h' : ¬ (35 : Int) < l.length := by omega
    rw [decide_eq_false h]
    refine acallK tabOk Try.func13 rfl rfl (show 1 ≤ _ by decide) rfl fun _ => ?_; simp only [Try.ntmps13]
    repeat (first | (with_reducible first | refine zq1 fun _ => ?_ | refine zq2 fun _ => ?_ | refine zq3 ?_) | ((first | refine zq4 ?_ | refine zq5 fun _ _ => ?_ | refine zq6 ?_); simp [-getElem?_pos, z0, z1, z2, h, h']) | ((first | refine AWp.ret ?_ | refine AWp.skip ?_ | refine AWp.exit ?_); try simp only [thenP]) | (with_reducible refine zq7 ?_; simp only [blockP, thenP, reduceIte]) | with_reducible refine zq8 ?_)
    (first | refine RR.ret ?_ | refine RR.normal ?_); simp []
set_option maxRecDepth 100000 in
theorem of_c (a b : Int) : ACall Try.prog 42 [iD a, iD b] (ratD (a, b)) := by
  unfold ratD
  refine acallK tabOk Try.func42 rfl rfl (show 2 ≤ _ by decide) rfl fun _ => ?_; simp only [Try.ntmps42]
  repeat (first | (with_reducible first | refine AWp.seqK fun _ => ?_ | refine AWp.blockK fun _ => ?_ | refine KK.go ?_) | ((first | refine AWp.reg tabOk ?_ | refine AWp.condK fun _ _ => ?_ | refine AWp.draws tabOk (by kernel_rfl) (by kernel_rfl) ?_); simp [-getElem?_pos, z0, z1, z2, ]) | ((first | refine AWp.ret ?_ | refine AWp.skip ?_ | refine AWp.exit ?_); try simp only [thenP]) | (with_reducible refine BB.go ?_; simp only [blockP, thenP, if_true, if_false, reduceIte]) | (with_reducible refine And.intro (show okLog _ _ = true from by kernel_rfl) ?_))
  (first | refine RR.ret ?_ | refine RR.normal ?_); simp []
theorem err_len {l : List CSt} (h : 35 < l.length) : pairErr l ≠ 0 := by
  unfold pairErr
  rw [if_pos (.inr (by omega))]
  decide
set_option maxRecDepth 100000 in
theorem fine_c (l : List CSt) : ACall Try.prog 37 [pairD l] (bD (decide (pairErr l = 0))) := by
  have c1 := great_c l
  have c2 := refCheckPair_c l
  by_cases h : 35 < l.length
  · rw [decide_eq_true h] at c1
    rw [decide_eq_false (err_len h)]
    refine acallK tabOk Try.func37 rfl rfl (show 1 ≤ _ by decide) rfl fun _ => ?_; simp only [Try.ntmps37]
    repeat (first | (with_reducible first | refine zq1 fun _ => ?_ | refine zq2 fun _ => ?_ | refine zq3 ?_) | ((first | refine zq4 ?_ | refine zq5 fun _ _ => ?_ | refine zq6 ?_); simp [-getElem?_pos, z0, z1, z2, ]) | ((first | refine AWp.ret ?_ | refine AWp.skip ?_ | refine AWp.exit ?_); try simp only [thenP]) | (with_reducible refine zq7 ?_; simp only [blockP, thenP, reduceIte]) | with_reducible refine zq8 ?_)
    (first | refine Exec0.call [] c1 ?_ rfl ?_ ?_ | refine Exec.call [] c1 ?_ rfl ?_ ?_); (focus simp [-getElem?_pos, ]); (focus simp [-getElem?_pos, z0, z1, z2, ]); simp [-getElem?_pos, z0, z1, z2, ]
    repeat (first | (with_reducible first | refine zq1 fun _ => ?_ | refine zq2 fun _ => ?_ | refine zq3 ?_) | ((first | refine zq4 ?_ | refine zq5 fun _ _ => ?_ | refine zq6 ?_); simp [-getElem?_pos, z0, z1, z2, ]) | ((first | refine AWp.ret ?_ | refine AWp.skip ?_ | refine AWp.exit ?_); try simp only [thenP]) | (with_reducible refine zq7 ?_; simp only [blockP, thenP, reduceIte]) | with_reducible refine zq8 ?_)
    (first | refine RR.ret ?_ | refine RR.normal ?_); simp []
  · rw [decide_eq_false h] at c1
    by_cases h0 : pairErr l = 0
    · rw [decide_eq_true h0]
      rw [h0] at c2
      refine acallK tabOk Try.func37 rfl rfl (show 1 ≤ _ by decide) rfl fun _ => ?_; simp only [Try.ntmps37]
      repeat (first | (with_reducible first | refine zq1 fun _ => ?_ | refine zq2 fun _ => ?_ | refine zq3 ?_) | ((first | refine zq4 ?_ | refine zq5 fun _ _ => ?_ | refine zq6 ?_); simp [-getElem?_pos, z0, z1, z2, ]) | ((first | refine AWp.ret ?_ | refine AWp.skip ?_ | refine AWp.exit ?_); try simp only [thenP]) | (with_reducible refine zq7 ?_; simp only [blockP, thenP, reduceIte]) | with_reducible refine zq8 ?_)
      (first | refine Exec0.call [] c1 ?_ rfl ?_ ?_ | refine Exec.call [] c1 ?_ rfl ?_ ?_); (focus simp [-getElem?_pos, ]); (focus simp [-getElem?_pos, z0, z1, z2, ]); simp [-getElem?_pos, z0, z1, z2, ]
      repeat (first | (with_reducible first | refine zq1 fun _ => ?_ | refine zq2 fun _ => ?_ | refine zq3 ?_) | ((first | refine zq4 ?_ | refine zq5 fun _ _ => ?_ | refine zq6 ?_); simp [-getElem?_pos, z0, z1, z2, ]) | ((first | refine AWp.ret ?_ | refine AWp.skip ?_ | refine AWp.exit ?_); try simp only [thenP]) | (with_reducible refine zq7 ?_; simp only [blockP, thenP, reduceIte]) | with_reducible refine zq8 ?_)
      (first | refine Exec0.call [] c2 ?_ rfl ?_ ?_ | refine Exec.call [] c2 ?_ rfl ?_ ?_); (focus simp [-getElem?_pos, ]); (focus simp [-getElem?_pos, z0, z1, z2, ]); simp [-getElem?_pos, z0, z1, z2, ]
      repeat (first | (with_reducible first | refine zq1 fun _ => ?_ | refine zq2 fun _ => ?_ | refine zq3 ?_) | ((first | refine zq4 ?_ | refine zq5 fun _ _ => ?_ | refine zq6 ?_); simp [-getElem?_pos, z0, z1, z2, ]) | ((first | refine AWp.ret ?_ | refine AWp.skip ?_ | refine AWp.exit ?_); try simp only [thenP]) | (with_reducible refine zq7 ?_; simp only [blockP, thenP, reduceIte]) | with_reducible refine zq8 ?_)
      (first | refine RR.ret ?_ | refine RR.normal ?_); simp []
    · rw [decide_eq_false h0]
      refine acallK tabOk Try.func37 rfl rfl (show 1 ≤ _ by decide) rfl fun _ => ?_; simp only [Try.ntmps37]
      repeat (first | (with_reducible first | refine zq1 fun _ => ?_ | refine zq2 fun _ => ?_ | refine zq3 ?_) | ((first | refine zq4 ?_ | refine zq5 fun _ _ => ?_ | refine zq6 ?_); simp [-getElem?_pos, z0, z1, z2, ]) | ((first | refine AWp.ret ?_ | refine AWp.skip ?_ | refine AWp.exit ?_); try simp only [thenP]) | (with_reducible refine zq7 ?_; simp only [blockP, thenP, reduceIte]) | with_reducible refine zq8 ?_)
      (first | refine Exec0.call [] c1 ?_ rfl ?_ ?_ | refine Exec.call [] c1 ?_ rfl ?_ ?_); (focus simp [-getElem?_pos, ]); (focus simp [-getElem?_pos, z0, z1, z2, ]); simp [-getElem?_pos, z0, z1, z2, ]
      repeat (first | (with_reducible first | refine zq1 fun _ => ?_ | refine zq2 fun _ => ?_ | refine zq3 ?_) | ((first | refine zq4 ?_ | refine zq5 fun _ _ => ?_ | refine zq6 ?_); simp [-getElem?_pos, z0, z1, z2, ]) | ((first | refine AWp.ret ?_ | refine AWp.skip ?_ | refine AWp.exit ?_); try simp only [thenP]) | (with_reducible refine zq7 ?_; simp only [blockP, thenP, reduceIte]) | with_reducible refine zq8 ?_)
      (first | refine Exec0.call [] c2 ?_ rfl ?_ ?_ | refine Exec.call [] c2 ?_ rfl ?_ ?_); (focus simp [-getElem?_pos, h0]); (focus simp [-getElem?_pos, z0, z1, z2, h0]); simp [-getElem?_pos, z0, z1, z2, h0]
      repeat (first | (with_reducible first | refine zq1 fun _ => ?_ | refine zq2 fun _ => ?_ | refine zq3 ?_) | ((first | refine zq4 ?_ | refine zq5 fun _ _ => ?_ | refine zq6 ?_); simp [-getElem?_pos, z0, z1, z2, h0]) | ((first | refine AWp.ret ?_ | refine AWp.skip ?_ | refine AWp.exit ?_); try simp only [thenP]) | (with_reducible refine zq7 ?_; simp only [blockP, thenP, reduceIte]) | with_reducible refine zq8 ?_)
      (first | refine RR.ret ?_ | refine RR.normal ?_); simp []
def trV (b : List Int) (t : CSt) (i : Nat) : Int := if b = [] then t.lo else t.lo + (b[i % b.length]?).getD 0 % (t.hi - t.lo + 1)
def trL (b : List Int) (l : List CSt) : List Int := l.zipIdx.map fun p => trV b p.1 p.2
theorem trL_succ {b : List Int} {l : List CSt} {k : Nat} {t : CSt} (h : l[k]? = some t) : trL b (l.take (k + 1)) = trL b (l.take k) ++ [trV b t k] := by
  obtain ⟨hk, rfl⟩ := List.getElem?_eq_some_iff.1 h
  unfold trL
  rw [List.take_succ_eq_append_getElem hk, List.zipIdx_append, List.map_append]
  simp
  congr 1; omega
theorem trL_len (b : List Int) (l : List CSt) : (trL b l).length = l.length := by simp [trL]
theorem trL_get {b : List Int} {l : List CSt} {i : Nat} {t : CSt} (h : l[i]? = some t) : (trL b l)[i]? = some (trV b t i) := by simp [trL, h]
def byRows (b : List Int) : List (List Dat) := b.map fun x => [.val (.int .u16 x)]
@[simp] theorem byRows_len (b : List Int) : (byRows b).length = b.length := List.length_map _
@[simp] theorem byRows_get (b : List Int) (i : Nat) : (byRows b)[i]? = (b[i]?).map fun x => [.val (.int .u16 x)] := List.getElem?_map
abbrev byD (b : List Int) : Dat := .list (byRows b)
set_option maxRecDepth 100000 in
set_option maxHeartbeats 8000000 in
theorem truth_c {l : List CSt} {b : List Int} (hp : pairErr l = 0) (hb : ∀ x ∈ b, 0 ≤ x ∧ x ≤ 65535) (hbl : b.length ≤ 40) : ACall Try.prog 39 [pairD l, byD b] (intL (trL b l)) := by
  have hl : l.length ≤ 25 := by
    unfold pairErr at hp
    split at hp
    · cases hp
    · omega
  refine acallK tabOk Try.func39 rfl rfl (show 2 ≤ _ by decide) rfl fun _ => ?_; simp only [Try.ntmps39]
  repeat (first | (with_reducible first | refine zq1 fun _ => ?_ | refine zq2 fun _ => ?_ | refine zq3 ?_) | ((first | refine zq4 ?_ | refine zq5 fun _ _ => ?_ | refine zq6 ?_); simp [-getElem?_pos, z0, z1, z2, ]) | ((first | refine AWp.ret ?_ | refine AWp.skip ?_ | refine AWp.exit ?_); try simp only [thenP]) | (with_reducible refine zq7 ?_; simp only [blockP, thenP, reduceIte]) | with_reducible refine zq8 ?_)
  refine AWp.loopK (ι := { k : Nat // k ≤ l.length }) (n := 1) (fun k => [(0, .d (pairD l)), (1, .d (byD b)), (5, gS 0 1 (iRows (trL b (l.take k.1)))), (6, .d (iD k.1))]) (fun k => gM 0 2 1 (iRows (trL b (l.take k.1)))) (fun k => l.length - k.1) ⟨0, Nat.zero_le _⟩ [0] ?_ ?_
  · refine ⟨by rfl, by simp [trL], by simp [or_imp, forall_and, trL] <;> (try (intro _hne; simp [_hne])), by decide⟩
  rintro ⟨k, hk⟩ kk
  have w1 : IntKind.i64.wrap ((k : Int) + 1) = (k : Int) + 1 := wrap64_in (by omega)
  by_cases hlt : k < l.length
  · obtain ⟨t, ht⟩ : ∃ t, l[k]? = some t := ⟨_, List.getElem?_eq_getElem hlt⟩
    have hc := (stnC_iff t).1 (stn_of hp ht)
    have hs := trL_succ (b := b) ht
    have hr := iRows_len (trL b (l.take k))
    rw [trL_len, List.length_take, Nat.min_eq_left (by omega)] at hr
    by_cases hb0 : b = []
    · subst hb0
      have hv : trV [] t k = t.lo := by simp [trV]
      rw [hv] at hs
      simp only [hs]
      rcases h : iRows (trL [] (l.take k)) with _ | ⟨r, o⟩ <;> rw [h] at hr
      · repeat (first | (with_reducible first | refine zq1 fun _ => ?_ | refine zq2 fun _ => ?_ | refine zq3 ?_) | ((first | refine zq4 ?_ | refine zq5 fun _ _ => ?_ | refine zq6 ?_); simp [-getElem?_pos, z0, z1, z2, hlt, ht, w1]) | ((first | refine AWp.ret ?_ | refine AWp.skip ?_ | refine AWp.exit ?_); try simp only [thenP]) | (with_reducible refine zq7 ?_; simp only [blockP, thenP, reduceIte]) | with_reducible refine zq8 ?_)
        refine LL.go ⟨k + 1, hlt⟩ [18] ⟨by rfl, by simp [hs, h], by simp [or_imp, forall_and, hs, h] <;> (try (intro _hne; simp [_hne])), by decide⟩ ?_
        simp; omega
      · simp at hr
        have b1 : fitsB (o.length + 1 + 1) 8 = true := fitsB_small (by omega) (by omega)
        repeat (first | (with_reducible first | refine zq1 fun _ => ?_ | refine zq2 fun _ => ?_ | refine zq3 ?_) | ((first | refine zq4 ?_ | refine zq5 fun _ _ => ?_ | refine zq6 ?_); simp [-getElem?_pos, z0, z1, z2, hlt, ht, w1, b1]) | ((first | refine AWp.ret ?_ | refine AWp.skip ?_ | refine AWp.exit ?_); try simp only [thenP]) | (with_reducible refine zq7 ?_; simp only [blockP, thenP, reduceIte]) | with_reducible refine zq8 ?_)
        refine LL.go ⟨k + 1, hlt⟩ [18] ⟨by rfl, by simp [hs, h], by simp [or_imp, forall_and, hs, h] <;> (try (intro _hne; simp [_hne])), by decide⟩ ?_
        simp; omega
    · have hbp : 0 < b.length := List.length_pos_iff.2 hb0
      have hm : k % b.length < b.length := Nat.mod_lt _ hbp
      obtain ⟨x, hx⟩ : ∃ x, b[k % b.length]? = some x := ⟨_, List.getElem?_eq_getElem hm⟩
      have hxb := hb x (List.mem_of_getElem? hx)
      have hv : trV b t k = t.lo + x % (t.hi - t.lo + 1) := by simp [trV, hb0, hx]
      have hbi : (0 : Int) < b.length := by omega
      have m1 : (k : Int).tmod b.length = ((k % b.length : Nat) : Int) := by rw [Int.tmod_eq_emod_of_nonneg (by omega)]; omega
      have m2 : x.tmod (t.hi - t.lo + 1) = x % (t.hi - t.lo + 1) := Int.tmod_eq_emod_of_nonneg hxb.1
      have m3 : 0 ≤ x % (t.hi - t.lo + 1) ∧ x % (t.hi - t.lo + 1) < t.hi - t.lo + 1 := ⟨Int.emod_nonneg _ (by omega), Int.emod_lt_of_pos _ (by omega)⟩
      have c1 : IntKind.i64.wrap x = x := wrap64_in (by omega)
      have c2 : IntKind.i64.wrap (t.hi - t.lo) = t.hi - t.lo := wrap64_in (by omega)
      have c3 : IntKind.i64.wrap (t.hi - t.lo + 1) = t.hi - t.lo + 1 := wrap64_in (by omega)
      have c4 : IntKind.i64.wrap (x % (t.hi - t.lo + 1)) = x % (t.hi - t.lo + 1) := wrap64_in (by omega)
      have c5 : IntKind.i64.wrap (t.lo + x % (t.hi - t.lo + 1)) = t.lo + x % (t.hi - t.lo + 1) := wrap64_in (by omega)
      have c6 : IntKind.i64.wrap ((k % b.length : Nat) : Int) = ((k % b.length : Nat) : Int) := wrap64_in (by omega)
      have hm' : 0 ≤ (k : Int) % b.length := Int.emod_nonneg _ (by omega)
      have hx' : b[((k : Int) % b.length).toNat]? = some x := by rw [show ((k : Int) % b.length).toNat = k % b.length by omega]; exact hx
      have c8 : IntKind.i64.wrap ((k : Int) % b.length) = (k : Int) % b.length := by rw [show (k : Int) % b.length = ((k % b.length : Nat) : Int) by omega]; exact c6
      have m1' : (k : Int).tmod b.length = (k : Int) % b.length := Int.tmod_eq_emod_of_nonneg (by omega)
      have c7 : ¬ t.hi - t.lo + 1 = 0 := by omega
      rw [hv] at hs
      simp only [hs]
      rcases h : iRows (trL b (l.take k)) with _ | ⟨r, o⟩ <;> rw [h] at hr
      · repeat (first | (with_reducible first | refine zq1 fun _ => ?_ | refine zq2 fun _ => ?_ | refine zq3 ?_) | ((first | refine zq4 ?_ | refine zq5 fun _ _ => ?_ | refine zq6 ?_); simp [-getElem?_pos, z0, z1, z2, hlt, ht, hb0, hbp, hbi, hm', hx', m1', m2, c1, c2, c3, c4, c5, c7, c8, w1]) | ((first | refine AWp.ret ?_ | refine AWp.skip ?_ | refine AWp.exit ?_); try simp only [thenP]) | (with_reducible refine zq7 ?_; simp only [blockP, thenP, reduceIte]) | with_reducible refine zq8 ?_)
        refine LL.go ⟨k + 1, hlt⟩ [44] ⟨by rfl, by simp [hs, h], by simp [or_imp, forall_and, hs, h] <;> (try (intro _hne; simp [_hne])), by decide⟩ ?_
        simp; omega
      · simp at hr
        have b1 : fitsB (o.length + 1 + 1) 8 = true := fitsB_small (by omega) (by omega)
        repeat (first | (with_reducible first | refine zq1 fun _ => ?_ | refine zq2 fun _ => ?_ | refine zq3 ?_) | ((first | refine zq4 ?_ | refine zq5 fun _ _ => ?_ | refine zq6 ?_); simp [-getElem?_pos, z0, z1, z2, hlt, ht, hb0, hbp, hbi, hm', hx', m1', m2, c1, c2, c3, c4, c5, c7, c8, w1, b1]) | ((first | refine AWp.ret ?_ | refine AWp.skip ?_ | refine AWp.exit ?_); try simp only [thenP]) | (with_reducible refine zq7 ?_; simp only [blockP, thenP, reduceIte]) | with_reducible refine zq8 ?_)
        refine LL.go ⟨k + 1, hlt⟩ [44] ⟨by rfl, by simp [hs, h], by simp [or_imp, forall_and, hs, h] <;> (try (intro _hne; simp [_hne])), by decide⟩ ?_
        simp; omega
  · obtain rfl : k = l.length := by omega
    repeat (first | (with_reducible first | refine zq1 fun _ => ?_ | refine zq2 fun _ => ?_ | refine zq3 ?_) | ((first | refine zq4 ?_ | refine zq5 fun _ _ => ?_ | refine zq6 ?_); simp [-getElem?_pos, z0, z1, z2, hlt]) | ((first | refine AWp.ret ?_ | refine AWp.skip ?_ | refine AWp.exit ?_); try simp only [thenP]) | (with_reducible refine zq7 ?_; simp only [blockP, thenP, reduceIte]) | with_reducible refine zq8 ?_)
    refine RR.list (id := 0) (z := 1) (by simp) fun r o h => ?_
    simp [h]
end Go.Proofs.Ytjjoiihgpkhndaa.Eng


noncomputable section
namespace Go.Proofs.Ytjjoiihgpkhndaa.Eng
open Go.RowKit
theorem trV_in {b : List Int} {t : CSt} (i : Nat) (h : t.lo ≤ t.hi) : t.lo ≤ trV b t i ∧ trV b t i ≤ t.hi := by
  unfold trV
  split
  · omega
  · have h1 := Int.emod_nonneg ((b[i % b.length]?).getD 0) (show t.hi - t.lo + 1 ≠ 0 by omega)
    have h2 := Int.emod_lt_of_pos ((b[i % b.length]?).getD 0) (show 0 < t.hi - t.lo + 1 by omega)
    omega
theorem trL_ok {l : List CSt} (hp : pairErr l = 0) (b : List Int) : trOk l (trL b l) l.length = true := by
  unfold trOk
  rw [List.take_of_length_le (by simp)]
  refine List.all_eq_true.2 fun q hq => ?_
  obtain ⟨i, hi⟩ := List.getElem?_of_mem hq
  obtain ⟨t, h1, rfl⟩ := spot_is hi
  have hc := (stnC_iff t).1 (stn_of hp h1)
  have h2 := trV_in (b := b) i (show t.lo ≤ t.hi by omega)
  simp [trL_get h1, fromK, inK, h2]
theorem trL_truth {l : List CSt} (hp : pairErr l = 0) (b : List Int) : truthErr l (trL b l) = 0 := by
  unfold truthErr
  rw [if_pos hp, if_pos (trL_len b l), if_pos (trL_ok hp b)]
theorem red_parts {a b : Int} (hb : 0 < b) : ∃ (g : Nat) (x y : Int), 0 < g ∧ a = g * x ∧ b = g * y ∧ 0 < y ∧ Nat.Coprime y.natAbs x.natAbs ∧ red a b = (x, y) := by
  have hg : 0 < Int.gcd a b := Int.gcd_pos_of_ne_zero_right _ (by omega)
  obtain ⟨x, hx⟩ := Int.gcd_dvd_left (a := a) (b := b)
  obtain ⟨y, hy⟩ := Int.gcd_dvd_right (a := a) (b := b)
  have hgi : (0 : Int) < (Int.gcd a b : Int) := by omega
  have hy0 : 0 < y := by
    rcases Int.lt_trichotomy y 0 with h | h | h
    · have := Int.mul_neg_of_pos_of_neg hgi h; omega
    · rw [h] at hy; simp at hy; omega
    · exact h
  refine ⟨Int.gcd a b, x, y, hg, hx, hy, hy0, ?_, ?_⟩
  · have h1 : Int.gcd a b = Int.gcd a b * Int.gcd x y := by
      have h2 : Int.gcd ((Int.gcd a b : Int) * x) ((Int.gcd a b : Int) * y) = Int.gcd a b * Int.gcd x y := by
        rw [Int.gcd_mul_left]; simp
      rw [← hx, ← hy] at h2
      exact h2
    have h3 : Int.gcd x y = 1 := Nat.eq_of_mul_eq_mul_left hg (by omega)
    have h4 : Nat.gcd x.natAbs y.natAbs = 1 := h3
    show Nat.gcd y.natAbs x.natAbs = 1
    rw [Nat.gcd_comm]; exact h4
  · unfold red
    simp only [if_neg (show ¬ b < 0 by omega)]
    have e1 : a.tdiv (Int.gcd a b : Int) = x := by
      generalize (Int.gcd a b : Int) = g at hx hgi
      rw [hx, Int.mul_tdiv_cancel_left _ (by omega)]
    have e2 : b.tdiv (Int.gcd a b : Int) = y := by
      generalize (Int.gcd a b : Int) = g at hy hgi
      rw [hy, Int.mul_tdiv_cancel_left _ (by omega)]
    rw [e1, e2]
theorem red_eq {a b c d : Int} (hb : 0 < b) (hd : 0 < d) (h : a * d = c * b) : red a b = red c d := by
  obtain ⟨g, x, y, g0, ha, hb', y0, co, e⟩ := red_parts (a := a) hb
  obtain ⟨k, z, w, k0, hc, hd', w0, co', e'⟩ := red_parts (a := c) hd
  have h1 : x * w = z * y := by
    have h2 : ((g : Int) * k) * (x * w) = ((g : Int) * k) * (z * y) := by
      rw [ha, hb', hc, hd'] at h
      calc ((g : Int) * k) * (x * w) = (g * x) * (k * w) := by simp only [Int.mul_assoc, Int.mul_left_comm]
        _ = (k * z) * (g * y) := h
        _ = ((g : Int) * k) * (z * y) := by simp only [Int.mul_assoc, Int.mul_left_comm]
    exact Int.eq_of_mul_eq_mul_left (by have := Int.mul_pos (show (0 : Int) < g by omega) (show (0 : Int) < k by omega); omega) h2
  have h3 : x.natAbs * w.natAbs = z.natAbs * y.natAbs := by rw [← Int.natAbs_mul, ← Int.natAbs_mul, h1]
  have d1 : y.natAbs ∣ w.natAbs := co.dvd_of_dvd_mul_left ⟨z.natAbs, by rw [h3, Nat.mul_comm]⟩
  have d2 : w.natAbs ∣ y.natAbs := co'.dvd_of_dvd_mul_left ⟨x.natAbs, by rw [← h3, Nat.mul_comm]⟩
  have hyw : y = w := by
    have := Nat.dvd_antisymm d1 d2
    omega
  subst hyw
  have hxz : x = z := Int.eq_of_mul_eq_mul_right (by omega) h1
  rw [e, e', hxz]
end Go.Proofs.Ytjjoiihgpkhndaa.Eng


noncomputable section
namespace Go.Proofs.Ytjjoiihgpkhndaa.Eng
open Go.RowKit
theorem leastR_min {less : Int × Int → Int × Int → Bool} {P : Int × Int → Prop} (asym : ∀ a b, P a → P b → less a b = true → less b a = false) (nt : ∀ a b c, P a → P b → P c → less a b = false → less b c = false → less a c = false) :
    ∀ (qs : List (Int × Int)) (one : Int × Int), P one → (∀ q ∈ qs, P q) → P (leastR less one qs) ∧ ∀ q, q = one ∨ q ∈ qs → less q (leastR less one qs) = false
  | [], one, h1, _ => ⟨h1, fun q hq => by
    rcases hq with rfl | hq
    · show less q q = false
      rcases h : less q q with _ | _
      · rfl
      · have := asym q q h1 h1 h; rw [h] at this; cases this
    · cases hq⟩
  | x :: qs, one, h1, h2 => by
    have hx : P x := h2 x List.mem_cons_self
    have e : leastR less one (x :: qs) = leastR less (if less x one = true then x else one) qs := rfl
    by_cases g : less x one = true
    · rw [e, if_pos g]
      have ⟨i1, i2⟩ := leastR_min asym nt qs x hx fun q hq => h2 q (List.mem_cons_of_mem _ hq)
      refine ⟨i1, fun q hq => ?_⟩
      rcases hq with rfl | hq
      · exact nt _ x _ h1 hx i1 (asym _ _ hx h1 g) (i2 x (.inl rfl))
      · rcases List.mem_cons.1 hq with rfl | hq
        · exact i2 _ (.inl rfl)
        · exact i2 _ (.inr hq)
    · rw [e, if_neg g]
      have ⟨i1, i2⟩ := leastR_min asym nt qs one h1 fun q hq => h2 q (List.mem_cons_of_mem _ hq)
      refine ⟨i1, fun q hq => ?_⟩
      rcases hq with rfl | hq
      · exact i2 _ (.inl rfl)
      · rcases List.mem_cons.1 hq with rfl | hq
        · exact nt _ one _ hx h1 i1 (by simpa using g) (i2 one (.inl rfl))
        · exact i2 _ (.inr hq)
def PosQ (q : Int × Int) : Prop := 0 < q.2
theorem lessQ_asym (a b : Int × Int) (_ : PosQ a) (_ : PosQ b) (h : lessQ a b = true) : lessQ b a = false := by
  unfold lessQ at h ⊢
  have := of_decide_eq_true h
  exact decide_eq_false (by omega)
theorem lessQ_nt (a b c : Int × Int) (_ : PosQ a) (hb : PosQ b) (_ : PosQ c) (h1 : lessQ a b = false) (h2 : lessQ b c = false) : lessQ a c = false := by
  obtain ⟨a1, a2⟩ := a
  obtain ⟨b1, b2⟩ := b
  obtain ⟨c1, c2⟩ := c
  unfold lessQ at h1 h2 ⊢
  unfold PosQ at *
  simp only at *
  have h3 := of_decide_eq_false h1
  have h4 := of_decide_eq_false h2
  refine decide_eq_false fun h => ?_
  have k1 : c1 * b2 * a2 ≤ b1 * c2 * a2 := Int.mul_le_mul_of_nonneg_right (by omega) (by omega)
  have k2 : b1 * a2 * c2 ≤ a1 * b2 * c2 := Int.mul_le_mul_of_nonneg_right (by omega) (by omega)
  have k3 : a1 * c2 * b2 < c1 * a2 * b2 := Int.mul_lt_mul_of_pos_right h hb
  have e1 : c1 * b2 * a2 = c1 * a2 * b2 := Int.mul_right_comm _ _ _
  have e2 : b1 * c2 * a2 = b1 * a2 * c2 := Int.mul_right_comm _ _ _
  have e3 : a1 * b2 * c2 = a1 * c2 * b2 := Int.mul_right_comm _ _ _
  omega
theorem red_pos {a b : Int} (hb : 0 < b) : PosQ (red a b) := by
  obtain ⟨_, x, y, _, _, _, y0, _, e⟩ := red_parts (a := a) hb
  rw [e]; exact y0
theorem red_less {a b c d : Int} (hb : 0 < b) (hd : 0 < d) : lessQ (red a b) (red c d) = decide (a * d < c * b) := by
  obtain ⟨g, x, y, g0, ha, hb', y0, _, e⟩ := red_parts (a := a) hb
  obtain ⟨k, z, w, k0, hc, hd', w0, _, e'⟩ := red_parts (a := c) hd
  rw [e, e']
  unfold lessQ
  have gk : (0 : Int) < (g : Int) * k := Int.mul_pos (by omega) (by omega)
  have e1 : a * d = ((g : Int) * k) * (x * w) := by rw [ha, hd']; simp only [Int.mul_assoc, Int.mul_left_comm]
  have e2 : c * b = ((g : Int) * k) * (z * y) := by rw [hc, hb']; simp only [Int.mul_assoc, Int.mul_left_comm]
  rw [e1, e2]
  refine decide_eq_decide.2 ⟨fun h => Int.mul_lt_mul_of_pos_left h gk, fun h => Int.lt_of_mul_lt_mul_left h (by omega)⟩
def sl (p q : Int × Int) : Int × Int := red (q.2 - p.2) (q.1 - p.1)
def loP (L : List (Int × Int)) (p : Int × Int) : Int × Int := leastR (fun a b => lessQ b a) (-10000, 1) (L.map fun k => sl k p)
def hiP (R : List (Int × Int)) (p : Int × Int) : Int × Int := leastR lessQ (10000, 1) (R.map fun m => sl p m)
theorem loP_max {L : List (Int × Int)} {p : Int × Int} (h : ∀ k ∈ L, k.1 < p.1) : PosQ (loP L p) ∧ (∀ k ∈ L, lessQ (loP L p) (sl k p) = false) ∧ lessQ (loP L p) (-10000, 1) = false := by
  have ⟨h1, h2⟩ := leastR_min (less := fun a b => lessQ b a) (P := PosQ) (fun a b ha hb h => lessQ_asym b a hb ha h) (fun a b c ha hb hc h1 h2 => lessQ_nt c b a hc hb ha h2 h1) (L.map fun k => sl k p) (-10000, 1) (by unfold PosQ; decide) fun q hq => by
    obtain ⟨k, hk, rfl⟩ := List.mem_map.1 hq
    have := h k hk
    exact red_pos (by omega)
  exact ⟨h1, fun k hk => h2 _ (.inr (List.mem_map.2 ⟨k, hk, rfl⟩)), h2 _ (.inl rfl)⟩
theorem hiP_min {R : List (Int × Int)} {p : Int × Int} (h : ∀ m ∈ R, p.1 < m.1) : PosQ (hiP R p) ∧ (∀ m ∈ R, lessQ (sl p m) (hiP R p) = false) ∧ lessQ (10000, 1) (hiP R p) = false := by
  have ⟨h1, h2⟩ := leastR_min (less := lessQ) (P := PosQ) lessQ_asym lessQ_nt (R.map fun m => sl p m) (10000, 1) (by unfold PosQ; decide) fun q hq => by
    obtain ⟨m, hm, rfl⟩ := List.mem_map.1 hq
    have := h m hm
    exact red_pos (by omega)
  exact ⟨h1, fun m hm => h2 _ (.inr (List.mem_map.2 ⟨m, hm, rfl⟩)), h2 _ (.inl rfl)⟩
end Go.Proofs.Ytjjoiihgpkhndaa.Eng


noncomputable section
namespace Go.Proofs.Ytjjoiihgpkhndaa.Eng
open Go.RowKit
theorem leastR_in (less : Int × Int → Int × Int → Bool) (one : Int × Int) (qs : List (Int × Int)) : leastR less one qs = one ∨ leastR less one qs ∈ qs := leastR_mem less one qs
def GoodP (xs : List (Int × Int)) (p : Int × Int) : Prop := ∀ k ∈ xs, ∀ m ∈ xs, k.1 < p.1 → p.1 < m.1 → (p.2 - k.2) * (m.1 - p.1) ≤ (m.2 - p.2) * (p.1 - k.1)
theorem good_of {L R : List (Int × Int)} {p : Int × Int} (hL : ∀ k ∈ L, k.1 < p.1) (hR : ∀ m ∈ R, p.1 < m.1) (h : lessQ (hiP R p) (loP L p) = false) (k : Int × Int) (hk : k ∈ L) (m : Int × Int) (hm : m ∈ R) : (p.2 - k.2) * (m.1 - p.1) ≤ (m.2 - p.2) * (p.1 - k.1) := by
  have ⟨a1, a2, _⟩ := loP_max hL
  have ⟨b1, b2, _⟩ := hiP_min hR
  have k1 := hL k hk
  have m1 := hR m hm
  have p1 : PosQ (sl k p) := red_pos (by omega)
  have p2 : PosQ (sl p m) := red_pos (by omega)
  have h1 := lessQ_nt _ _ _ p2 b1 a1 (b2 m hm) h
  have h2 := lessQ_nt _ _ _ p2 a1 p1 h1 (a2 k hk)
  unfold sl at h2
  rw [red_less (by omega) (by omega)] at h2
  have h3 := of_decide_eq_false h2
  omega
theorem medR {X Y S T : Int} (h : Y * S ≤ X * T) : (X + Y) * S ≤ X * (S + T) := by
  rw [Int.add_mul, Int.mul_add]; omega
theorem medL {X Y S T : Int} (h : Y * S ≤ X * T) : Y * (T + S) ≤ (X + Y) * T := by
  rw [Int.add_mul, Int.mul_add]; omega
theorem loP_prev {A : List (Int × Int)} {q p : Int × Int} (hA : ∀ k ∈ A, k.1 < q.1) (hq : q.1 < p.1) (hb : -2000 ≤ p.2 - q.2) (h : ∀ k ∈ A, (q.2 - k.2) * (p.1 - q.1) ≤ (p.2 - q.2) * (q.1 - k.1)) : loP (A ++ [q]) p = sl q p := by
  have hL : ∀ k ∈ A ++ [q], k.1 < p.1 := fun k hk => by
    rcases List.mem_append.1 hk with hk | hk
    · have := hA k hk; omega
    · rw [List.mem_singleton.1 hk]; exact hq
  have ⟨a1, a2, _⟩ := loP_max hL
  have h1 := a2 q (by simp)
  rcases leastR_in (fun a b => lessQ b a) (-10000, 1) ((A ++ [q]).map fun k => sl k p) with g | g
  · rw [show loP (A ++ [q]) p = (-10000, 1) from g, show ((-10000, 1) : Int × Int) = red (-10000) 1 by decide] at h1
    unfold sl at h1
    rw [red_less (by omega) (by omega)] at h1
    have := of_decide_eq_false h1
    omega
  · obtain ⟨k, hk, e⟩ := List.mem_map.1 g
    have e : loP (A ++ [q]) p = sl k p := e.symm
    rcases List.mem_append.1 hk with hk | hk
    · have k1 := hA k hk
      rw [e] at h1 ⊢
      unfold sl at h1
      rw [red_less (by omega) (by omega)] at h1
      have h2 := of_decide_eq_false h1
      have h3 := medR (h k hk)
      rw [show p.2 - q.2 + (q.2 - k.2) = p.2 - k.2 by omega, show p.1 - q.1 + (q.1 - k.1) = p.1 - k.1 by omega] at h3
      exact red_eq (by omega) (by omega) (by omega)
    · rw [e, List.mem_singleton.1 hk]
theorem hiP_next {B : List (Int × Int)} {q p : Int × Int} (hB : ∀ m ∈ B, q.1 < m.1) (hq : p.1 < q.1) (hb : q.2 - p.2 ≤ 2000) (h : ∀ m ∈ B, (q.2 - p.2) * (m.1 - q.1) ≤ (m.2 - q.2) * (q.1 - p.1)) : hiP (q :: B) p = sl p q := by
  have hR : ∀ m ∈ q :: B, p.1 < m.1 := fun m hm => by
    rcases List.mem_cons.1 hm with rfl | hm
    · exact hq
    · have := hB m hm; omega
  have ⟨a1, a2, _⟩ := hiP_min hR
  have h1 := a2 q (by simp)
  rcases leastR_in lessQ (10000, 1) ((q :: B).map fun m => sl p m) with g | g
  · rw [show hiP (q :: B) p = (10000, 1) from g, show ((10000, 1) : Int × Int) = red 10000 1 by decide] at h1
    unfold sl at h1
    rw [red_less (by omega) (by omega)] at h1
    have := of_decide_eq_false h1
    omega
  · obtain ⟨m, hm, e⟩ := List.mem_map.1 g
    have e : hiP (q :: B) p = sl p m := e.symm
    rcases List.mem_cons.1 hm with rfl | hm
    · exact e
    · have m1 := hB m hm
      rw [e] at h1 ⊢
      unfold sl at h1
      rw [red_less (by omega) (by omega)] at h1
      have h2 := of_decide_eq_false h1
      have h3 := medL (h m hm)
      rw [show q.1 - p.1 + (m.1 - q.1) = m.1 - p.1 by omega, show m.2 - q.2 + (q.2 - p.2) = m.2 - p.2 by omega] at h3
      exact red_eq (by omega) (by omega) (by omega)
end Go.Proofs.Ytjjoiihgpkhndaa.Eng


noncomputable section
namespace Go.Proofs.Ytjjoiihgpkhndaa.Eng
open Go.RowKit
def pts (l : List CSt) (v : List Int) : List (Int × Int) := (l.zip v).map fun p => (p.1.at_, p.2)
theorem pts_get {l : List CSt} {v : List Int} {i : Nat} {t : CSt} {x : Int} (h1 : l[i]? = some t) (h2 : v[i]? = some x) : (pts l v)[i]? = some (t.at_, x) := by
  have h : (l.zip v)[i]? = some (t, x) := List.getElem?_zip_eq_some.2 ⟨h1, h2⟩
  unfold pts
  rw [List.getElem?_map, h]
  rfl
theorem pts_len {l : List CSt} {v : List Int} (h : v.length = l.length) : (pts l v).length = l.length := by simp [pts, h]
theorem tiltLo_pts {l : List CSt} {v : List Int} (hp : pairErr l = 0) (hv : v.length = l.length) {i : Nat} {s : Spot} {p : Int × Int} (hs : (spots l)[i]? = some s) (hq : (pts l v)[i]? = some p) : tiltLo v (spots l) s = loP ((pts l v).take i) p := by
  obtain ⟨t, ht, rfl⟩ := spot_is hs
  have hi : i < l.length := (List.getElem?_eq_some_iff.1 ht).1
  obtain ⟨x, hx⟩ : ∃ x, v[i]? = some x := ⟨_, List.getElem?_eq_getElem (by omega)⟩
  rw [pts_get ht hx] at hq
  cases hq
  unfold tiltLo before loP
  congr 1
  apply List.ext_getElem?
  intro k
  simp only [List.getElem?_map, Int.toNat_natCast, List.getElem?_take]
  by_cases hk : k < i
  · rw [if_pos hk, if_pos hk]
    obtain ⟨u, hu⟩ : ∃ u, l[k]? = some u := ⟨_, List.getElem?_eq_getElem (by omega)⟩
    obtain ⟨y, hy⟩ : ∃ y, v[k]? = some y := ⟨_, List.getElem?_eq_getElem (by omega)⟩
    rw [spots_get hu, pts_get hu hy]
    have al := at_lt hp hu i ht hk
    simp only [Option.map_some, slope, sl, Int.toNat_natCast, hx, hy, Option.getD_some]
    rw [← red_neg (x - y) (t.at_ - u.at_) (by omega)]
    congr 2 <;> omega
  · rw [if_neg hk, if_neg hk]; rfl
theorem tiltHi_pts {l : List CSt} {v : List Int} (hv : v.length = l.length) {i : Nat} {s : Spot} {p : Int × Int} (hs : (spots l)[i]? = some s) (hq : (pts l v)[i]? = some p) : tiltHi v (spots l) s = hiP ((pts l v).drop (i + 1)) p := by
  obtain ⟨t, ht, rfl⟩ := spot_is hs
  have hi : i < l.length := (List.getElem?_eq_some_iff.1 ht).1
  obtain ⟨x, hx⟩ : ∃ x, v[i]? = some x := ⟨_, List.getElem?_eq_getElem (by omega)⟩
  rw [pts_get ht hx] at hq
  cases hq
  unfold tiltHi behindS hiP
  congr 1
  apply List.ext_getElem?
  intro k
  simp only [List.getElem?_map, Int.toNat_natCast, List.getElem?_drop]
  by_cases hk : i + 1 + k < l.length
  · obtain ⟨u, hu⟩ : ∃ u, l[i + 1 + k]? = some u := ⟨_, List.getElem?_eq_getElem hk⟩
    obtain ⟨y, hy⟩ : ∃ y, v[i + 1 + k]? = some y := ⟨_, List.getElem?_eq_getElem (by omega)⟩
    rw [spots_get hu, pts_get hu hy]
    simp only [Option.map_some, slope, sl, Int.toNat_natCast, hx, hy, Option.getD_some]
  · rw [List.getElem?_eq_none (by simp; omega), List.getElem?_eq_none (by rw [pts_len hv]; omega)]; rfl
def SortP (xs : List (Int × Int)) : Prop := ∀ (i j : Nat) p q, xs[i]? = some p → xs[j]? = some q → i < j → p.1 < q.1
theorem pts_sort {l : List CSt} {v : List Int} (hp : pairErr l = 0) (hv : v.length = l.length) : SortP (pts l v) := fun i j p q h1 h2 hij => by
  have hj : j < l.length := by have := (List.getElem?_eq_some_iff.1 h2).1; rw [pts_len hv] at this; exact this
  obtain ⟨t, ht⟩ : ∃ t, l[i]? = some t := ⟨_, List.getElem?_eq_getElem (by omega)⟩
  obtain ⟨x, hx⟩ : ∃ x, v[i]? = some x := ⟨_, List.getElem?_eq_getElem (by omega)⟩
  obtain ⟨u, hu⟩ : ∃ u, l[j]? = some u := ⟨_, List.getElem?_eq_getElem (by omega)⟩
  obtain ⟨y, hy⟩ : ∃ y, v[j]? = some y := ⟨_, List.getElem?_eq_getElem (by omega)⟩
  rw [pts_get ht hx] at h1
  rw [pts_get hu hy] at h2
  cases h1; cases h2
  exact at_lt hp ht j hu hij
theorem sort_take {xs : List (Int × Int)} (hs : SortP xs) {i : Nat} {p : Int × Int} (hp : xs[i]? = some p) (k : Int × Int) (hk : k ∈ xs.take i) : k.1 < p.1 := by
  obtain ⟨a, ha⟩ := List.getElem?_of_mem hk
  rw [List.getElem?_take] at ha
  split at ha
  · exact hs a i _ _ ha hp (by assumption)
  · cases ha
theorem sort_drop {xs : List (Int × Int)} (hs : SortP xs) {i : Nat} {p : Int × Int} (hp : xs[i]? = some p) (m : Int × Int) (hm : m ∈ xs.drop (i + 1)) : p.1 < m.1 := by
  obtain ⟨a, ha⟩ := List.getElem?_of_mem hm
  rw [List.getElem?_drop] at ha
  exact hs i (i + 1 + a) _ _ hp ha (by omega)
theorem lo_at {xs : List (Int × Int)} (hs : SortP xs) (hg : ∀ p ∈ xs, GoodP xs p) (hb : ∀ p ∈ xs, -1000 ≤ p.2 ∧ p.2 ≤ 1000) {i : Nat} {p q : Int × Int} (hp : xs[i + 1]? = some p) (hq : xs[i]? = some q) : loP (xs.take (i + 1)) p = sl q p := by
  obtain ⟨hi, e⟩ := List.getElem?_eq_some_iff.1 hq
  rw [List.take_succ_eq_append_getElem hi, e]
  have qm := List.mem_of_getElem? hq
  have pm := List.mem_of_getElem? hp
  have b1 := hb q qm
  have b2 := hb p pm
  have qp := hs i (i + 1) _ _ hq hp (by omega)
  exact loP_prev (sort_take hs hq) qp (by omega) fun k hk => hg q qm k (List.mem_of_mem_take hk) p pm (sort_take hs hq k hk) qp
theorem hi_at {xs : List (Int × Int)} (hs : SortP xs) (hg : ∀ p ∈ xs, GoodP xs p) (hb : ∀ p ∈ xs, -1000 ≤ p.2 ∧ p.2 ≤ 1000) {i : Nat} {p q : Int × Int} (hp : xs[i]? = some p) (hq : xs[i + 1]? = some q) : hiP (xs.drop (i + 1)) p = sl p q := by
  obtain ⟨hi, e⟩ := List.getElem?_eq_some_iff.1 hq
  rw [List.drop_eq_getElem_cons hi, e]
  have qm := List.mem_of_getElem? hq
  have pm := List.mem_of_getElem? hp
  have b1 := hb q qm
  have b2 := hb p pm
  have pq := hs i (i + 1) _ _ hp hq (by omega)
  exact hiP_next (sort_drop hs hq) pq (by omega) fun m hm => hg q qm p pm m (List.mem_of_mem_drop hm) pq (sort_drop hs hq m hm)
end Go.Proofs.Ytjjoiihgpkhndaa.Eng


noncomputable section
namespace Go.Proofs.Ytjjoiihgpkhndaa.Eng
open Go.RowKit
def hullX (l : List CSt) (v : List Int) : Nat → List CSt
  | 0 => []
  | k + 1 => match l[k]? with
    | some t => if tiltsE l v k = 0 then hullX l v k ++ [t] else hullX l v k
    | none => hullX l v k
def hullY (l : List CSt) (v : List Int) : Nat → List Int
  | 0 => []
  | k + 1 => match v[k]? with
    | some t => if tiltsE l v k = 0 then hullY l v k ++ [t] else hullY l v k
    | none => hullY l v k
theorem hull_len {l : List CSt} {v : List Int} (hv : v.length = l.length) : ∀ k, (hullX l v k).length = (hullY l v k).length ∧ (hullX l v k).length ≤ k
  | 0 => ⟨rfl, Nat.le_refl _⟩
  | k + 1 => by
    have ⟨h1, h2⟩ := hull_len hv k
    unfold hullX hullY
    by_cases hk : k < l.length
    · rw [List.getElem?_eq_getElem hk, List.getElem?_eq_getElem (by omega)]
      by_cases g : tiltsE l v k = 0
      · simp only [g, if_true, List.length_append, List.length_cons, List.length_nil]; omega
      · simp only [if_neg g]; omega
    · rw [List.getElem?_eq_none (by omega), List.getElem?_eq_none (by omega)]
      exact ⟨h1, Nat.le_succ_of_le h2⟩
theorem hull_yes {l : List CSt} {v : List Int} {k : Nat} {t : CSt} {x : Int} (ht : l[k]? = some t) (hx : v[k]? = some x) (h : tiltsE l v k = 0) : hullX l v (k + 1) = hullX l v k ++ [t] ∧ hullY l v (k + 1) = hullY l v k ++ [x] := by
  simp only [hullX, hullY, ht, hx, if_pos h, and_self]
theorem hull_no {l : List CSt} {v : List Int} {k : Nat} {t : CSt} {x : Int} (ht : l[k]? = some t) (hx : v[k]? = some x) (h : ¬ tiltsE l v k = 0) : hullX l v (k + 1) = hullX l v k ∧ hullY l v (k + 1) = hullY l v k := by
  simp only [hullX, hullY, ht, hx, if_neg h, and_self]
@[simp] theorem cRows_app (l : List CSt) (t : CSt) : cRows (l ++ [t]) = cRows l ++ [cRow t] := by simp [cRows]
def lastTo (x : List CSt) (y : List Int) : Nat → Int × Int
  | 0 => (-10000, 1)
  | k + 1 => (tiltsQ x y k).2
def Follow (l : List CSt) (v : List Int) : Prop := (∀ i, i < (hullX l v l.length).length → tiltsE (hullX l v l.length) (hullY l v l.length) i = 0 ∧ (tiltsQ (hullX l v l.length) (hullY l v l.length) i).1 = lastTo (hullX l v l.length) (hullY l v l.length) i) ∧ lastTo (hullX l v l.length) (hullY l v l.length) (hullX l v l.length).length = (10000, 1)
set_option maxRecDepth 100000 in
set_option maxHeartbeats 16000000 in
theorem follow_c {l : List CSt} {b : List Int} (hb : ∀ x ∈ b, 0 ≤ x ∧ x ≤ 65535) (hf : pairErr l = 0 → b.length ≤ 40 → Follow l (trL b l)) : ACall Try.prog 9 [pairD l, byD b] (bD true) := by
  have cw : ACall Try.prog 14 [] (bD true) := works_call
  have cf := fine_c l
  by_cases h0 : pairErr l = 0
  · rw [decide_eq_true h0] at cf
    have hl : l.length ≤ 25 := by
      unfold pairErr at h0
      split at h0
      · cases h0
      · omega
    by_cases h1 : b.length ≤ 40
    · have hf := hf h0 h1
      have ct := truth_c h0 hb h1
      have hlen := trL_len b l
      generalize trL b l = v at hf ct hlen
      have h1' : ¬ (40 : Int) < b.length := by omega
      refine acallK tabOk Try.func9 rfl rfl (show 2 ≤ _ by decide) rfl fun _ => ?_; simp only [Try.ntmps9]
      repeat (first | (with_reducible first | refine zq1 fun _ => ?_ | refine zq2 fun _ => ?_ | refine zq3 ?_) | ((first | refine zq4 ?_ | refine zq5 fun _ _ => ?_ | refine zq6 ?_); simp [-getElem?_pos, z0, z1, z2, h1']) | ((first | refine AWp.ret ?_ | refine AWp.skip ?_ | refine AWp.exit ?_); try simp only [thenP]) | (with_reducible refine zq7 ?_; simp only [blockP, thenP, reduceIte]) | with_reducible refine zq8 ?_)
      (first | refine Exec0.call [] cf ?_ rfl ?_ ?_ | refine Exec.call [] cf ?_ rfl ?_ ?_); (focus simp [-getElem?_pos, h1']); (focus simp [-getElem?_pos, z0, z1, z2, h1']); simp [-getElem?_pos, z0, z1, z2, h1']
      repeat (first | (with_reducible first | refine zq1 fun _ => ?_ | refine zq2 fun _ => ?_ | refine zq3 ?_) | ((first | refine zq4 ?_ | refine zq5 fun _ _ => ?_ | refine zq6 ?_); simp [-getElem?_pos, z0, z1, z2, h1']) | ((first | refine AWp.ret ?_ | refine AWp.skip ?_ | refine AWp.exit ?_); try simp only [thenP]) | (with_reducible refine zq7 ?_; simp only [blockP, thenP, reduceIte]) | with_reducible refine zq8 ?_)
      (first | refine Exec0.call [] ct ?_ rfl ?_ ?_ | refine Exec.call [] ct ?_ rfl ?_ ?_); (focus simp [-getElem?_pos, h1']); (focus simp [-getElem?_pos, z0, z1, z2, h1']); simp [-getElem?_pos, z0, z1, z2, h1']
      repeat (first | (with_reducible first | refine zq1 fun _ => ?_ | refine zq2 fun _ => ?_ | refine zq3 ?_) | ((first | refine zq4 ?_ | refine zq5 fun _ _ => ?_ | refine zq6 ?_); simp [-getElem?_pos, z0, z1, z2, h1']) | ((first | refine AWp.ret ?_ | refine AWp.skip ?_ | refine AWp.exit ?_); try simp only [thenP]) | (with_reducible refine zq7 ?_; simp only [blockP, thenP, reduceIte]) | with_reducible refine zq8 ?_)
      refine AWp.loopK (ι := { k : Nat // k ≤ l.length }) (n := 2) (fun k => [(0, .d (pairD l)), (1, .d (byD b)), (5, .d (intL v)), (6, gS 0 3 (cRows (hullX l v k.1))), (7, gS 1 1 (iRows (hullY l v k.1))), (8, .d (iD k.1))]) (fun k => gM 0 62 3 (cRows (hullX l v k.1)) ++ gM 1 2 1 (iRows (hullY l v k.1))) (fun k => l.length - k.1) ⟨0, Nat.zero_le _⟩ [0, 1] ?_ ?_
      · refine ⟨by rfl, by simp [hullX, hullY, cRows], by simp [or_imp, forall_and, hullX, hullY, cRows] <;> (try (intro _hne; simp [_hne])), by decide⟩
      rintro ⟨k, hk⟩ kk
      have w1 : IntKind.i64.wrap ((k : Int) + 1) = (k : Int) + 1 := wrap64_in (by omega)
      by_cases hlt : k < l.length
      · obtain ⟨t, ht⟩ : ∃ t, l[k]? = some t := ⟨_, List.getElem?_eq_getElem hlt⟩
        have hkv : k < v.length := by omega
        obtain ⟨x, hx⟩ : ∃ x, v[k]? = some x := ⟨_, List.getElem?_eq_getElem hkv⟩
        have ca := tilts_a l v k
        have cr := refTilts_c l v k
        have ⟨hl1, hl2⟩ := hull_len hlen k
        unfold spanD at ca cr
        by_cases g : tiltsE l v k = 0
        · rw [g] at ca cr
          obtain ⟨y1, y2⟩ := hull_yes ht hx g
          simp only [y1, y2]
          have r1 := cRows_len (hullX l v k)
          have r2 := iRows_len (hullY l v k)
          rcases q1 : cRows (hullX l v k) with _ | ⟨r, o⟩ <;> rw [q1] at r1 <;> rcases q2 : iRows (hullY l v k) with _ | ⟨r', o'⟩ <;> rw [q2] at r2
          · repeat (first | (with_reducible first | refine zq1 fun _ => ?_ | refine zq2 fun _ => ?_ | refine zq3 ?_) | ((first | refine zq4 ?_ | refine zq5 fun _ _ => ?_ | refine zq6 ?_); simp [-getElem?_pos, z0, z1, z2, hlt, ht, hx, hkv]) | ((first | refine AWp.ret ?_ | refine AWp.skip ?_ | refine AWp.exit ?_); try simp only [thenP]) | (with_reducible refine zq7 ?_; simp only [blockP, thenP, reduceIte]) | with_reducible refine zq8 ?_)
            (first | refine Exec0.call [] ca ?_ rfl ?_ ?_ | refine Exec.call [] ca ?_ rfl ?_ ?_); (focus simp [-getElem?_pos, hlt]); (focus simp [-getElem?_pos, z0, z1, z2, hlt]); simp [-getElem?_pos, z0, z1, z2, hlt]
            repeat (first | (with_reducible first | refine zq1 fun _ => ?_ | refine zq2 fun _ => ?_ | refine zq3 ?_) | ((first | refine zq4 ?_ | refine zq5 fun _ _ => ?_ | refine zq6 ?_); simp [-getElem?_pos, z0, z1, z2, hlt, ht, hx, hkv]) | ((first | refine AWp.ret ?_ | refine AWp.skip ?_ | refine AWp.exit ?_); try simp only [thenP]) | (with_reducible refine zq7 ?_; simp only [blockP, thenP, reduceIte]) | with_reducible refine zq8 ?_)
            (first | refine Exec0.call [] cr ?_ rfl ?_ ?_ | refine Exec.call [] cr ?_ rfl ?_ ?_); (focus simp [-getElem?_pos, hlt]); (focus simp [-getElem?_pos, z0, z1, z2, hlt]); simp [-getElem?_pos, z0, z1, z2, hlt]
            repeat (first | (with_reducible first | refine zq1 fun _ => ?_ | refine zq2 fun _ => ?_ | refine zq3 ?_) | ((first | refine zq4 ?_ | refine zq5 fun _ _ => ?_ | refine zq6 ?_); simp [-getElem?_pos, z0, z1, z2, hlt, ht, hx, hkv, w1]) | ((first | refine AWp.ret ?_ | refine AWp.skip ?_ | refine AWp.exit ?_); try simp only [thenP]) | (with_reducible refine zq7 ?_; simp only [blockP, thenP, reduceIte]) | with_reducible refine zq8 ?_)
            refine LL.go ⟨k + 1, hlt⟩ [37, 44] ⟨by rfl, by simp [y1, y2, q1, q2], by simp [or_imp, forall_and, y1, y2, q1, q2] <;> (try (intro _hne; simp [_hne])), by decide⟩ ?_
            simp; omega
          · simp at r1 r2; omega
          · simp at r1 r2; omega
          · simp at r1 r2
            have b1 : fitsB (o.length + 1 + 1) 24 = true := fitsB_small (by omega) (by omega)
            have b2 : fitsB (o'.length + 1 + 1) 8 = true := fitsB_small (by omega) (by omega)
            repeat (first | (with_reducible first | refine zq1 fun _ => ?_ | refine zq2 fun _ => ?_ | refine zq3 ?_) | ((first | refine zq4 ?_ | refine zq5 fun _ _ => ?_ | refine zq6 ?_); simp [-getElem?_pos, z0, z1, z2, hlt, ht, hx, hkv]) | ((first | refine AWp.ret ?_ | refine AWp.skip ?_ | refine AWp.exit ?_); try simp only [thenP]) | (with_reducible refine zq7 ?_; simp only [blockP, thenP, reduceIte]) | with_reducible refine zq8 ?_)
            (first | refine Exec0.call [] ca ?_ rfl ?_ ?_ | refine Exec.call [] ca ?_ rfl ?_ ?_); (focus simp [-getElem?_pos, hlt]); (focus simp [-getElem?_pos, z0, z1, z2, hlt]); simp [-getElem?_pos, z0, z1, z2, hlt]
            repeat (first | (with_reducible first | refine zq1 fun _ => ?_ | refine zq2 fun _ => ?_ | refine zq3 ?_) | ((first | refine zq4 ?_ | refine zq5 fun _ _ => ?_ | refine zq6 ?_); simp [-getElem?_pos, z0, z1, z2, hlt, ht, hx, hkv]) | ((first | refine AWp.ret ?_ | refine AWp.skip ?_ | refine AWp.exit ?_); try simp only [thenP]) | (with_reducible refine zq7 ?_; simp only [blockP, thenP, reduceIte]) | with_reducible refine zq8 ?_)
            (first | refine Exec0.call [] cr ?_ rfl ?_ ?_ | refine Exec.call [] cr ?_ rfl ?_ ?_); (focus simp [-getElem?_pos, hlt]); (focus simp [-getElem?_pos, z0, z1, z2, hlt]); simp [-getElem?_pos, z0, z1, z2, hlt]
            repeat (first | (with_reducible first | refine zq1 fun _ => ?_ | refine zq2 fun _ => ?_ | refine zq3 ?_) | ((first | refine zq4 ?_ | refine zq5 fun _ _ => ?_ | refine zq6 ?_); simp [-getElem?_pos, z0, z1, z2, hlt, ht, hx, hkv, w1, b1, b2]) | ((first | refine AWp.ret ?_ | refine AWp.skip ?_ | refine AWp.exit ?_); try simp only [thenP]) | (with_reducible refine zq7 ?_; simp only [blockP, thenP, reduceIte]) | with_reducible refine zq8 ?_)
            refine LL.go ⟨k + 1, hlt⟩ [37, 44] ⟨by rfl, by simp [y1, y2, q1, q2], by simp [or_imp, forall_and, y1, y2, q1, q2] <;> (try (intro _hne; simp [_hne])), by decide⟩ ?_
            simp; omega
        · obtain ⟨y1, y2⟩ := hull_no ht hx g
          simp only [y1, y2]
          repeat (first | (with_reducible first | refine zq1 fun _ => ?_ | refine zq2 fun _ => ?_ | refine zq3 ?_) | ((first | refine zq4 ?_ | refine zq5 fun _ _ => ?_ | refine zq6 ?_); simp [-getElem?_pos, z0, z1, z2, hlt, ht, hx, hkv]) | ((first | refine AWp.ret ?_ | refine AWp.skip ?_ | refine AWp.exit ?_); try simp only [thenP]) | (with_reducible refine zq7 ?_; simp only [blockP, thenP, reduceIte]) | with_reducible refine zq8 ?_)
          (first | refine Exec0.call [] ca ?_ rfl ?_ ?_ | refine Exec.call [] ca ?_ rfl ?_ ?_); (focus simp [-getElem?_pos, hlt]); (focus simp [-getElem?_pos, z0, z1, z2, hlt]); simp [-getElem?_pos, z0, z1, z2, hlt]
          repeat (first | (with_reducible first | refine zq1 fun _ => ?_ | refine zq2 fun _ => ?_ | refine zq3 ?_) | ((first | refine zq4 ?_ | refine zq5 fun _ _ => ?_ | refine zq6 ?_); simp [-getElem?_pos, z0, z1, z2, hlt, ht, hx, hkv, g]) | ((first | refine AWp.ret ?_ | refine AWp.skip ?_ | refine AWp.exit ?_); try simp only [thenP]) | (with_reducible refine zq7 ?_; simp only [blockP, thenP, reduceIte]) | with_reducible refine zq8 ?_)
          (first | refine Exec0.call [] cr ?_ rfl ?_ ?_ | refine Exec.call [] cr ?_ rfl ?_ ?_); (focus simp [-getElem?_pos, hlt]); (focus simp [-getElem?_pos, z0, z1, z2, hlt]); simp [-getElem?_pos, z0, z1, z2, hlt]
          repeat (first | (with_reducible first | refine zq1 fun _ => ?_ | refine zq2 fun _ => ?_ | refine zq3 ?_) | ((first | refine zq4 ?_ | refine zq5 fun _ _ => ?_ | refine zq6 ?_); simp [-getElem?_pos, z0, z1, z2, hlt, ht, hx, hkv, g, w1]) | ((first | refine AWp.ret ?_ | refine AWp.skip ?_ | refine AWp.exit ?_); try simp only [thenP]) | (with_reducible refine zq7 ?_; simp only [blockP, thenP, reduceIte]) | with_reducible refine zq8 ?_)
          refine LL.go ⟨k + 1, hlt⟩ [0, 1] ⟨by rfl, by simp [y1, y2], by simp [or_imp, forall_and, y1, y2] <;> (try (intro _hne; simp [_hne])), by decide⟩ ?_
          simp; omega
      · obtain rfl : k = l.length := by omega
        have co := of_c (-10000) 1
        have ⟨hl1, hl2⟩ := hull_len hlen l.length
        unfold Follow at hf
        generalize hullX l v l.length = X at hf hl1 hl2
        generalize hullY l v l.length = Y at hf hl1
        obtain ⟨hf1, hf2⟩ := hf
        have r1 := cRows_len X
        have r2 := iRows_len Y
        rcases q1 : cRows X with _ | ⟨r, o⟩ <;> rw [q1] at r1 <;> rcases q2 : iRows Y with _ | ⟨r', o'⟩ <;> rw [q2] at r2
        · simp at r1
          rw [← r1] at hf2
          exact absurd hf2 (by simp [lastTo])
        · simp at r1 r2; omega
        · simp at r1 r2; omega
        · simp at r1 r2
          refine AWp.frost ?_
          simp only [q1, q2, gS_cons, gM_cons, List.cons_append, List.nil_append, List.map_cons, List.map_nil, frzB]
          repeat (first | (with_reducible first | refine zq1 fun _ => ?_ | refine zq2 fun _ => ?_ | refine zq3 ?_) | ((first | refine zq4 ?_ | refine zq5 fun _ _ => ?_ | refine zq6 ?_); simp [-getElem?_pos, z0, z1, z2, hlt]) | ((first | refine AWp.ret ?_ | refine AWp.skip ?_ | refine AWp.exit ?_); try simp only [thenP]) | (with_reducible refine zq7 ?_; simp only [blockP, thenP, reduceIte]) | with_reducible refine zq8 ?_)
          (first | refine Exec0.call [] co ?_ rfl ?_ ?_ | refine Exec.call [] co ?_ rfl ?_ ?_); (focus simp [-getElem?_pos, ratD]); (focus simp [-getElem?_pos, z0, z1, z2, ratD]); simp [-getElem?_pos, z0, z1, z2, ratD]
          repeat (first | (with_reducible first | refine zq1 fun _ => ?_ | refine zq2 fun _ => ?_ | refine zq3 ?_) | ((first | refine zq4 ?_ | refine zq5 fun _ _ => ?_ | refine zq6 ?_); simp [-getElem?_pos, z0, z1, z2, hlt]) | ((first | refine AWp.ret ?_ | refine AWp.skip ?_ | refine AWp.exit ?_); try simp only [thenP]) | (with_reducible refine zq7 ?_; simp only [blockP, thenP, reduceIte]) | with_reducible refine zq8 ?_)
          refine AWp.loopK (ι := { i : Nat // i ≤ X.length }) (n := 3) (fun i => [(6, .own 0 (o.length + 1) 3), (7, .own 1 (o'.length + 1) 1), (13, .ptr 2 0 0), (14, .d (iD i.1))]) (fun i => [(0, .row 62 3 (r :: o) true), (1, .row 2 1 (r' :: o') true), (2, .box 25 [.d (iD (lastTo X Y i.1).1), .d (iD (lastTo X Y i.1).2)] false)]) (fun i => X.length - i.1) ⟨0, Nat.zero_le _⟩ [0, 1, 7] ?_ ?_
          · refine ⟨by rfl, by simp [lastTo], by simp [or_imp, forall_and, lastTo] <;> (try (intro _hne; simp [_hne])), by decide⟩
          rintro ⟨i, hi⟩ kk
          have w1 : IntKind.i64.wrap ((i : Int) + 1) = (i : Int) + 1 := wrap64_in (by omega)
          have hro : X.length = o.length + 1 := by omega
          by_cases hlt : i < X.length
          · have ca := tilts_a X Y i
            obtain ⟨g1, g2⟩ := hf1 i hlt
            unfold spanD pairD intL at ca
            have nx : lastTo X Y (i + 1) = (tiltsQ X Y i).2 := rfl
            rw [q1, q2, g1, g2] at ca
            have hlt' : (i : Int) < o.length + 1 := by omega
            have hlt2 : i < o.length + 1 := by omega
            repeat (first | (with_reducible first | refine zq1 fun _ => ?_ | refine zq2 fun _ => ?_ | refine zq3 ?_) | ((first | refine zq4 ?_ | refine zq5 fun _ _ => ?_ | refine zq6 ?_); simp [-getElem?_pos, z0, z1, z2, hlt', hlt2]) | ((first | refine AWp.ret ?_ | refine AWp.skip ?_ | refine AWp.exit ?_); try simp only [thenP]) | (with_reducible refine zq7 ?_; simp only [blockP, thenP, reduceIte]) | with_reducible refine zq8 ?_)
            (first | refine Exec0.call [0, 1] ca ?_ rfl ?_ ?_ | refine Exec.call [0, 1] ca ?_ rfl ?_ ?_); (focus simp [-getElem?_pos, hlt']); (focus simp [-getElem?_pos, z0, z1, z2, hlt']); simp [-getElem?_pos, z0, z1, z2, hlt']
            repeat (first | (with_reducible first | refine zq1 fun _ => ?_ | refine zq2 fun _ => ?_ | refine zq3 ?_) | ((first | refine zq4 ?_ | refine zq5 fun _ _ => ?_ | refine zq6 ?_); simp [-getElem?_pos, z0, z1, z2, hlt', w1]) | ((first | refine AWp.ret ?_ | refine AWp.skip ?_ | refine AWp.exit ?_); try simp only [thenP]) | (with_reducible refine zq7 ?_; simp only [blockP, thenP, reduceIte]) | with_reducible refine zq8 ?_)
            refine LL.go ⟨i + 1, hlt⟩ [0, 1, 2] ⟨by rfl, by simp [nx], by simp [or_imp, forall_and, nx] <;> (try (intro _hne; simp [_hne])), by decide⟩ ?_
            simp; omega
          · obtain rfl : i = X.length := by omega
            have co := of_c 10000 1
            have hlt' : ¬ (X.length : Int) < o.length + 1 := by omega
            have hlt2 : ¬ X.length < o.length + 1 := by omega
            repeat (first | (with_reducible first | refine zq1 fun _ => ?_ | refine zq2 fun _ => ?_ | refine zq3 ?_) | ((first | refine zq4 ?_ | refine zq5 fun _ _ => ?_ | refine zq6 ?_); simp [-getElem?_pos, z0, z1, z2, hlt', hlt2, hf2]) | ((first | refine AWp.ret ?_ | refine AWp.skip ?_ | refine AWp.exit ?_); try simp only [thenP]) | (with_reducible refine zq7 ?_; simp only [blockP, thenP, reduceIte]) | with_reducible refine zq8 ?_)
            (first | refine Exec0.call [] co ?_ rfl ?_ ?_ | refine Exec.call [] co ?_ rfl ?_ ?_); (focus simp [-getElem?_pos, ratD, hf2]); (focus simp [-getElem?_pos, z0, z1, z2, ratD, hf2]); simp [-getElem?_pos, z0, z1, z2, ratD, hf2]
            repeat (first | (with_reducible first | refine zq1 fun _ => ?_ | refine zq2 fun _ => ?_ | refine zq3 ?_) | ((first | refine zq4 ?_ | refine zq5 fun _ _ => ?_ | refine zq6 ?_); simp [-getElem?_pos, z0, z1, z2, hf2]) | ((first | refine AWp.ret ?_ | refine AWp.skip ?_ | refine AWp.exit ?_); try simp only [thenP]) | (with_reducible refine zq7 ?_; simp only [blockP, thenP, reduceIte]) | with_reducible refine zq8 ?_)
            (first | refine Exec0.call [] cw ?_ rfl ?_ ?_ | refine Exec.call [] cw ?_ rfl ?_ ?_); (focus simp [-getElem?_pos, hf2]); (focus simp [-getElem?_pos, z0, z1, z2, hf2]); simp [-getElem?_pos, z0, z1, z2, hf2]
            repeat (first | (with_reducible first | refine zq1 fun _ => ?_ | refine zq2 fun _ => ?_ | refine zq3 ?_) | ((first | refine zq4 ?_ | refine zq5 fun _ _ => ?_ | refine zq6 ?_); simp [-getElem?_pos, z0, z1, z2, hf2]) | ((first | refine AWp.ret ?_ | refine AWp.skip ?_ | refine AWp.exit ?_); try simp only [thenP]) | (with_reducible refine zq7 ?_; simp only [blockP, thenP, reduceIte]) | with_reducible refine zq8 ?_)
            (first | refine RR.ret ?_ | refine RR.normal ?_); simp []
    · have h1' : (40 : Int) < b.length := by omega
      refine acallK tabOk Try.func9 rfl rfl (show 2 ≤ _ by decide) rfl fun _ => ?_; simp only [Try.ntmps9]
      repeat (first | (with_reducible first | refine zq1 fun _ => ?_ | refine zq2 fun _ => ?_ | refine zq3 ?_) | ((first | refine zq4 ?_ | refine zq5 fun _ _ => ?_ | refine zq6 ?_); simp [-getElem?_pos, z0, z1, z2, h1']) | ((first | refine AWp.ret ?_ | refine AWp.skip ?_ | refine AWp.exit ?_); try simp only [thenP]) | (with_reducible refine zq7 ?_; simp only [blockP, thenP, reduceIte]) | with_reducible refine zq8 ?_)
      (first | refine Exec0.call [] cf ?_ rfl ?_ ?_ | refine Exec.call [] cf ?_ rfl ?_ ?_); (focus simp [-getElem?_pos, h1']); (focus simp [-getElem?_pos, z0, z1, z2, h1']); simp [-getElem?_pos, z0, z1, z2, h1']
      repeat (first | (with_reducible first | refine zq1 fun _ => ?_ | refine zq2 fun _ => ?_ | refine zq3 ?_) | ((first | refine zq4 ?_ | refine zq5 fun _ _ => ?_ | refine zq6 ?_); simp [-getElem?_pos, z0, z1, z2, h1']) | ((first | refine AWp.ret ?_ | refine AWp.skip ?_ | refine AWp.exit ?_); try simp only [thenP]) | (with_reducible refine zq7 ?_; simp only [blockP, thenP, reduceIte]) | with_reducible refine zq8 ?_)
      (first | refine Exec0.call [] cw ?_ rfl ?_ ?_ | refine Exec.call [] cw ?_ rfl ?_ ?_); (focus simp [-getElem?_pos, h1']); (focus simp [-getElem?_pos, z0, z1, z2, h1']); simp [-getElem?_pos, z0, z1, z2, h1']
      repeat (first | (with_reducible first | refine zq1 fun _ => ?_ | refine zq2 fun _ => ?_ | refine zq3 ?_) | ((first | refine zq4 ?_ | refine zq5 fun _ _ => ?_ | refine zq6 ?_); simp [-getElem?_pos, z0, z1, z2, h1']) | ((first | refine AWp.ret ?_ | refine AWp.skip ?_ | refine AWp.exit ?_); try simp only [thenP]) | (with_reducible refine zq7 ?_; simp only [blockP, thenP, reduceIte]) | with_reducible refine zq8 ?_)
      (first | refine RR.ret ?_ | refine RR.normal ?_); simp []
  · rw [decide_eq_false h0] at cf
    refine acallK tabOk Try.func9 rfl rfl (show 2 ≤ _ by decide) rfl fun _ => ?_; simp only [Try.ntmps9]
    repeat (first | (with_reducible first | refine zq1 fun _ => ?_ | refine zq2 fun _ => ?_ | refine zq3 ?_) | ((first | refine zq4 ?_ | refine zq5 fun _ _ => ?_ | refine zq6 ?_); simp [-getElem?_pos, z0, z1, z2, ]) | ((first | refine AWp.ret ?_ | refine AWp.skip ?_ | refine AWp.exit ?_); try simp only [thenP]) | (with_reducible refine zq7 ?_; simp only [blockP, thenP, reduceIte]) | with_reducible refine zq8 ?_)
    (first | refine Exec0.call [] cf ?_ rfl ?_ ?_ | refine Exec.call [] cf ?_ rfl ?_ ?_); (focus simp [-getElem?_pos, ]); (focus simp [-getElem?_pos, z0, z1, z2, ]); simp [-getElem?_pos, z0, z1, z2, ]
    repeat (first | (with_reducible first | refine zq1 fun _ => ?_ | refine zq2 fun _ => ?_ | refine zq3 ?_) | ((first | refine zq4 ?_ | refine zq5 fun _ _ => ?_ | refine zq6 ?_); simp [-getElem?_pos, z0, z1, z2, ]) | ((first | refine AWp.ret ?_ | refine AWp.skip ?_ | refine AWp.exit ?_); try simp only [thenP]) | (with_reducible refine zq7 ?_; simp only [blockP, thenP, reduceIte]) | with_reducible refine zq8 ?_)
    (first | refine Exec0.call [] cw ?_ rfl ?_ ?_ | refine Exec.call [] cw ?_ rfl ?_ ?_); (focus simp [-getElem?_pos, ]); (focus simp [-getElem?_pos, z0, z1, z2, ]); simp [-getElem?_pos, z0, z1, z2, ]
    repeat (first | (with_reducible first | refine zq1 fun _ => ?_ | refine zq2 fun _ => ?_ | refine zq3 ?_) | ((first | refine zq4 ?_ | refine zq5 fun _ _ => ?_ | refine zq6 ?_); simp [-getElem?_pos, z0, z1, z2, ]) | ((first | refine AWp.ret ?_ | refine AWp.skip ?_ | refine AWp.exit ?_); try simp only [thenP]) | (with_reducible refine zq7 ?_; simp only [blockP, thenP, reduceIte]) | with_reducible refine zq8 ?_)
    (first | refine RR.ret ?_ | refine RR.normal ?_); simp []
end Go.Proofs.Ytjjoiihgpkhndaa.Eng


noncomputable section
namespace Go.Proofs.Ytjjoiihgpkhndaa.Eng
open Go.RowKit
theorem pts_in {l : List CSt} {v : List Int} (h : truthErr l v = 0) (p : Int × Int) (hp : p ∈ pts l v) : -1000 ≤ p.2 ∧ p.2 ≤ 1000 := by
  obtain ⟨p1, p2, p3⟩ := truth_of h
  obtain ⟨i, hi⟩ := List.getElem?_of_mem hp
  have hil : i < l.length := by have := (List.getElem?_eq_some_iff.1 hi).1; rw [pts_len p2] at this; exact this
  obtain ⟨t, ht⟩ : ∃ t, l[i]? = some t := ⟨_, List.getElem?_eq_getElem hil⟩
  obtain ⟨x, hx⟩ : ∃ x, v[i]? = some x := ⟨_, List.getElem?_eq_getElem (by omega)⟩
  rw [pts_get ht hx] at hi
  cases hi
  obtain ⟨y, y1, y2⟩ := (spotsOk p1 p2 p3 _ (List.mem_of_getElem? (spots_get ht))).high
  simp only [Int.toNat_natCast, hx] at y1
  cases y1
  exact y2
theorem tilts_pts {l : List CSt} {v : List Int} (h : truthErr l v = 0) {i : Nat} {p : Int × Int} (hp : (pts l v)[i]? = some p) : tiltsE l v i = (if lessQ (hiP ((pts l v).drop (i + 1)) p) (loP ((pts l v).take i) p) = true then 22 else 0) ∧ (tiltsE l v i = 0 → tiltsQ l v i = (loP ((pts l v).take i) p, hiP ((pts l v).drop (i + 1)) p)) := by
  obtain ⟨p1, p2, p3⟩ := truth_of h
  have hil : i < l.length := by have := (List.getElem?_eq_some_iff.1 hp).1; rw [pts_len p2] at this; exact this
  obtain ⟨s, hs⟩ : ∃ s, (spots l)[i]? = some s := ⟨_, List.getElem?_eq_getElem (by simpa using hil)⟩
  have e1 := tiltLo_pts p1 p2 hs hp
  have e2 := tiltHi_pts p2 hs hp
  refine ⟨?_, fun h0 => ?_⟩
  · unfold tiltsE
    rw [if_pos h, if_pos (by omega), Int.toNat_natCast, hs]
    simp only [e1, e2]
  · unfold tiltsQ
    rw [if_pos h0, Int.toNat_natCast, hs]
    simp only [e1, e2]
theorem neg1 : ((-10000, 1) : Int × Int) = red (-10000) 1 := by decide
theorem pos1 : ((10000, 1) : Int × Int) = red 10000 1 := by decide
theorem meet_at {xs : List (Int × Int)} (hs : SortP xs) (hg : ∀ p ∈ xs, GoodP xs p) (hb : ∀ p ∈ xs, -1000 ≤ p.2 ∧ p.2 ≤ 1000) {i : Nat} {p : Int × Int} (hp : xs[i]? = some p) : lessQ (hiP (xs.drop (i + 1)) p) (loP (xs.take i) p) = false := by
  have pm := List.mem_of_getElem? hp
  have b1 := hb p pm
  have hil := (List.getElem?_eq_some_iff.1 hp).1
  have hi : (hiP (xs.drop (i + 1)) p = red 10000 1) ∨ ∃ m, m ∈ xs ∧ p.1 < m.1 ∧ hiP (xs.drop (i + 1)) p = sl p m := by
    by_cases g : i + 1 < xs.length
    · obtain ⟨m, hm⟩ : ∃ m, xs[i + 1]? = some m := ⟨_, List.getElem?_eq_getElem g⟩
      exact .inr ⟨m, List.mem_of_getElem? hm, hs i (i + 1) _ _ hp hm (by omega), hi_at hs hg hb hp hm⟩
    · rw [List.drop_of_length_le (by omega), ← pos1]
      exact .inl rfl
  have lo : (loP (xs.take i) p = red (-10000) 1) ∨ ∃ q, q ∈ xs ∧ q.1 < p.1 ∧ loP (xs.take i) p = sl q p := by
    cases i with
    | zero => rw [← neg1]; exact .inl rfl
    | succ j =>
      obtain ⟨q, hq⟩ : ∃ q, xs[j]? = some q := ⟨_, List.getElem?_eq_getElem (by omega)⟩
      exact .inr ⟨q, List.mem_of_getElem? hq, hs j (j + 1) _ _ hq hp (by omega), lo_at hs hg hb hp hq⟩
  rcases hi with hi | ⟨m, m1, m2, hi⟩ <;> rcases lo with lo | ⟨q, q1, q2, lo⟩ <;> rw [hi, lo]
  · rw [red_less (by omega) (by omega)]; decide
  · have b2 := hb q q1
    unfold sl
    rw [red_less (by omega) (by omega)]
    exact decide_eq_false (by omega)
  · have b2 := hb m m1
    unfold sl
    rw [red_less (by omega) (by omega)]
    exact decide_eq_false (by omega)
  · have h1 := hg p pm q q1 m m1 q2 m2
    unfold sl
    rw [red_less (by omega) (by omega)]
    exact decide_eq_false (by omega)
theorem follow_of {l : List CSt} {v : List Int} (h : truthErr (hullX l v l.length) (hullY l v l.length) = 0) (hg : ∀ p ∈ pts (hullX l v l.length) (hullY l v l.length), GoodP (pts (hullX l v l.length) (hullY l v l.length)) p) : Follow l v := by
  unfold Follow
  generalize hullX l v l.length = X at h hg
  generalize hullY l v l.length = Y at h hg
  obtain ⟨p1, p2, p3⟩ := truth_of h
  have hs := pts_sort p1 p2
  have hb := pts_in h
  have hl := pts_len p2
  have hX : 0 < X.length := by
    unfold pairErr at p1
    split at p1
    · cases p1
    · omega
  have key : ∀ i, i < X.length → ∃ p, (pts X Y)[i]? = some p ∧ tiltsE X Y i = 0 ∧ tiltsQ X Y i = (loP ((pts X Y).take i) p, hiP ((pts X Y).drop (i + 1)) p) := fun i hi => by
    obtain ⟨p, hp⟩ : ∃ p, (pts X Y)[i]? = some p := ⟨_, List.getElem?_eq_getElem (by omega)⟩
    have ⟨e1, e2⟩ := tilts_pts h hp
    rw [meet_at hs hg hb hp] at e1
    exact ⟨p, hp, e1, e2 e1⟩
  refine ⟨fun i hi => ?_, ?_⟩
  · obtain ⟨p, hp, e1, e2⟩ := key i hi
    refine ⟨e1, ?_⟩
    rw [e2]
    cases i with
    | zero => rfl
    | succ j =>
      obtain ⟨q, hq, _, f2⟩ := key j (by omega)
      show _ = (tiltsQ X Y j).2
      rw [f2]
      show loP _ p = hiP _ q
      rw [lo_at hs hg hb hp hq, hi_at hs hg hb hq hp]
  · obtain ⟨j, hj⟩ : ∃ j, X.length = j + 1 := ⟨X.length - 1, by omega⟩
    obtain ⟨q, hq, _, f2⟩ := key j (by omega)
    rw [hj]
    show (tiltsQ X Y j).2 = _
    rw [f2, List.drop_of_length_le (by omega)]
    rfl
end Go.Proofs.Ytjjoiihgpkhndaa.Eng


noncomputable section
namespace Go.Proofs.Ytjjoiihgpkhndaa.Eng
open Go.RowKit
theorem hull_inv {l : List CSt} {v : List Int} (hp : pairErr l = 0) (hv : v.length = l.length) : ∀ k, k ≤ l.length →
    (∀ (j : Nat) t y, (hullX l v k)[j]? = some t → (hullY l v k)[j]? = some y → ∃ i, i < k ∧ l[i]? = some t ∧ v[i]? = some y ∧ tiltsE l v i = 0) ∧
    (∀ (j j' : Nat) t t', (hullX l v k)[j]? = some t → (hullX l v k)[j']? = some t' → j < j' → t.at_ < t'.at_)
  | 0, _ => ⟨fun j t y h => by simp [hullX] at h, fun j j' t t' h => by simp [hullX] at h⟩
  | k + 1, hk => by
    have ⟨h1, h2⟩ := hull_inv hp hv k (by omega)
    have ⟨l1, l2⟩ := hull_len hv k
    obtain ⟨u, hu⟩ : ∃ u, l[k]? = some u := ⟨_, List.getElem?_eq_getElem (by omega)⟩
    obtain ⟨x, hx⟩ : ∃ x, v[k]? = some x := ⟨_, List.getElem?_eq_getElem (by omega)⟩
    by_cases g : tiltsE l v k = 0
    · obtain ⟨y1, y2⟩ := hull_yes hu hx g
      rw [y1, y2]
      refine ⟨fun j t y h h' => ?_, fun j j' t t' h h' hj => ?_⟩
      · by_cases hj : j < (hullX l v k).length
        · rw [List.getElem?_append_left hj] at h
          rw [List.getElem?_append_left (by omega)] at h'
          obtain ⟨i, i1, i2⟩ := h1 j t y h h'
          exact ⟨i, by omega, i2⟩
        · rw [List.getElem?_append_right (by omega)] at h h'
          have hj0 : j - (hullX l v k).length = 0 := by
            have := (List.getElem?_eq_some_iff.1 h).1
            simp at this; omega
          rw [hj0] at h
          rw [← l1, hj0] at h'
          cases h; cases h'
          exact ⟨k, by omega, hu, hx, g⟩
      · have hj' : j' ≤ (hullX l v k).length := by have := (List.getElem?_eq_some_iff.1 h').1; simp at this; omega
        rw [List.getElem?_append_left (by omega)] at h
        by_cases e : j' < (hullX l v k).length
        · rw [List.getElem?_append_left e] at h'
          exact h2 j j' t t' h h' hj
        · have hj0 : j' - (hullX l v k).length = 0 := by omega
          rw [List.getElem?_append_right (by omega), hj0] at h'
          cases h'
          obtain ⟨y, hy⟩ : ∃ y, (hullY l v k)[j]? = some y := ⟨_, List.getElem?_eq_getElem (by omega)⟩
          obtain ⟨i, i1, i2, _⟩ := h1 j t y h hy
          exact at_lt hp i2 k hu i1
    · obtain ⟨y1, y2⟩ := hull_no hu hx g
      rw [y1, y2]
      exact ⟨fun j t y h h' => by obtain ⟨i, i1, i2⟩ := h1 j t y h h'; exact ⟨i, by omega, i2⟩, h2⟩
theorem first_meets {l : List CSt} {v : List Int} (h : truthErr l v = 0) : tiltsE l v (0 : Nat) = 0 := by
  obtain ⟨p1, p2, p3⟩ := truth_of h
  have hl := pts_len p2
  have h0 : 0 < l.length := by
    unfold pairErr at p1
    split at p1
    · cases p1
    · omega
  obtain ⟨p, hp⟩ : ∃ p, (pts l v)[0]? = some p := ⟨_, List.getElem?_eq_getElem (by omega)⟩
  have b1 := pts_in h p (List.mem_of_getElem? hp)
  rw [(tilts_pts h hp).1]
  have lo : loP ((pts l v).take 0) p = red (-10000) 1 := by rw [← neg1]; rfl
  rw [lo]
  have : lessQ (hiP ((pts l v).drop (0 + 1)) p) (red (-10000) 1) = false := by
    rcases leastR_in lessQ (10000, 1) (((pts l v).drop (0 + 1)).map fun m => sl p m) with g | g
    · rw [show hiP ((pts l v).drop (0 + 1)) p = (10000, 1) from g, pos1, red_less (by omega) (by omega)]; decide
    · obtain ⟨m, hm, e⟩ := List.mem_map.1 g
      have e : hiP ((pts l v).drop (0 + 1)) p = sl p m := e.symm
      have b2 := pts_in h m (List.mem_of_mem_drop hm)
      have pm := sort_drop (pts_sort p1 p2) hp m hm
      rw [e]
      unfold sl
      rw [red_less (by omega) (by omega)]
      exact decide_eq_false (by omega)
  rw [this]; rfl
theorem hull_pos {l : List CSt} {v : List Int} (h : truthErr l v = 0) : ∀ k, 0 < k → 0 < (hullX l v k).length
  | 0, h0 => by omega
  | 1, _ => by
    obtain ⟨p1, p2, p3⟩ := truth_of h
    have h0 : 0 < l.length := by
      unfold pairErr at p1
      split at p1
      · cases p1
      · omega
    obtain ⟨u, hu⟩ : ∃ u, l[0]? = some u := ⟨_, List.getElem?_eq_getElem h0⟩
    obtain ⟨x, hx⟩ : ∃ x, v[0]? = some x := ⟨_, List.getElem?_eq_getElem (by omega)⟩
    rw [(hull_yes hu hx (first_meets h)).1]
    simp
  | k + 1 + 1, _ => by
    have := hull_pos h (k + 1) (by omega)
    unfold hullX
    split
    · split
      · simp
      · exact this
    · exact this
theorem pair_of {X : List CSt} (h0 : 0 < X.length) (h1 : X.length ≤ 25) (h2 : ∀ (j : Nat) t, X[j]? = some t → stnC t = true) (h3 : ∀ (j j' : Nat) t t', X[j]? = some t → X[j']? = some t' → j < j' → t.at_ < t'.at_) : pairErr X = 0 := by
  unfold pairErr
  rw [if_neg (by omega), if_pos]
  unfold okTo
  refine List.all_eq_true.2 fun j hj => ?_
  have hj := List.mem_range.1 hj
  obtain ⟨t, ht⟩ : ∃ t, X[j]? = some t := ⟨_, List.getElem?_eq_getElem hj⟩
  unfold okAt
  simp only [ht, h2 j t ht, Bool.true_and]
  cases j with
  | zero => rfl
  | succ i =>
    obtain ⟨u, hu⟩ : ∃ u, X[i]? = some u := ⟨_, List.getElem?_eq_getElem (by omega)⟩
    simp only [hu]
    exact decide_eq_true (h3 i (i + 1) u t hu ht (by omega))
theorem truth_mk {X : List CSt} {Y : List Int} (hp : pairErr X = 0) (hl : Y.length = X.length) (h : ∀ (j : Nat) t y, X[j]? = some t → Y[j]? = some y → t.lo ≤ y ∧ y ≤ t.hi) : truthErr X Y = 0 := by
  unfold truthErr
  rw [if_pos hp, if_pos hl, if_pos]
  unfold trOk
  rw [List.take_of_length_le (by simp)]
  refine List.all_eq_true.2 fun q hq => ?_
  obtain ⟨i, hi⟩ := List.getElem?_of_mem hq
  obtain ⟨t, h1, rfl⟩ := spot_is hi
  have hi2 := (List.getElem?_eq_some_iff.1 h1).1
  obtain ⟨y, hy⟩ : ∃ y, Y[i]? = some y := ⟨_, List.getElem?_eq_getElem (by omega)⟩
  have := h i t y h1 hy
  simp [hy, fromK, inK, this]
theorem truth_in {l : List CSt} {v : List Int} (h : truthErr l v = 0) {i : Nat} {t : CSt} {x : Int} (ht : l[i]? = some t) (hx : v[i]? = some x) : t.lo ≤ x ∧ x ≤ t.hi := by
  obtain ⟨p1, p2, p3⟩ := truth_of h
  unfold trOk at p3
  rw [List.take_of_length_le (by simp)] at p3
  have h2 := List.all_eq_true.1 p3 _ (List.mem_of_getElem? (spots_get ht))
  simp [hx, fromK, inK] at h2
  exact h2
theorem hull_truth {l : List CSt} {v : List Int} (h : truthErr l v = 0) : truthErr (hullX l v l.length) (hullY l v l.length) = 0 := by
  obtain ⟨p1, p2, p3⟩ := truth_of h
  have ⟨h1, h2⟩ := hull_inv p1 p2 l.length (Nat.le_refl _)
  have ⟨l1, l2⟩ := hull_len p2 l.length
  have hl : l.length ≤ 25 ∧ 0 < l.length := by
    unfold pairErr at p1
    split at p1
    · cases p1
    · omega
  have hY : ∀ j, j < (hullX l v l.length).length → ∃ y, (hullY l v l.length)[j]? = some y := fun j hj => ⟨_, List.getElem?_eq_getElem (by omega)⟩
  refine truth_mk (pair_of (hull_pos h _ hl.2) (by omega) (fun j t ht => ?_) h2) l1.symm fun j t y ht hy => ?_
  · obtain ⟨y, hy⟩ := hY j (List.getElem?_eq_some_iff.1 ht).1
    obtain ⟨i, i1, i2, i3, i4⟩ := h1 j t y ht hy
    exact stn_of p1 i2
  · obtain ⟨i, i1, i2, i3, i4⟩ := h1 j t y ht hy
    exact truth_in h i2 i3
theorem hull_good {l : List CSt} {v : List Int} (h : truthErr l v = 0) (p : Int × Int) (hp : p ∈ pts (hullX l v l.length) (hullY l v l.length)) : GoodP (pts (hullX l v l.length) (hullY l v l.length)) p := by
  obtain ⟨p1, p2, p3⟩ := truth_of h
  have ⟨h1, _⟩ := hull_inv p1 p2 l.length (Nat.le_refl _)
  have ⟨l1, _⟩ := hull_len p2 l.length
  have src : ∀ q ∈ pts (hullX l v l.length) (hullY l v l.length), ∃ i : Nat, (pts l v)[i]? = some q ∧ tiltsE l v i = 0 := fun q hq => by
    obtain ⟨j, hj⟩ := List.getElem?_of_mem hq
    have hjl := (List.getElem?_eq_some_iff.1 hj).1
    rw [pts_len l1.symm] at hjl
    obtain ⟨t, ht⟩ : ∃ t, (hullX l v l.length)[j]? = some t := ⟨_, List.getElem?_eq_getElem hjl⟩
    obtain ⟨y, hy⟩ : ∃ y, (hullY l v l.length)[j]? = some y := ⟨_, List.getElem?_eq_getElem (by omega)⟩
    rw [pts_get ht hy] at hj
    cases hj
    obtain ⟨i, i1, i2, i3, i4⟩ := h1 j t y ht hy
    exact ⟨i, pts_get i2 i3, i4⟩
  have hs := pts_sort p1 p2
  intro k hk m hm k1 m1
  obtain ⟨i, hi, e⟩ := src p hp
  obtain ⟨a, ha, _⟩ := src k hk
  obtain ⟨c, hc, _⟩ := src m hm
  have hai : a < i := by
    rcases Nat.lt_trichotomy a i with g | g | g
    · exact g
    · subst g; rw [ha] at hi; cases hi; omega
    · have := hs i a _ _ hi ha g; omega
  have hic : i < c := by
    rcases Nat.lt_trichotomy c i with g | g | g
    · have := hs c i _ _ hc hi g; omega
    · subst g; rw [hc] at hi; cases hi; omega
    · exact g
  have hb : lessQ (hiP ((pts l v).drop (i + 1)) p) (loP ((pts l v).take i) p) = false := by
    have := (tilts_pts h hi).1
    rw [e] at this
    rcases g : lessQ (hiP ((pts l v).drop (i + 1)) p) (loP ((pts l v).take i) p) with _ | _
    · rfl
    · rw [g] at this; cases this
  refine good_of (sort_take hs hi) (sort_drop hs hi) hb k ?_ m ?_
  · exact List.mem_of_getElem? (i := a) (by rw [List.getElem?_take, if_pos hai]; exact ha)
  · exact List.mem_of_getElem? (i := c - (i + 1)) (by rw [List.getElem?_drop, show i + 1 + (c - (i + 1)) = c by omega]; exact hc)
theorem follow_all {l : List CSt} (hp : pairErr l = 0) (b : List Int) : Follow l (trL b l) :=
  follow_of (hull_truth (trL_truth hp b)) (hull_good (trL_truth hp b))
theorem crossFollow_c {l : List CSt} {b : List Int} (hb : ∀ x ∈ b, 0 ≤ x ∧ x ≤ 65535) : ACall Try.prog 9 [pairD l, byD b] (bD true) :=
  follow_c hb fun hp _ => follow_all hp b
end Go.Proofs.Ytjjoiihgpkhndaa.Eng


namespace Go.Proofs.Ytjjoiihgpkhndaa
open Go.ChangeShapes Go.WideShapes Go.ChangeAt Go.RowKit
theorem post_later {H : Type} {enc : TypeId × Value → H} {P : Program} {f : Func} {s : ChangeSpec} {apart fresh handsOn again : Bool} {W W' : World} {args : Array Value} {v : Value} {ds gs : List (DataW H)} {before pa pv : List MemPlace}
    (hW : DataW.Whole enc P f.params.toList s.vars apart W args.toList ds gs before) (hsplit : before = pa ++ pv)
    (hr : ∀ (b : Nat) (sp : Nat → Bool) (hd : Bool), DataW.TrodAll enc P W' b sp hd f.resultTypes.toList (v.resultList f.resultTypes.size) (s.fn H (ds ++ gs)).results [])
    (ha : ∀ sp : Nat → Bool, (∀ p ∈ before, sp p.block = true) → DataW.TrodAll enc P W' 0 sp true f.params.toList args.toList (s.fn H (ds ++ gs)).args pa)
    (hv : ∀ sp : Nat → Bool, (∀ p ∈ before, sp p.block = true) → DataW.TrodVars enc P W' sp s.vars (s.fn H (ds ++ gs)).vars pv)
    (hk : ∀ (j : Nat) (t : TypeId) (r : Value), f.resultTypes[j]? = some t → (v.resultList f.resultTypes.size)[j]? = some r → Value.okWide P W' .any 0 t r)
    (hb : Below W.heap.size W W') : s.post enc P f apart fresh handsOn again W args v W' := by
  have inside : ∀ p, p ∈ before → p.block < W.heap.size := fun p hp => hW.lt p hp
  have keep : ∀ p ∈ before, (decide ((p : MemPlace).block < W.heap.size)) = true := fun p hp => decide_eq_true (inside p hp)
  refine ⟨ds, gs, before, [], pa, pv, hW, hr _ _ _, ha (fun b => decide (b < W.heap.size)) keep, hv (fun b => decide (b < W.heap.size)) keep, ?_, ?_⟩
  · refine World.keptBut_mono (fun p hp => ⟨hp, ?_⟩) (hb.frame (· ∈ before))
    right
    rw [hsplit, List.mem_append] at hp
    exact hp
  · intro _
    obtain ⟨_, _, _, _, _, hz, hn⟩ := hW
    have e : [] ++ pa ++ pv = before := by rw [hsplit, List.nil_append]
    refine ⟨hk, _, _, [] ++ pa ++ pv, ⟨[] ++ pa, pv, trodAll_append (ha _ fun _ _ => rfl) (hr _ _ _), hv _ fun _ _ => rfl, rfl, fun b off hp => ?_, fun h => ?_⟩, fun p hp _ => ?_⟩
    · rw [e] at hp
      rw [hb.frozen (inside _ hp)]
      exact hz b off hp
    · have := hn h
      rw [← e] at this
      simpa using this
    · rw [e] at hp
      simpa using hp
end Go.Proofs.Ytjjoiihgpkhndaa


namespace Go.Proofs.Ytjjoiihgpkhndaa.Eng
open Go.ChangeShapes Go.WideShapes Go.ChangeAt Go.RowKit Go.Deep
inductive Sh where
  | int (k : IntKind)
  | bool
  | nil
  | cons (s r : Sh)
  | sl (s : Sh)
  | arr (n : Nat) (s : Sh)
def Sh.size : Sh → Nat
  | .int _ => 1
  | .bool => 1
  | .nil => 0
  | .cons s r => s.size + r.size
  | .sl _ => 1
  | .arr n s => n * s.size
def Sh.Row : Sh → List Dat → Prop
  | .int k, r => ∃ n, r = [.val (.int k n)] ∧ (Lit.int k n).wf = true
  | .bool, r => ∃ b, r = [.val (.bool b)]
  | .nil, r => r = []
  | .cons s t, r => ∃ a b, r = a ++ b ∧ s.Row a ∧ t.Row b
  | .sl s, r => ∃ rows : List (List Dat), r = [.list rows] ∧ ∀ x ∈ rows, s.Row x
  | .arr n s, r => ∃ rows : List (List Dat), rows.length = n ∧ r = rows.flatten ∧ ∀ x ∈ rows, s.Row x
theorem Sh.Row.len : ∀ {s : Sh} {r : List Dat}, s.Row r → r.length = s.size
  | .int k, _, ⟨n, h, _⟩ => by rw [h]; rfl
  | .bool, _, ⟨b, h⟩ => by rw [h]; rfl
  | .nil, _, h => by rw [show _ = [] from h]; rfl
  | .cons s t, _, ⟨a, b, h, ha, hb⟩ => by rw [h, List.length_append, Sh.Row.len ha, Sh.Row.len hb]; rfl
  | .sl s, _, ⟨rows, h, _⟩ => by rw [h]; rfl
  | .arr n s, _, ⟨rows, h1, h2, h3⟩ => by
    rw [h2, List.length_flatten]
    have : ∀ l : List (List Dat), (∀ x ∈ l, s.Row x) → (l.map List.length).sum = l.length * s.size := by
      intro l
      induction l with
      | nil => intro _; simp
      | cons x l ih =>
        intro h
        rw [List.map_cons, List.sum_cons, ih fun y hy => h y (List.mem_cons_of_mem _ hy), Sh.Row.len (h x List.mem_cons_self), List.length_cons, Nat.add_mul, Nat.one_mul, Nat.add_comm]
    rw [this rows h3, h1]
    rfl
theorem Sh.Row.one : ∀ {s : Sh} {r : List Dat}, s.Row r → ∀ c ∈ r, c.one = true
  | .int k, _, ⟨n, h, _⟩, c, hc => by subst h; simp at hc; subst hc; rfl
  | .bool, _, ⟨b, h⟩, c, hc => by subst h; simp at hc; subst hc; rfl
  | .nil, _, h, c, hc => by rw [show _ = [] from h] at hc; simp at hc
  | .cons s t, _, ⟨a, b, h, ha, hb⟩, c, hc => by
    subst h
    rcases List.mem_append.1 hc with hc | hc
    · exact Sh.Row.one ha c hc
    · exact Sh.Row.one hb c hc
  | .sl s, _, ⟨rows, h, _⟩, c, hc => by subst h; simp at hc; subst hc; rfl
  | .arr n s, _, ⟨rows, h1, h2, h3⟩, c, hc => by
    subst h2
    obtain ⟨x, hx, hcx⟩ := List.mem_flatten.1 hc
    exact Sh.Row.one (h3 x hx) c hcx
def Sh.flds (P : Program) (ok : Sh → TypeId → Bool) : Sh → List Field → Nat → Bool
  | .nil, [], _ => true
  | .cons s r, f :: fs, o => f.offset == o && P.cellsOf f.type == s.size && ok s f.type && r.flds P ok fs (o + s.size)
  | _, _, _ => false
def Sh.okF (P : Program) : Nat → Sh → TypeId → Bool
  | 0, _, _ => false
  | n + 1, s, t => match P.underlying t with
    | some (.int k) => match s with
      | .int k' => decide (k' = k)
      | _ => false
    | some .bool => match s with
      | .bool => true
      | _ => false
    | some (.struct fs) => P.cellsOf t == s.size && s.flds P (Sh.okF P n) fs.toList 0
    | some (.slice e) => match s with
      | .sl s' => Nat.ble 1 s'.size && P.cellsOf e == s'.size && Sh.okF P n s' e
      | _ => false
    | some (.array m e) => match s with
      | .arr m' s' => m == m' && P.cellsOf e == s'.size && P.cellsOf t == m * s'.size && Sh.okF P n s' e
      | _ => false
    | _ => false
section
variable {H : Type} {enc : TypeId × Value → H} {P : Program} {w : World}
def Read (w : World) (s : Sh) (cs : List Value) : Prop := cs.length = s.size ∧ ∃ r, s.Row r ∧ ∀ (j : Nat) c u, r[j]? = some c → cs[j]? = some u → RepD (· < w.heap.size) w c u
def Opens (enc : TypeId × Value → H) (P : Program) (w : World) (s : Sh) (t : TypeId) : Prop := ∀ fuel cs x, DataW.trod enc P w 0 (fun _ => true) true fuel t cs = some x → Read w s cs
theorem read_list {α : Type} {R : Nat → α → Prop} : ∀ (n : Nat), (∀ i, i < n → ∃ x, R i x) → ∃ l : List α, l.length = n ∧ ∀ i x, l[i]? = some x → R i x
  | 0, _ => ⟨[], rfl, fun i x h => by simp at h⟩
  | n + 1, h => by
    obtain ⟨l, hl, hx⟩ := read_list n fun i hi => h i (by omega)
    obtain ⟨y, hy⟩ := h n (by omega)
    refine ⟨l ++ [y], by simp [hl], fun i x hi => ?_⟩
    rcases Nat.lt_or_ge i n with h1 | h1
    · rw [List.getElem?_append_left (by omega)] at hi
      exact hx i x hi
    · rw [List.getElem?_append_right (by omega)] at hi
      have : i = n := by
        have := (List.getElem?_eq_some_iff.1 hi).1
        simp at this
        omega
      subst this
      simp [hl] at hi
      subst hi
      exact hy
theorem opens_slice {s : Sh} {t e : TypeId} (ht : P.underlying t = some (.slice e)) (h0 : 0 < s.size) (hc : P.cellsOf e = s.size) (he : Opens enc P w s e) : Opens enc P w (.sl s) t := by
  intro fuel cs x h
  rcases open_slice ht h with ⟨h1, _⟩ | ⟨a, len, cap, m, n, D, Pl, hcs, hb, hl, hmx, hm, hx, hel⟩
  · subst h1
    refine ⟨rfl, [.list []], ⟨[], rfl, by simp⟩, fun j c u hj hu => ?_⟩
    match j with
    | 0 =>
      simp at hj hu
      subst hj; subst hu
      exact .list [] none 0 (fun _ _ => default) (by simp) (by decide) (by simp) (by simp) (by simp)
    | j + 1 => simp at hj
  · have hmc : m = cap := by simpa using hm
    obtain ⟨b, off, spot⟩ := a
    have cell : ∀ i, i < m → ∃ cs', cs'.length = s.size ∧ (∀ j u, cs'[j]? = some u → w.cell? (Addr.add ⟨b, off, spot⟩ (i * s.size + j)) = some u) ∧ Read w s cs' := by
      intro i hi
      obtain ⟨cs', h1, h2⟩ := hel i hi
      rw [hc] at h1
      obtain ⟨_, hlen, hat⟩ := World.cells?_some h1
      refine ⟨cs', hlen, fun j u hj => ?_, he _ _ _ h2⟩
      have hjl : j < s.size := by rw [← hlen]; exact (List.getElem?_eq_some_iff.1 hj).1
      rw [← Go.Deep.add_add, hat j hjl, hj]
    subst hcs
    refine ⟨rfl, ?_⟩
    rcases Nat.eq_zero_or_pos len with hm0 | hm0
    · subst hm0
      refine ⟨[.list []], ⟨[], rfl, by simp⟩, fun j c u hj hu => ?_⟩
      match j with
      | 0 =>
        simp at hj hu
        subst hj; subst hu
        exact .list [] _ cap (fun _ _ => default) (by simp) hmx (by simp) (by simp) (by simp)
      | j + 1 => simp at hj
    · have hsp : spot = none := by
        obtain ⟨cs', h1, h2, _⟩ := cell 0 (by omega)
        have h3 : cs'[0]? = some (cs'[0]'(by omega)) := List.getElem?_eq_getElem (by omega)
        have := World.cell?_spot (h2 0 _ h3)
        simpa [Addr.add] using this
      subst hsp
      have hb2 : b < w.heap.size := by
        obtain ⟨cs', h1, h2, _⟩ := cell 0 (by omega)
        have h3 : cs'[0]? = some (cs'[0]'(by omega)) := List.getElem?_eq_getElem (by omega)
        have h4 := World.block_lt_of_cell? w _ (h2 0 _ h3)
        simpa [Addr.add] using h4
      obtain ⟨rows, hrl, hrx⟩ := read_list (R := fun i (r : List Dat) => s.Row r ∧ ∀ (j : Nat) c, r[j]? = some c → ∃ u, w.cell? ⟨b, off + i * s.size + j, none⟩ = some u ∧ RepD (· < w.heap.size) w c u) len fun i hi => by
        obtain ⟨cs', h1, h2, h3, r, h4, h5⟩ := cell i (by omega)
        refine ⟨r, h4, fun j c hj => ?_⟩
        have hjl : j < s.size := by rw [← h4.len]; exact (List.getElem?_eq_some_iff.1 hj).1
        have hu : cs'[j]? = some (cs'[j]'(by omega)) := List.getElem?_eq_getElem (by omega)
        refine ⟨_, ?_, h5 j c _ hj hu⟩
        have := h2 j _ hu
        by_cases e0 : i * s.size + j = 0
        · rw [e0] at this
          rw [show off + i * s.size + j = off by omega]
          simpa [Addr.add] using this
        · simp only [Addr.add, if_neg e0] at this
          rwa [Nat.add_assoc]
      have hmem : ∀ r ∈ rows, s.Row r := fun r hr => by
        obtain ⟨i, hi⟩ := List.getElem?_of_mem hr
        exact (hrx i r hi).1
      refine ⟨[.list rows], ⟨rows, rfl, hmem⟩, fun j c u hj hu => ?_⟩
      match j with
      | 0 =>
        simp at hj hu
        subst hj; subst hu
        rw [← hrl]
        refine .list rows _ cap (fun i j => (w.cell? ⟨b, off + i * s.size + j, none⟩).getD default) (by omega) hmx (fun r hr => (hmem r hr).one) (fun _ => ⟨b, off, s.size, rfl, hb2, fun r hr => (hmem r hr).len, fun i j hi hj => ?_⟩) fun i j r c hr hc => ?_
        · have hri := hrx i _ (List.getElem?_eq_getElem hi)
          obtain ⟨u, hu, _⟩ := hri.2 j _ (List.getElem?_eq_getElem (by rw [hri.1.len]; exact hj))
          rw [hu]; rfl
        · obtain ⟨u, hu, hru⟩ := (hrx i r hr).2 j c hc
          rw [hu]; exact hru
      | j + 1 => simp at hj
theorem Read.app {s r : Sh} {a b : List Value} (ha : Read w s a) (hb : Read w r b) : Read w (.cons s r) (a ++ b) := by
  obtain ⟨h1, x, h2, h3⟩ := ha
  obtain ⟨k1, y, k2, k3⟩ := hb
  refine ⟨by rw [List.length_append, h1, k1]; rfl, x ++ y, ⟨x, y, rfl, h2, k2⟩, fun j c u hc hu => ?_⟩
  have hx := h2.len
  by_cases hj : j < x.length
  · rw [List.getElem?_append_left hj] at hc
    rw [List.getElem?_append_left (by omega)] at hu
    exact h3 j c u hc hu
  · rw [List.getElem?_append_right (by omega)] at hc
    rw [List.getElem?_append_right (by omega)] at hu
    rw [hx, ← h1] at hc
    exact k3 _ c u hc hu
theorem read_flds {ok : Sh → TypeId → Bool} {m : Nat} (hok : ∀ s t, ok s t = true → Opens enc P w s t) {cs : List Value} : ∀ (s : Sh) (fs : List Field) (o : Nat), s.flds P ok fs o = true → o + s.size = cs.length →
    (∀ f ∈ fs, ∃ y, DataW.trod enc P w 0 (fun _ => true) true m f.type ((cs.drop f.offset).take (P.cellsOf f.type)) = some y) → Read w s (cs.drop o)
  | .nil, [], o, _, hl, _ => by
    rw [List.drop_eq_nil_of_le (by simp only [Sh.size] at hl; omega)]
    exact ⟨rfl, [], rfl, by simp⟩
  | .cons s r, f :: fs, o, h, hl, hf => by
    simp only [Sh.flds, Bool.and_eq_true, beq_iff_eq] at h
    obtain ⟨⟨⟨h1, h2⟩, h3⟩, h4⟩ := h
    obtain ⟨y, hy⟩ := hf f List.mem_cons_self
    rw [h1, h2] at hy
    have k1 := hok s f.type h3 _ _ _ hy
    have k2 := read_flds hok r fs (o + s.size) h4 (by simp only [Sh.size] at hl; omega) fun g hg => hf g (List.mem_cons_of_mem _ hg)
    have := k1.app k2
    rwa [← List.drop_drop, List.take_append_drop] at this
  | .nil, _ :: _, _, h, _, _ => by simp [Sh.flds] at h
  | .cons _ _, [], _, h, _, _ => by simp [Sh.flds] at h
  | .int _, _, _, h, _, _ => by simp [Sh.flds] at h
  | .bool, _, _, h, _, _ => by simp [Sh.flds] at h
  | .sl _, _, _, h, _, _ => by simp [Sh.flds] at h
  | .arr _ _, _, _, h, _, _ => by simp [Sh.flds] at h
theorem read_arr {s : Sh} : ∀ (n : Nat) (cs : List Value), cs.length = n * s.size → (∀ i, i < n → Read w s ((cs.drop (i * s.size)).take s.size)) → Read w (.arr n s) cs
  | 0, cs, hl, _ => by
    have : cs = [] := List.eq_nil_of_length_eq_zero (by rw [hl, Nat.zero_mul])
    subst this
    exact ⟨by simp [Sh.size], [], ⟨[], rfl, rfl, by simp⟩, by simp⟩
  | n + 1, cs, hl, h => by
    have h0 := h 0 (by omega)
    rw [Nat.zero_mul, List.drop_zero] at h0
    have h1 := read_arr (s := s) n (cs.drop s.size) (by rw [List.length_drop, hl, Nat.add_mul]; omega) fun i hi => by
      have := h (i + 1) (by omega)
      rw [List.drop_drop]
      rwa [Nat.add_mul, Nat.one_mul, Nat.add_comm] at this
    obtain ⟨a1, a, a2, a3⟩ := h0
    obtain ⟨b1, b, ⟨rows, b2, b3, b4⟩, b5⟩ := h1
    refine ⟨hl, a ++ b, ⟨a :: rows, by simp [b2], by simp [b3], fun x hx => ?_⟩, fun j c u hc hu => ?_⟩
    · rcases List.mem_cons.1 hx with rfl | hx
      · exact a2
      · exact b4 x hx
    · have hx := a2.len
      rw [← List.take_append_drop s.size cs] at hu
      by_cases hj : j < a.length
      · rw [List.getElem?_append_left hj] at hc
        rw [List.getElem?_append_left (by omega)] at hu
        exact a3 j c u hc hu
      · rw [List.getElem?_append_right (by omega)] at hc
        rw [List.getElem?_append_right (by omega)] at hu
        rw [hx, ← a1] at hc
        exact b5 _ c u hc hu
theorem okF_opens : ∀ (n : Nat) (s : Sh) (t : TypeId), s.okF P n t = true → Opens enc P w s t
  | 0, s, t, h => by simp [Sh.okF] at h
  | n + 1, s, t, h => by
    unfold Sh.okF at h
    split at h
    · rename_i k hu
      split at h
      · rename_i k'
        obtain rfl := of_decide_eq_true h
        intro fuel cs x hx
        obtain ⟨m, rfl, _, hw⟩ := DataW.trod_int hu hx
        refine ⟨rfl, _, ⟨m, rfl, hw⟩, fun j c u hc hu => ?_⟩
        match j with
        | 0 => simp at hc hu; subst hc; subst hu; exact .val _ rfl
        | j + 1 => simp at hc
      · cases h
    · rename_i hu
      split at h
      · intro fuel cs x hx
        obtain ⟨m, rfl, _⟩ := DataW.trod_bool hu hx
        refine ⟨rfl, _, ⟨m, rfl⟩, fun j c u hc hu => ?_⟩
        match j with
        | 0 => simp at hc hu; subst hc; subst hu; exact .val _ rfl
        | j + 1 => simp at hc
      · cases h
    · rename_i fs hu
      simp only [Bool.and_eq_true, beq_iff_eq] at h
      intro fuel cs x hx
      obtain ⟨xs, m, _, _, hl, hxl, hf⟩ := DataW.trod_struct hu hx
      have := read_flds (okF_opens n) s fs.toList 0 h.2 (by rw [hl, h.1]; omega) (m := m) (cs := cs) fun f hf' => by
        obtain ⟨i, hi⟩ := List.getElem?_of_mem hf'
        have hi2 : fs[i]? = some f := by simpa using hi
        have hlt : i < fs.size := (Array.getElem?_eq_some_iff.1 hi2).1
        exact ⟨_, (hf i f hi2).trans (List.getElem?_eq_getElem (by omega))⟩
      rwa [List.drop_zero] at this
    · rename_i e hu
      split at h
      · rename_i s'
        simp only [Bool.and_eq_true, beq_iff_eq] at h
        exact opens_slice hu (Nat.le_of_ble_eq_true h.1.1) h.1.2 (okF_opens n s' e h.2)
      · cases h
    · rename_i m e hu
      split at h
      · rename_i m' s'
        simp only [Bool.and_eq_true, beq_iff_eq] at h
        obtain ⟨⟨⟨rfl, h2⟩, h3⟩, h4⟩ := h
        intro fuel cs x hx
        obtain ⟨xs, k, _, _, hl, hxl, hf⟩ := DataW.trod_array hu hx
        refine read_arr m cs (by rw [hl, h3]) fun i hi => ?_
        have := hf i hi
        rw [List.getElem?_eq_getElem (by omega), h2] at this
        exact okF_opens n s' e h4 _ _ _ this
      · cases h
    · cases h
def Sh.D : Sh → Dat → Prop
  | .int k, d => ∃ n, d = .val (.int k n) ∧ (Lit.int k n).wf = true
  | .bool, d => ∃ b, d = .val (.bool b)
  | .sl s, d => ∃ rows : List (List Dat), d = .list rows ∧ ∀ x ∈ rows, s.Row x
  | s, d => ∃ r, d = .agg r ∧ s.Row r
theorem one_eq' {u v : Value} (h : [u] = [v]) : u = v := by simpa using h
set_option maxRecDepth 100000 in
theorem open_sh (s : Sh) {n : Nat} {base : Nat} {t : TypeId} {v : Value} {d : DataW H} {p : List MemPlace} (hs : s.okF P n t = true) (hv : Value.okWide P w .any base t v) (h : DataW.Trod enc P w 0 (fun _ => true) true t v d p) :
    ∃ D, s.D D ∧ RepD (· < w.heap.size) w D v := by
  obtain ⟨fuel, hf⟩ := h
  have key := okF_opens (enc := enc) (w := w) n s t hs _ _ _ hf
  cases n with
  | zero => simp [Sh.okF] at hs
  | succ n =>
    unfold Sh.okF at hs
    have agg : ∀ cs, v = .agg cs → (s.D = fun d => ∃ r, d = .agg r ∧ s.Row r) → ∃ D, s.D D ∧ RepD (· < w.heap.size) w D v := fun ⟨cs⟩ e hD => by
      subst e
      obtain ⟨k1, r, k2, k3⟩ := key
      refine ⟨.agg r, by rw [hD]; exact ⟨r, rfl, k2⟩, .agg r _ ?_ k2.one fun i c u hc hu => k3 i c u hc (show cs[i]? = some u by simpa using hu)⟩
      rw [k2.len, ← k1]
      rfl
    split at hs
    · rename_i k hu
      split at hs
      · obtain ⟨m, rfl⟩ := okWide_int hu hv
        obtain ⟨k1, r, ⟨m', rfl, hw⟩, k3⟩ := key
        have := k3 0 _ _ rfl rfl
        exact ⟨_, ⟨m', rfl, hw⟩, this⟩
      · cases hs
    · rename_i hu
      split at hs
      · obtain ⟨m, rfl⟩ := okWide_bool hu hv
        obtain ⟨k1, r, ⟨m', rfl⟩, k3⟩ := key
        exact ⟨_, ⟨m', rfl⟩, k3 0 _ _ rfl rfl⟩
      · cases hs
    · rename_i fs hu
      obtain ⟨cs, e, _⟩ := okWide_struct hu hv
      simp only [Bool.and_eq_true] at hs
      refine agg cs e ?_
      cases s with
      | nil => rfl
      | cons => rfl
      | _ => simp [Sh.flds] at hs
    · rename_i e hu
      split at hs
      · obtain ⟨a, l, c, rfl⟩ := okWide_slice hu hv
        obtain ⟨k1, r, ⟨rows, rfl, hw⟩, k3⟩ := key
        exact ⟨_, ⟨rows, rfl, hw⟩, k3 0 _ _ rfl rfl⟩
      · cases hs
    · rename_i m e hu
      simp only [Value.okWide, hu] at hv
      obtain ⟨cs, e1, _⟩ := hv
      split at hs
      · exact agg cs e1 rfl
      · cases hs
    · cases hs
end
theorem args_later' {H : Type} {enc : TypeId × Value → H} {P : Program} {W W' : World} {T : TypeId → Prop} (K : Kids P T) (hz : ∀ t e, T t → P.underlying t = some (.slice e) → 0 < P.cellsOf e) {ts : List TypeId} {vs : List Value} {ds : List (DataW H)} {ps : List MemPlace}
    (hT : ∀ t ∈ ts, T t) (h : DataW.TrodAll enc P W 0 (fun _ => true) true ts vs ds ps) (hb : Below W.heap.size W W') {sp : Nat → Bool} (hs : ∀ p ∈ ps, sp p.block = true) : DataW.TrodAll enc P W' 0 sp true ts vs ds ps := by
  have carry : ∀ {ts : List TypeId} {vs : List Value} {ds : List (DataW H)} {ps : List MemPlace}, DataW.TrodAll enc P W 0 (fun _ => true) true ts vs ds ps → DataW.TrodAll enc P W' 0 (fun _ => true) true ts vs ds ps := by
    intro ts
    induction ts with
    | nil =>
      intro vs ds ps h
      obtain ⟨rfl, rfl, rfl⟩ := trodAll_nil h
      rfl
    | cons t ts ih =>
      intro vs ds ps h
      obtain ⟨v, vs1, d, ds1, a, b, rfl, rfl, rfl, ⟨n, h1⟩, h2⟩ := trodAll_cons h
      refine ⟨a, b, ⟨n, DataW.trod_carry n _ _ _ h1 fun p hp => ?_⟩, ih h2, rfl⟩
      have hlt := DataW.trod_lt n _ _ _ h1 p hp
      cases p with
      | cell bl off => exact hb.cell (p := ⟨bl, off, none⟩) hlt
      | map bl => exact hb.block bl hlt
  exact (carry h).respare K hz hT hs
theorem rows_of {α : Type} {f : α → List Dat} : ∀ {rows : List (List Dat)}, (∀ x ∈ rows, ∃ a, x = f a) → ∃ l : List α, rows = l.map f
  | [], _ => ⟨[], rfl⟩
  | x :: rows, h => by
    obtain ⟨a, rfl⟩ := h x List.mem_cons_self
    obtain ⟨l, rfl⟩ := rows_of fun y hy => h y (List.mem_cons_of_mem _ hy)
    exact ⟨a :: l, rfl⟩
theorem ints_in {d : Dat} (h : (Sh.sl (.int .i64)).D d) : ∃ l : List Int, d = .list (l.map fun x => [.val (.int .i64 x)]) := by
  obtain ⟨rows, rfl, h⟩ := h
  obtain ⟨l, rfl⟩ := rows_of (f := fun x : Int => [.val (.int .i64 x)]) fun x hx => by
    obtain ⟨n, rfl, _⟩ := h x hx
    exact ⟨n, rfl⟩
  exact ⟨l, rfl⟩
theorem intsW_in {k : IntKind} {d : Dat} (h : (Sh.sl (.int k)).D d) : ∃ l : List Int, d = .list (l.map fun x => [.val (.int k x)]) ∧ ∀ x ∈ l, (Lit.int k x).wf = true := by
  obtain ⟨rows, rfl, h⟩ := h
  obtain ⟨l, hl⟩ := rows_of (f := fun x : { x : Int // (Lit.int k x).wf = true } => [.val (.int k x.1)]) fun x hx => by
    obtain ⟨n, rfl, hn⟩ := h x hx
    exact ⟨⟨n, hn⟩, rfl⟩
  subst hl
  refine ⟨l.map (·.1), by rw [List.map_map]; rfl, fun x hx => ?_⟩
  obtain ⟨y, _, rfl⟩ := List.mem_map.1 hx
  exact y.2
theorem law_true {P : Program} {f : FuncId} {ds : List Dat} (h : ACall P f ds (.val (.bool true))) {W : World} {vs : Array Value} (hs : vs.size = ds.length) (hr : ∀ (i : Nat) d v, ds[i]? = some d → vs[i]? = some v → RepD (· < W.heap.size) W d v) :
    Calls P f vs W fun e w' => e = .returned (.bool true) ∧ Below W.heap.size W w' := by
  refine (h.calls (· < W.heap.size) W vs (fun _ h => h) hs hr).mono ?_
  rintro e w' ⟨v, rfl, hb, hv⟩
  cases hv
  exact ⟨rfl, hb⟩
theorem reps_nil {W : World} : ∀ (i : Nat) d v, ([] : List Dat)[i]? = some d → (#[] : Array Value)[i]? = some v → RepD (· < W.heap.size) W d v := fun i d v h => by simp at h
theorem reps_cons {W : World} {D : Dat} {ds : List Dat} {v : Value} {vs : List Value} (h : RepD (· < W.heap.size) W D v) (hr : ∀ (i : Nat) d v, ds[i]? = some d → (vs.toArray)[i]? = some v → RepD (· < W.heap.size) W d v) :
    ∀ (i : Nat) d u, (D :: ds)[i]? = some d → ((v :: vs).toArray)[i]? = some u → RepD (· < W.heap.size) W d u := fun i d u hd hu => by
  match i with
  | 0 => simp at hd hu; subst hd; subst hu; exact h
  | i + 1 => simp at hd hu; exact hr i d u hd (by simpa using hu)
end Go.Proofs.Ytjjoiihgpkhndaa.Eng


namespace Go.Proofs.Ytjjoiihgpkhndaa.Eng
open Go.RowKit
def shCst : Sh := .cons (.int .i64) (.cons (.cons (.int .i64) (.cons (.int .i64) .nil)) .nil)
theorem cst_in {r : List Dat} (h : shCst.Row r) : ∃ s : CSt, r = cRow s := by
  obtain ⟨_, _, rfl, ⟨a, rfl, _⟩, _, _, rfl, ⟨_, _, rfl, ⟨lo, rfl, _⟩, _, _, rfl, ⟨hi, rfl, _⟩, rfl⟩, rfl⟩ := h
  exact ⟨⟨a, lo, hi⟩, rfl⟩
theorem pair_in {d : Dat} (h : (Sh.sl shCst).D d) : ∃ l : List CSt, d = pairD l := by
  obtain ⟨rows, rfl, hr⟩ := h
  obtain ⟨l, rfl⟩ := rows_of fun x hx => cst_in (hr x hx)
  exact ⟨l, rfl⟩
theorem by_in {d : Dat} (h : (Sh.sl (.int .u16)).D d) : ∃ b : List Int, d = byD b ∧ ∀ x ∈ b, 0 ≤ x ∧ x ≤ 65535 := by
  obtain ⟨l, rfl, hl⟩ := intsW_in h
  refine ⟨l, rfl, fun x hx => ?_⟩
  have h1 := hl x hx
  simp only [Lit.wf, Bool.and_eq_true, decide_eq_true_eq] at h1
  have e1 : IntKind.u16.min = 0 := by decide
  have e2 : IntKind.u16.max = 65535 := by decide
  omega
end Go.Proofs.Ytjjoiihgpkhndaa.Eng

namespace Go.Proofs.Ytjjoiihgpkhndaa.crossFollow
open Go.ChangeShapes Go.WideShapes Go.ChangeAt Go.RowKit Go.Deep

theorem own : ownKnob Try.prog.godebug = none := by kernel_rfl
theorem kids : Kids Try.prog (· < Try.prog.types.size) := kids_rows (by kernel_rfl) (by kernel_rfl)
theorem full : ∀ t e, t < Try.prog.types.size → Try.prog.underlying t = some (.slice e) → 0 < Try.prog.cellsOf e := slices_full_of Try.prog (by kernel_rfl)
theorem rowed : ∀ t ∈ Try.f9.params.toList, t < Try.prog.types.size := of_decide_eq_true (by kernel_rfl)

set_option maxRecDepth 100000 in
set_option maxHeartbeats 1000000 in
theorem lifted (os : Os) (started : os.Started) (H : Type) (enc : TypeId × Value → H) :
    ReturnsInHanded {} Try.checked os 9 .any (Rows.crossFollowSpec.pre6 enc Try.prog Try.f9 Rows.crossFollowRow.domain false) (Rows.crossFollowSpec.post enc Try.prog Try.f9 false true false false) := by
  refine returnsInHanded_of_change (C := Try.checked) own started (by kernel_rfl) Try.func9
    (ChangeSpec.witness6 (enc := enc) (C := Try.checked) false ⟨#[], #[.slice none 0 0, .slice none 0 0], []⟩ 8 (by kernel_rfl) (by kernel_rfl) (by kernel_rfl) (by kernel_rfl)) ?_
  intro W base args ds gs before hval0 hW hcnd _
  have hval : ∀ (j : Nat) t v, Try.f9.params[j]? = some t → args[j]? = some v → Value.okWide Try.prog W .any base t v := hval0
  have hW' := hW
  obtain ⟨p, q, hA0, hV, rfl, hfz, hnd⟩ := hW
  have hA : DataW.TrodAll enc Try.prog W 0 (fun _ => true) true Try.f9.params.toList args.toList ds p := hA0
  have hAk := hA
  rw [Try.params9] at hA hval
  obtain ⟨v0, vs0, d0, ds0, a0, b0, e0, f0, rfl, h0, t0⟩ := trodAll_cons hA
  obtain ⟨v1, vs1, d1, ds1, a1, b1, e1, f1, rfl, h1, t1⟩ := trodAll_cons t0
  obtain ⟨en, fn, rfl⟩ := trodAll_nil t1
  subst en
  subst fn
  subst e1
  subst f1
  subst f0
  have ea : args = #[v0, v1] := by rw [← Array.toList_inj]; exact e0
  subst ea
  clear e0
  obtain ⟨rfl, rfl⟩ := trodVars_none hV
  clear hA0 hval0 hA
  simp only [List.append_nil] at hW' hAk
  have o0 := hval 0 _ _ rfl rfl
  have o1 := hval 1 _ _ rfl rfl
  clear hval
  obtain ⟨D0, s0, r0⟩ := Eng.open_sh (n := 9) (.sl Eng.shCst) (by kernel_rfl) o0 h0
  obtain ⟨D1, s1, r1⟩ := Eng.open_sh (n := 9) (.sl (.int .u16)) (by kernel_rfl) o1 h1
  obtain ⟨l, rfl⟩ := Eng.pair_in s0
  obtain ⟨b, rfl, hb⟩ := Eng.by_in s1
  refine Calls.mono (Eng.law_true (Eng.crossFollow_c hb) rfl (Eng.reps_cons r0 (Eng.reps_cons r1 Eng.reps_nil))) fun e W' ⟨he, hb⟩ => ?_
  subst he
  exact ⟨_, rfl, post_later (pv := []) hW' (List.append_nil _).symm (fun _ _ _ => (trodAll_cons_mk (shut_bool Try.underlying4 _) trodAll_mk0))
    (fun sp hsp => Eng.args_later' kids full rowed hAk hb hsp) (fun _ _ => rfl) (ok_one (by kernel_rfl) rfl (okWide_bool_mk Try.underlying4 _)) hb⟩

theorem over : Rows.crossFollowRow.holds Try.pinned (OpenSpec.ofChange Rows.crossFollowSpec) :=
  OpenClaim.holds_of_wide 9 Try.f9 rfl rfl rfl rfl rfl rfl rfl ⟨rfl, rfl, rfl, rfl, rfl⟩ rfl rfl rfl rfl rfl (by kernel_rfl) Try.func9 (by kernel_rfl)
    (of_decide_eq_true (by kernel_rfl)) (by unfold Func.isWrapper; first | (rw [if_pos (by decide +kernel)]; kernel_rfl) | (rw [if_neg (by decide +kernel)]; exact ⟨rfl, rfl⟩))
    (fun os started H enc _ => lifted os started H enc)

theorem proved : Rows.CrossFollowSaid := over
end Go.Proofs.Ytjjoiihgpkhndaa.crossFollow
