/-
  WarpBlades returns true, for every blade and blows: which blades are valid, how they are turned after blows, what blows cost, and which stations contradict each other, are what the definitions say, or the error. No condition.
-/
import Derived.Test.YtnhhlmikkmjenaaDm1
import Derived.Test.YtnhhlmikkmjenaaRows
import Derived.ProofKit
import Derived.OpenShut
import Derived.Below
import Derived.ChangeSame
import Derived.ReadAgain
import Derived.Deep.Slices
set_option linter.unusedSimpArgs false
set_option linter.unusedVariables false
/-
  Layer 2: package warp, what blows cost.
-/
namespace Go.Proofs.Ytnhhlmikkmjenaa.Eng
open Go.RowKit

set_option maxRecDepth 100000 in
set_option maxHeartbeats 8000000 in
theorem checkBlows_c (b : Blade) (l : List Int) : ACall Try.prog 18 [bladeD b, intL l] (.tup [iD (checkN b l), iD (checkErr b l)]) := by
  have ca := after_c b l
  by_cases h0 : blowsErr b b.most l = 0
  · have hb := blowsOk h0
    have ok := hb.ok
    have hlen := hb.len
    have hn2 := ok.n2
    have e1 : checkErr b l = if straightTo b l l.length = true then 0 else 18 := by rw [checkErr, if_neg (by simpa using h0)]
    rw [afterL, h0, if_pos rfl] at ca
    have cn := newBench_a ok
    obtain ⟨r, hr⟩ : ∃ r, r = (Dat.tup [iD (checkN b l), iD (checkErr b l)]) := ⟨_, rfl⟩
    rw [← hr]
    refine acallK tabOk Try.func18 rfl rfl (show 2 ≤ _ by decide) rfl fun _ => ?_; simp only [Try.ntmps18]
    repeat (first | (with_reducible refine AWp.seqK fun _ => ?_) | (with_reducible refine AWp.blockK fun _ => ?_) | (with_reducible refine KK.go ?_) | (refine AWp.reg tabOk ?_; simp [-getElem?_pos, z0, z1, z2, ]) | (refine AWp.condK fun _ _ => ?_; simp [-getElem?_pos, z0, z1, z2, ]) | (refine AWp.ret ?_; try simp only [thenP]) | (refine AWp.skip ?_; try simp only [thenP]) | (refine AWp.exit ?_; try simp only [thenP]) | (with_reducible refine AWp.scopeK fun _ => ?_) | (refine AWp.label ?_; try simp only [thenP]) | (with_reducible refine SS.go (fun _ h => by cases h) ?_; try simp only [blockP, thenP]) | (with_reducible refine BB.go ?_; simp only [blockP, thenP, if_true, if_false, reduceIte]) | (refine AWp.draws tabOk (by kernel_rfl) (by kernel_rfl) ?_; simp [-getElem?_pos, z0, z1, z2, ]) | (with_reducible refine And.intro (show okLog _ _ = true from by kernel_rfl) ?_))
    (first | refine Exec0.call [] ca ?_ rfl ?_ ?_ | refine Exec.call [] ca ?_ rfl ?_ ?_); (focus simp [-getElem?_pos, ]); (focus simp [-getElem?_pos, z0, z1, z2, ]); simp [-getElem?_pos, z0, z1, z2, ]
    repeat (first | (with_reducible refine AWp.seqK fun _ => ?_) | (with_reducible refine AWp.blockK fun _ => ?_) | (with_reducible refine KK.go ?_) | (refine AWp.reg tabOk ?_; simp [-getElem?_pos, z0, z1, z2, ]) | (refine AWp.condK fun _ _ => ?_; simp [-getElem?_pos, z0, z1, z2, ]) | (refine AWp.ret ?_; try simp only [thenP]) | (refine AWp.skip ?_; try simp only [thenP]) | (refine AWp.exit ?_; try simp only [thenP]) | (with_reducible refine AWp.scopeK fun _ => ?_) | (refine AWp.label ?_; try simp only [thenP]) | (with_reducible refine SS.go (fun _ h => by cases h) ?_; try simp only [blockP, thenP]) | (with_reducible refine BB.go ?_; simp only [blockP, thenP, if_true, if_false, reduceIte]) | (refine AWp.draws tabOk (by kernel_rfl) (by kernel_rfl) ?_; simp [-getElem?_pos, z0, z1, z2, ]) | (with_reducible refine And.intro (show okLog _ _ = true from by kernel_rfl) ?_))
    refine Exec0.callM [] cn (by simp [-getElem?_pos, ]) (by simp [-getElem?_pos, z0, z1, z2, ]) (by simp [or_imp, forall_and, ]) ⟨by rfl, by decide, by rfl⟩ ?_; simp [-getElem?_pos, z0, z1, z2, ]
    repeat (first | (with_reducible refine AWp.seqK fun _ => ?_) | (with_reducible refine AWp.blockK fun _ => ?_) | (with_reducible refine KK.go ?_) | (refine AWp.reg tabOk ?_; simp [-getElem?_pos, z0, z1, z2, ]) | (refine AWp.condK fun _ _ => ?_; simp [-getElem?_pos, z0, z1, z2, ]) | (refine AWp.ret ?_; try simp only [thenP]) | (refine AWp.skip ?_; try simp only [thenP]) | (refine AWp.exit ?_; try simp only [thenP]) | (with_reducible refine AWp.scopeK fun _ => ?_) | (refine AWp.label ?_; try simp only [thenP]) | (with_reducible refine SS.go (fun _ h => by cases h) ?_; try simp only [blockP, thenP]) | (with_reducible refine BB.go ?_; simp only [blockP, thenP, if_true, if_false, reduceIte]) | (refine AWp.draws tabOk (by kernel_rfl) (by kernel_rfl) ?_; simp [-getElem?_pos, z0, z1, z2, ]) | (with_reducible refine And.intro (show okLog _ _ = true from by kernel_rfl) ?_))
    refine AWp.loopK (ι := { k : Nat // k ≤ l.length ∧ straightTo b l k = true }) (n := 2) (fun k => [(1, .d (intL l)), (2, .ptr 0 0 0), (6, .d (intL (turnTo b l l.length))), (8, .ptr 1 0 0), (9, .d (iD (costTo b l k.1))), (24, .d (.list (stnRows b.st))), (25, .d (iD l.length)), (26, .d (iD k.1))]) (fun _ => [(0, .box 24 [.d (.list (stnRows b.st)), .d (iD b.most)] false), (1, benchV b (.d (.list (rgRows (tubesN b b.st.length)))) (bearsF 1) .nilS)]) (fun k => l.length - k.1) ⟨0, Nat.zero_le _, rfl⟩ [0, 14] ?_ ?_
    · refine ⟨by rfl, by simp [costTo, hlen], by simp [or_imp, forall_and, costTo, hlen] <;> (try (intro _hne; simp [_hne])), by decide⟩
    rintro ⟨k, hk, hall⟩ kk
    have w1 : IntKind.i64.wrap ((k : Int) + 1) = (k : Int) + 1 := wrap64_in (by omega)
    by_cases hlt : k < l.length
    · obtain ⟨x, hx⟩ : ∃ x, l[k]? = some x := ⟨_, List.getElem?_eq_getElem hlt⟩
      obtain ⟨s, hs⟩ : ∃ s, b.st[k]? = some s := ⟨_, List.getElem?_eq_getElem (by omega)⟩
      have ht := turnTo_get (l := l) hs l.length hlt
      have hsa : straightAt b l k = inR (s.angle + sumTo l (k + 1)) s.lo s.hi := by simp [straightAt, hs]
      generalize s.angle + sumTo l (k + 1) = v at *
      rcases g : inR v s.lo s.hi
      · have hst := straightTo_not (hsa.trans g) l.length hlt
        have er : checkErr b l = 18 := by rw [e1, if_neg (by simp [hst])]
        have hr' : r = .tup [iD 0, iD 18] := by rw [hr, checkN, er, if_neg (by decide)]
        by_cases g1 : v < s.lo
        · repeat (first | (with_reducible refine AWp.seqK fun _ => ?_) | (with_reducible refine AWp.blockK fun _ => ?_) | (with_reducible refine KK.go ?_) | (refine AWp.reg tabOk ?_; simp [-getElem?_pos, z0, z1, z2, hlt, hs, hx, ht, g1]) | (refine AWp.condK fun _ _ => ?_; simp [-getElem?_pos, z0, z1, z2, hlt, hs, hx, ht, g1]) | (refine AWp.ret ?_; try simp only [thenP]) | (refine AWp.skip ?_; try simp only [thenP]) | (refine AWp.exit ?_; try simp only [thenP]) | (with_reducible refine AWp.scopeK fun _ => ?_) | (refine AWp.label ?_; try simp only [thenP]) | (with_reducible refine SS.go (fun _ h => by cases h) ?_; try simp only [blockP, thenP]) | (with_reducible refine BB.go ?_; simp only [blockP, thenP, if_true, if_false, reduceIte]) | (refine AWp.draws tabOk (by kernel_rfl) (by kernel_rfl) ?_; simp [-getElem?_pos, z0, z1, z2, hlt, hs, hx, ht, g1]) | (with_reducible refine And.intro (show okLog _ _ = true from by kernel_rfl) ?_))
          (first | refine RR.ret ?_ | refine RR.normal ?_); simp [hr']
        · have g2 : s.hi < v := by simp [inR] at g; omega
          repeat (first | (with_reducible refine AWp.seqK fun _ => ?_) | (with_reducible refine AWp.blockK fun _ => ?_) | (with_reducible refine KK.go ?_) | (refine AWp.reg tabOk ?_; simp [-getElem?_pos, z0, z1, z2, hlt, hs, hx, ht, g1, g2]) | (refine AWp.condK fun _ _ => ?_; simp [-getElem?_pos, z0, z1, z2, hlt, hs, hx, ht, g1, g2]) | (refine AWp.ret ?_; try simp only [thenP]) | (refine AWp.skip ?_; try simp only [thenP]) | (refine AWp.exit ?_; try simp only [thenP]) | (with_reducible refine AWp.scopeK fun _ => ?_) | (refine AWp.label ?_; try simp only [thenP]) | (with_reducible refine SS.go (fun _ h => by cases h) ?_; try simp only [blockP, thenP]) | (with_reducible refine BB.go ?_; simp only [blockP, thenP, if_true, if_false, reduceIte]) | (refine AWp.draws tabOk (by kernel_rfl) (by kernel_rfl) ?_; simp [-getElem?_pos, z0, z1, z2, hlt, hs, hx, ht, g1, g2]) | (with_reducible refine And.intro (show okLog _ _ = true from by kernel_rfl) ?_))
          (first | refine RR.ret ?_ | refine RR.normal ?_); simp [hr']
      · have g0 : s.lo ≤ v ∧ v ≤ s.hi := by simpa [inR] using g
        have g1 : ¬ v < s.lo := by omega
        have g2 : ¬ s.hi < v := by omega
        have hall2 : straightTo b l (k + 1) = true := by simp [straightTo, hall, hsa, g]
        have hxb := hb.all2 x (List.mem_of_getElem? hx)
        have cp := price_c ok hs hxb
        have h1 := absI_bound hxb
        have h2 := ok.stn hs
        have h3 : absI x * s.hard ≤ 200 * 9 := Int.mul_le_mul h1.2 (by omega) (by omega) (by omega)
        have h4 : 0 ≤ absI x * s.hard := Int.mul_nonneg h1.1 (by omega)
        have h5 := costTo_bound ok hb.all2 k
        have w3 : IntKind.i64.wrap (costTo b l k + absI x * s.hard) = costTo b l (k + 1) := by rw [costTo_succ hs hx]; exact wrap64_in (by omega)
        repeat (first | (with_reducible refine AWp.seqK fun _ => ?_) | (with_reducible refine AWp.blockK fun _ => ?_) | (with_reducible refine KK.go ?_) | (refine AWp.reg tabOk ?_; simp [-getElem?_pos, z0, z1, z2, hlt, hs, hx, ht, g1, g2]) | (refine AWp.condK fun _ _ => ?_; simp [-getElem?_pos, z0, z1, z2, hlt, hs, hx, ht, g1, g2]) | (refine AWp.ret ?_; try simp only [thenP]) | (refine AWp.skip ?_; try simp only [thenP]) | (refine AWp.exit ?_; try simp only [thenP]) | (with_reducible refine AWp.scopeK fun _ => ?_) | (refine AWp.label ?_; try simp only [thenP]) | (with_reducible refine SS.go (fun _ h => by cases h) ?_; try simp only [blockP, thenP]) | (with_reducible refine BB.go ?_; simp only [blockP, thenP, if_true, if_false, reduceIte]) | (refine AWp.draws tabOk (by kernel_rfl) (by kernel_rfl) ?_; simp [-getElem?_pos, z0, z1, z2, hlt, hs, hx, ht, g1, g2]) | (with_reducible refine And.intro (show okLog _ _ = true from by kernel_rfl) ?_))
        refine Exec0.callM [1] cp (by simp [-getElem?_pos, ]) (by simp [-getElem?_pos, z0, z1, z2, ]) (by simp [or_imp, forall_and, ]) ⟨by rfl, by decide, by rfl⟩ ?_; simp [-getElem?_pos, z0, z1, z2, ]
        repeat (first | (with_reducible refine AWp.seqK fun _ => ?_) | (with_reducible refine AWp.blockK fun _ => ?_) | (with_reducible refine KK.go ?_) | (refine AWp.reg tabOk ?_; simp [-getElem?_pos, z0, z1, z2, w1, w3]) | (refine AWp.condK fun _ _ => ?_; simp [-getElem?_pos, z0, z1, z2, w1, w3]) | (refine AWp.ret ?_; try simp only [thenP]) | (refine AWp.skip ?_; try simp only [thenP]) | (refine AWp.exit ?_; try simp only [thenP]) | (with_reducible refine AWp.scopeK fun _ => ?_) | (refine AWp.label ?_; try simp only [thenP]) | (with_reducible refine SS.go (fun _ h => by cases h) ?_; try simp only [blockP, thenP]) | (with_reducible refine BB.go ?_; simp only [blockP, thenP, if_true, if_false, reduceIte]) | (refine AWp.draws tabOk (by kernel_rfl) (by kernel_rfl) ?_; simp [-getElem?_pos, z0, z1, z2, w1, w3]) | (with_reducible refine And.intro (show okLog _ _ = true from by kernel_rfl) ?_))
        refine LL.go ⟨k + 1, hlt, hall2⟩ [0, 1] ⟨by rfl, by simp [], by simp [or_imp, forall_and, ] <;> (try (intro _hne; simp [_hne])), by decide⟩ ?_
        simp; omega
    · obtain rfl : k = l.length := by omega
      have er : checkErr b l = 0 := by rw [e1, if_pos hall]
      have hr' : r = .tup [iD (costTo b l l.length), iD 0] := by rw [hr, checkN, er, if_pos rfl]
      repeat (first | (with_reducible refine AWp.seqK fun _ => ?_) | (with_reducible refine AWp.blockK fun _ => ?_) | (with_reducible refine KK.go ?_) | (refine AWp.reg tabOk ?_; simp [-getElem?_pos, z0, z1, z2, hlt]) | (refine AWp.condK fun _ _ => ?_; simp [-getElem?_pos, z0, z1, z2, hlt]) | (refine AWp.ret ?_; try simp only [thenP]) | (refine AWp.skip ?_; try simp only [thenP]) | (refine AWp.exit ?_; try simp only [thenP]) | (with_reducible refine AWp.scopeK fun _ => ?_) | (refine AWp.label ?_; try simp only [thenP]) | (with_reducible refine SS.go (fun _ h => by cases h) ?_; try simp only [blockP, thenP]) | (with_reducible refine BB.go ?_; simp only [blockP, thenP, if_true, if_false, reduceIte]) | (refine AWp.draws tabOk (by kernel_rfl) (by kernel_rfl) ?_; simp [-getElem?_pos, z0, z1, z2, hlt]) | (with_reducible refine And.intro (show okLog _ _ = true from by kernel_rfl) ?_))
      (first | refine RR.ret ?_ | refine RR.normal ?_); simp [hr']
  · have er : checkErr b l = blowsErr b b.most l := if_pos h0
    have hr' : checkN b l = 0 := by rw [checkN, er, if_neg h0]
    rw [afterL, if_neg h0] at ca
    rw [hr', er]
    generalize blowsErr b b.most l = e at *
    refine acallK tabOk Try.func18 rfl rfl (show 2 ≤ _ by decide) rfl fun _ => ?_; simp only [Try.ntmps18]
    repeat (first | (with_reducible refine AWp.seqK fun _ => ?_) | (with_reducible refine AWp.blockK fun _ => ?_) | (with_reducible refine KK.go ?_) | (refine AWp.reg tabOk ?_; simp [-getElem?_pos, z0, z1, z2, ]) | (refine AWp.condK fun _ _ => ?_; simp [-getElem?_pos, z0, z1, z2, ]) | (refine AWp.ret ?_; try simp only [thenP]) | (refine AWp.skip ?_; try simp only [thenP]) | (refine AWp.exit ?_; try simp only [thenP]) | (with_reducible refine AWp.scopeK fun _ => ?_) | (refine AWp.label ?_; try simp only [thenP]) | (with_reducible refine SS.go (fun _ h => by cases h) ?_; try simp only [blockP, thenP]) | (with_reducible refine BB.go ?_; simp only [blockP, thenP, if_true, if_false, reduceIte]) | (refine AWp.draws tabOk (by kernel_rfl) (by kernel_rfl) ?_; simp [-getElem?_pos, z0, z1, z2, ]) | (with_reducible refine And.intro (show okLog _ _ = true from by kernel_rfl) ?_))
    (first | refine Exec0.call [] ca ?_ rfl ?_ ?_ | refine Exec.call [] ca ?_ rfl ?_ ?_); (focus simp [-getElem?_pos, ]); (focus simp [-getElem?_pos, z0, z1, z2, ]); simp [-getElem?_pos, z0, z1, z2, ]
    repeat (first | (with_reducible refine AWp.seqK fun _ => ?_) | (with_reducible refine AWp.blockK fun _ => ?_) | (with_reducible refine KK.go ?_) | (refine AWp.reg tabOk ?_; simp [-getElem?_pos, z0, z1, z2, h0]) | (refine AWp.condK fun _ _ => ?_; simp [-getElem?_pos, z0, z1, z2, h0]) | (refine AWp.ret ?_; try simp only [thenP]) | (refine AWp.skip ?_; try simp only [thenP]) | (refine AWp.exit ?_; try simp only [thenP]) | (with_reducible refine AWp.scopeK fun _ => ?_) | (refine AWp.label ?_; try simp only [thenP]) | (with_reducible refine SS.go (fun _ h => by cases h) ?_; try simp only [blockP, thenP]) | (with_reducible refine BB.go ?_; simp only [blockP, thenP, if_true, if_false, reduceIte]) | (refine AWp.draws tabOk (by kernel_rfl) (by kernel_rfl) ?_; simp [-getElem?_pos, z0, z1, z2, h0]) | (with_reducible refine And.intro (show okLog _ _ = true from by kernel_rfl) ?_))
    (first | refine RR.ret ?_ | refine RR.normal ?_); simp []
end Go.Proofs.Ytnhhlmikkmjenaa.Eng

/-
  Layer 2: the law WarpBlades.
-/
namespace Go.Proofs.Ytnhhlmikkmjenaa.Eng
open Go.RowKit

theorem great_c (b : Blade) : ACall Try.prog 14 [bladeD b] (bD (decide (30 < b.st.length))) := by
  by_cases g : 30 < b.st.length
  · rw [decide_eq_true g]
    have g' : (30 : Int) < b.st.length := by omega
    refine acallK tabOk Try.func14 rfl rfl (show 1 ≤ _ by decide) rfl fun _ => ?_; simp only [Try.ntmps14]
    repeat (first | (with_reducible refine AWp.seqK fun _ => ?_) | (with_reducible refine AWp.blockK fun _ => ?_) | (with_reducible refine KK.go ?_) | (refine AWp.reg tabOk ?_; simp [-getElem?_pos, z0, z1, z2, g, g']) | (refine AWp.condK fun _ _ => ?_; simp [-getElem?_pos, z0, z1, z2, g, g']) | (refine AWp.ret ?_; try simp only [thenP]) | (refine AWp.skip ?_; try simp only [thenP]) | (refine AWp.exit ?_; try simp only [thenP]) | (with_reducible refine AWp.scopeK fun _ => ?_) | (refine AWp.label ?_; try simp only [thenP]) | (with_reducible refine SS.go (fun _ h => by cases h) ?_; try simp only [blockP, thenP]) | (with_reducible refine BB.go ?_; simp only [blockP, thenP, if_true, if_false, reduceIte]) | (refine AWp.draws tabOk (by kernel_rfl) (by kernel_rfl) ?_; simp [-getElem?_pos, z0, z1, z2, g, g']) | (with_reducible refine And.intro (show okLog _ _ = true from by kernel_rfl) ?_))
    (first | refine RR.ret ?_ | refine RR.normal ?_); simp []
  · rw [decide_eq_false g]
    have g' : ¬ (30 : Int) < b.st.length := by omega
    refine acallK tabOk Try.func14 rfl rfl (show 1 ≤ _ by decide) rfl fun _ => ?_; simp only [Try.ntmps14]
    repeat (first | (with_reducible refine AWp.seqK fun _ => ?_) | (with_reducible refine AWp.blockK fun _ => ?_) | (with_reducible refine KK.go ?_) | (refine AWp.reg tabOk ?_; simp [-getElem?_pos, z0, z1, z2, g, g']) | (refine AWp.condK fun _ _ => ?_; simp [-getElem?_pos, z0, z1, z2, g, g']) | (refine AWp.ret ?_; try simp only [thenP]) | (refine AWp.skip ?_; try simp only [thenP]) | (refine AWp.exit ?_; try simp only [thenP]) | (with_reducible refine AWp.scopeK fun _ => ?_) | (refine AWp.label ?_; try simp only [thenP]) | (with_reducible refine SS.go (fun _ h => by cases h) ?_; try simp only [blockP, thenP]) | (with_reducible refine BB.go ?_; simp only [blockP, thenP, if_true, if_false, reduceIte]) | (refine AWp.draws tabOk (by kernel_rfl) (by kernel_rfl) ?_; simp [-getElem?_pos, z0, z1, z2, g, g']) | (with_reducible refine And.intro (show okLog _ _ = true from by kernel_rfl) ?_))
    (first | refine RR.ret ?_ | refine RR.normal ?_); simp []
set_option maxRecDepth 100000 in
set_option maxHeartbeats 4000000 in
theorem longs_same (l : List Int) (hl : l.length ≤ 1000000) : ACall Try.prog 24 [intL l, intL l] (bD true) := by
  refine acallK tabOk Try.func24 rfl rfl (show 2 ≤ _ by decide) rfl fun _ => ?_; simp only [Try.ntmps24]
  repeat (first | (with_reducible refine AWp.seqK fun _ => ?_) | (with_reducible refine AWp.blockK fun _ => ?_) | (with_reducible refine KK.go ?_) | (refine AWp.reg tabOk ?_; simp [-getElem?_pos, z0, z1, z2, ]) | (refine AWp.condK fun _ _ => ?_; simp [-getElem?_pos, z0, z1, z2, ]) | (refine AWp.ret ?_; try simp only [thenP]) | (refine AWp.skip ?_; try simp only [thenP]) | (refine AWp.exit ?_; try simp only [thenP]) | (with_reducible refine AWp.scopeK fun _ => ?_) | (refine AWp.label ?_; try simp only [thenP]) | (with_reducible refine SS.go (fun _ h => by cases h) ?_; try simp only [blockP, thenP]) | (with_reducible refine BB.go ?_; simp only [blockP, thenP, if_true, if_false, reduceIte]) | (refine AWp.draws tabOk (by kernel_rfl) (by kernel_rfl) ?_; simp [-getElem?_pos, z0, z1, z2, ]) | (with_reducible refine And.intro (show okLog _ _ = true from by kernel_rfl) ?_))
  refine AWp.loopK (ι := { k : Nat // k ≤ l.length }) (n := 0) (fun k => [(0, .d (intL l)), (1, .d (intL l)), (5, .d (iD k.1))]) (fun _ => []) (fun k => l.length - k.1) ⟨0, Nat.zero_le _⟩ [] ?_ ?_
  · refine ⟨by rfl, by simp [], by simp [or_imp, forall_and, ] <;> (try (intro _hne; simp [_hne])), by decide⟩
  rintro ⟨k, hk⟩ kk
  have w1 : IntKind.i64.wrap ((k : Int) + 1) = (k : Int) + 1 := wrap64_in (by omega)
  by_cases hlt : k < l.length
  · obtain ⟨x, hx⟩ : ∃ x, l[k]? = some x := ⟨_, List.getElem?_eq_getElem hlt⟩
    repeat (first | (with_reducible refine AWp.seqK fun _ => ?_) | (with_reducible refine AWp.blockK fun _ => ?_) | (with_reducible refine KK.go ?_) | (refine AWp.reg tabOk ?_; simp [-getElem?_pos, z0, z1, z2, hlt, hx, w1]) | (refine AWp.condK fun _ _ => ?_; simp [-getElem?_pos, z0, z1, z2, hlt, hx, w1]) | (refine AWp.ret ?_; try simp only [thenP]) | (refine AWp.skip ?_; try simp only [thenP]) | (refine AWp.exit ?_; try simp only [thenP]) | (with_reducible refine AWp.scopeK fun _ => ?_) | (refine AWp.label ?_; try simp only [thenP]) | (with_reducible refine SS.go (fun _ h => by cases h) ?_; try simp only [blockP, thenP]) | (with_reducible refine BB.go ?_; simp only [blockP, thenP, if_true, if_false, reduceIte]) | (refine AWp.draws tabOk (by kernel_rfl) (by kernel_rfl) ?_; simp [-getElem?_pos, z0, z1, z2, hlt, hx, w1]) | (with_reducible refine And.intro (show okLog _ _ = true from by kernel_rfl) ?_))
    refine LL.go ⟨k + 1, hlt⟩ [] ⟨by rfl, by simp [], by simp [or_imp, forall_and, ] <;> (try (intro _hne; simp [_hne])), by decide⟩ ?_
    simp; omega
  · obtain rfl : k = l.length := by omega
    repeat (first | (with_reducible refine AWp.seqK fun _ => ?_) | (with_reducible refine AWp.blockK fun _ => ?_) | (with_reducible refine KK.go ?_) | (refine AWp.reg tabOk ?_; simp [-getElem?_pos, z0, z1, z2, hlt]) | (refine AWp.condK fun _ _ => ?_; simp [-getElem?_pos, z0, z1, z2, hlt]) | (refine AWp.ret ?_; try simp only [thenP]) | (refine AWp.skip ?_; try simp only [thenP]) | (refine AWp.exit ?_; try simp only [thenP]) | (with_reducible refine AWp.scopeK fun _ => ?_) | (refine AWp.label ?_; try simp only [thenP]) | (with_reducible refine SS.go (fun _ h => by cases h) ?_; try simp only [blockP, thenP]) | (with_reducible refine BB.go ?_; simp only [blockP, thenP, if_true, if_false, reduceIte]) | (refine AWp.draws tabOk (by kernel_rfl) (by kernel_rfl) ?_; simp [-getElem?_pos, z0, z1, z2, hlt]) | (with_reducible refine And.intro (show okLog _ _ = true from by kernel_rfl) ?_))
    (first | refine RR.ret ?_ | refine RR.normal ?_); simp []
theorem clashD_tup (b : Blade) : ∃ p q e : Int, clashD b = .tup [iD p, iD q, iD e] := by
  unfold clashD
  split
  · split
    · exact ⟨_, _, _, rfl⟩
    · exact ⟨_, _, _, rfl⟩
  · exact ⟨_, _, _, rfl⟩
theorem afterL_len (b : Blade) (l : List Int) : (afterL b l).length ≤ l.length := by
  unfold afterL
  split
  · rw [turnTo_len]; exact Nat.le_refl _
  · simp
set_option maxRecDepth 100000 in
set_option maxHeartbeats 8000000 in
theorem warpBlades_c (hw : ACall Try.prog 15 [] (.val (.bool true))) (b : Blade) (l : List Int) : ACall Try.prog 3 [bladeD b, intL l] (bD true) := by
  have cg := great_c b
  have c1 := after_c b l
  have c2 := refAfter_c b l
  have c3 := checkBlows_c b l
  have c4 := refCheckBlows_c b l
  have c5 := clashP_c b
  have c6 := refClash_c b
  have c7 := checkBlade_c b
  have c8 := refCheckBlade_c b
  have hal := afterL_len b l
  obtain ⟨p, q, e, hpq⟩ := clashD_tup b
  rw [hpq] at c5 c6
  by_cases g : 30 < b.st.length
  · rw [decide_eq_true g] at cg
    refine acallK tabOk Try.func3 rfl rfl (show 2 ≤ _ by decide) rfl fun _ => ?_; simp only [Try.ntmps3]
    repeat (first | (with_reducible refine AWp.seqK fun _ => ?_) | (with_reducible refine AWp.blockK fun _ => ?_) | (with_reducible refine KK.go ?_) | (refine AWp.reg tabOk ?_; simp [-getElem?_pos, z0, z1, z2, ]) | (refine AWp.condK fun _ _ => ?_; simp [-getElem?_pos, z0, z1, z2, ]) | (refine AWp.ret ?_; try simp only [thenP]) | (refine AWp.skip ?_; try simp only [thenP]) | (refine AWp.exit ?_; try simp only [thenP]) | (with_reducible refine AWp.scopeK fun _ => ?_) | (refine AWp.label ?_; try simp only [thenP]) | (with_reducible refine SS.go (fun _ h => by cases h) ?_; try simp only [blockP, thenP]) | (with_reducible refine BB.go ?_; simp only [blockP, thenP, if_true, if_false, reduceIte]) | (refine AWp.draws tabOk (by kernel_rfl) (by kernel_rfl) ?_; simp [-getElem?_pos, z0, z1, z2, ]) | (with_reducible refine And.intro (show okLog _ _ = true from by kernel_rfl) ?_))
    (first | refine Exec0.call [] cg ?_ rfl ?_ ?_ | refine Exec.call [] cg ?_ rfl ?_ ?_); (focus simp [-getElem?_pos, ]); (focus simp [-getElem?_pos, z0, z1, z2, ]); simp [-getElem?_pos, z0, z1, z2, ]
    repeat (first | (with_reducible refine AWp.seqK fun _ => ?_) | (with_reducible refine AWp.blockK fun _ => ?_) | (with_reducible refine KK.go ?_) | (refine AWp.reg tabOk ?_; simp [-getElem?_pos, z0, z1, z2, ]) | (refine AWp.condK fun _ _ => ?_; simp [-getElem?_pos, z0, z1, z2, ]) | (refine AWp.ret ?_; try simp only [thenP]) | (refine AWp.skip ?_; try simp only [thenP]) | (refine AWp.exit ?_; try simp only [thenP]) | (with_reducible refine AWp.scopeK fun _ => ?_) | (refine AWp.label ?_; try simp only [thenP]) | (with_reducible refine SS.go (fun _ h => by cases h) ?_; try simp only [blockP, thenP]) | (with_reducible refine BB.go ?_; simp only [blockP, thenP, if_true, if_false, reduceIte]) | (refine AWp.draws tabOk (by kernel_rfl) (by kernel_rfl) ?_; simp [-getElem?_pos, z0, z1, z2, ]) | (with_reducible refine And.intro (show okLog _ _ = true from by kernel_rfl) ?_))
    (first | refine Exec0.call [] hw ?_ rfl ?_ ?_ | refine Exec.call [] hw ?_ rfl ?_ ?_); (focus simp [-getElem?_pos, ]); (focus simp [-getElem?_pos, z0, z1, z2, ]); simp [-getElem?_pos, z0, z1, z2, ]
    repeat (first | (with_reducible refine AWp.seqK fun _ => ?_) | (with_reducible refine AWp.blockK fun _ => ?_) | (with_reducible refine KK.go ?_) | (refine AWp.reg tabOk ?_; simp [-getElem?_pos, z0, z1, z2, ]) | (refine AWp.condK fun _ _ => ?_; simp [-getElem?_pos, z0, z1, z2, ]) | (refine AWp.ret ?_; try simp only [thenP]) | (refine AWp.skip ?_; try simp only [thenP]) | (refine AWp.exit ?_; try simp only [thenP]) | (with_reducible refine AWp.scopeK fun _ => ?_) | (refine AWp.label ?_; try simp only [thenP]) | (with_reducible refine SS.go (fun _ h => by cases h) ?_; try simp only [blockP, thenP]) | (with_reducible refine BB.go ?_; simp only [blockP, thenP, if_true, if_false, reduceIte]) | (refine AWp.draws tabOk (by kernel_rfl) (by kernel_rfl) ?_; simp [-getElem?_pos, z0, z1, z2, ]) | (with_reducible refine And.intro (show okLog _ _ = true from by kernel_rfl) ?_))
    (first | refine RR.ret ?_ | refine RR.normal ?_); simp []
  · rw [decide_eq_false g] at cg
    by_cases g2 : 40 < l.length
    · have g2' : (40 : Int) < l.length := by omega
      refine acallK tabOk Try.func3 rfl rfl (show 2 ≤ _ by decide) rfl fun _ => ?_; simp only [Try.ntmps3]
      repeat (first | (with_reducible refine AWp.seqK fun _ => ?_) | (with_reducible refine AWp.blockK fun _ => ?_) | (with_reducible refine KK.go ?_) | (refine AWp.reg tabOk ?_; simp [-getElem?_pos, z0, z1, z2, ]) | (refine AWp.condK fun _ _ => ?_; simp [-getElem?_pos, z0, z1, z2, ]) | (refine AWp.ret ?_; try simp only [thenP]) | (refine AWp.skip ?_; try simp only [thenP]) | (refine AWp.exit ?_; try simp only [thenP]) | (with_reducible refine AWp.scopeK fun _ => ?_) | (refine AWp.label ?_; try simp only [thenP]) | (with_reducible refine SS.go (fun _ h => by cases h) ?_; try simp only [blockP, thenP]) | (with_reducible refine BB.go ?_; simp only [blockP, thenP, if_true, if_false, reduceIte]) | (refine AWp.draws tabOk (by kernel_rfl) (by kernel_rfl) ?_; simp [-getElem?_pos, z0, z1, z2, ]) | (with_reducible refine And.intro (show okLog _ _ = true from by kernel_rfl) ?_))
      (first | refine Exec0.call [] cg ?_ rfl ?_ ?_ | refine Exec.call [] cg ?_ rfl ?_ ?_); (focus simp [-getElem?_pos, ]); (focus simp [-getElem?_pos, z0, z1, z2, ]); simp [-getElem?_pos, z0, z1, z2, ]
      repeat (first | (with_reducible refine AWp.seqK fun _ => ?_) | (with_reducible refine AWp.blockK fun _ => ?_) | (with_reducible refine KK.go ?_) | (refine AWp.reg tabOk ?_; simp [-getElem?_pos, z0, z1, z2, g2, g2']) | (refine AWp.condK fun _ _ => ?_; simp [-getElem?_pos, z0, z1, z2, g2, g2']) | (refine AWp.ret ?_; try simp only [thenP]) | (refine AWp.skip ?_; try simp only [thenP]) | (refine AWp.exit ?_; try simp only [thenP]) | (with_reducible refine AWp.scopeK fun _ => ?_) | (refine AWp.label ?_; try simp only [thenP]) | (with_reducible refine SS.go (fun _ h => by cases h) ?_; try simp only [blockP, thenP]) | (with_reducible refine BB.go ?_; simp only [blockP, thenP, if_true, if_false, reduceIte]) | (refine AWp.draws tabOk (by kernel_rfl) (by kernel_rfl) ?_; simp [-getElem?_pos, z0, z1, z2, g2, g2']) | (with_reducible refine And.intro (show okLog _ _ = true from by kernel_rfl) ?_))
      (first | refine Exec0.call [] hw ?_ rfl ?_ ?_ | refine Exec.call [] hw ?_ rfl ?_ ?_); (focus simp [-getElem?_pos, ]); (focus simp [-getElem?_pos, z0, z1, z2, ]); simp [-getElem?_pos, z0, z1, z2, ]
      repeat (first | (with_reducible refine AWp.seqK fun _ => ?_) | (with_reducible refine AWp.blockK fun _ => ?_) | (with_reducible refine KK.go ?_) | (refine AWp.reg tabOk ?_; simp [-getElem?_pos, z0, z1, z2, ]) | (refine AWp.condK fun _ _ => ?_; simp [-getElem?_pos, z0, z1, z2, ]) | (refine AWp.ret ?_; try simp only [thenP]) | (refine AWp.skip ?_; try simp only [thenP]) | (refine AWp.exit ?_; try simp only [thenP]) | (with_reducible refine AWp.scopeK fun _ => ?_) | (refine AWp.label ?_; try simp only [thenP]) | (with_reducible refine SS.go (fun _ h => by cases h) ?_; try simp only [blockP, thenP]) | (with_reducible refine BB.go ?_; simp only [blockP, thenP, if_true, if_false, reduceIte]) | (refine AWp.draws tabOk (by kernel_rfl) (by kernel_rfl) ?_; simp [-getElem?_pos, z0, z1, z2, ]) | (with_reducible refine And.intro (show okLog _ _ = true from by kernel_rfl) ?_))
      (first | refine RR.ret ?_ | refine RR.normal ?_); simp []
    · have g2' : ¬ (40 : Int) < l.length := by omega
      have c9 := longs_same (afterL b l) (by omega)
      generalize afterL b l = al at *
      generalize blowsErr b b.most l = e1 at *
      generalize checkN b l = n1 at *
      generalize checkErr b l = e2 at *
      generalize bladeErr b = e3 at *
      refine acallK tabOk Try.func3 rfl rfl (show 2 ≤ _ by decide) rfl fun _ => ?_; simp only [Try.ntmps3]
      repeat (first | (with_reducible refine AWp.seqK fun _ => ?_) | (with_reducible refine AWp.blockK fun _ => ?_) | (with_reducible refine KK.go ?_) | (refine AWp.reg tabOk ?_; simp [-getElem?_pos, z0, z1, z2, ]) | (refine AWp.condK fun _ _ => ?_; simp [-getElem?_pos, z0, z1, z2, ]) | (refine AWp.ret ?_; try simp only [thenP]) | (refine AWp.skip ?_; try simp only [thenP]) | (refine AWp.exit ?_; try simp only [thenP]) | (with_reducible refine AWp.scopeK fun _ => ?_) | (refine AWp.label ?_; try simp only [thenP]) | (with_reducible refine SS.go (fun _ h => by cases h) ?_; try simp only [blockP, thenP]) | (with_reducible refine BB.go ?_; simp only [blockP, thenP, if_true, if_false, reduceIte]) | (refine AWp.draws tabOk (by kernel_rfl) (by kernel_rfl) ?_; simp [-getElem?_pos, z0, z1, z2, ]) | (with_reducible refine And.intro (show okLog _ _ = true from by kernel_rfl) ?_))
      (first | refine Exec0.call [] cg ?_ rfl ?_ ?_ | refine Exec.call [] cg ?_ rfl ?_ ?_); (focus simp [-getElem?_pos, ]); (focus simp [-getElem?_pos, z0, z1, z2, ]); simp [-getElem?_pos, z0, z1, z2, ]
      repeat (first | (with_reducible refine AWp.seqK fun _ => ?_) | (with_reducible refine AWp.blockK fun _ => ?_) | (with_reducible refine KK.go ?_) | (refine AWp.reg tabOk ?_; simp [-getElem?_pos, z0, z1, z2, g2, g2']) | (refine AWp.condK fun _ _ => ?_; simp [-getElem?_pos, z0, z1, z2, g2, g2']) | (refine AWp.ret ?_; try simp only [thenP]) | (refine AWp.skip ?_; try simp only [thenP]) | (refine AWp.exit ?_; try simp only [thenP]) | (with_reducible refine AWp.scopeK fun _ => ?_) | (refine AWp.label ?_; try simp only [thenP]) | (with_reducible refine SS.go (fun _ h => by cases h) ?_; try simp only [blockP, thenP]) | (with_reducible refine BB.go ?_; simp only [blockP, thenP, if_true, if_false, reduceIte]) | (refine AWp.draws tabOk (by kernel_rfl) (by kernel_rfl) ?_; simp [-getElem?_pos, z0, z1, z2, g2, g2']) | (with_reducible refine And.intro (show okLog _ _ = true from by kernel_rfl) ?_))
      (first | refine Exec0.call [] c1 ?_ rfl ?_ ?_ | refine Exec.call [] c1 ?_ rfl ?_ ?_); (focus simp [-getElem?_pos, ]); (focus simp [-getElem?_pos, z0, z1, z2, ]); simp [-getElem?_pos, z0, z1, z2, ]
      repeat (first | (with_reducible refine AWp.seqK fun _ => ?_) | (with_reducible refine AWp.blockK fun _ => ?_) | (with_reducible refine KK.go ?_) | (refine AWp.reg tabOk ?_; simp [-getElem?_pos, z0, z1, z2, ]) | (refine AWp.condK fun _ _ => ?_; simp [-getElem?_pos, z0, z1, z2, ]) | (refine AWp.ret ?_; try simp only [thenP]) | (refine AWp.skip ?_; try simp only [thenP]) | (refine AWp.exit ?_; try simp only [thenP]) | (with_reducible refine AWp.scopeK fun _ => ?_) | (refine AWp.label ?_; try simp only [thenP]) | (with_reducible refine SS.go (fun _ h => by cases h) ?_; try simp only [blockP, thenP]) | (with_reducible refine BB.go ?_; simp only [blockP, thenP, if_true, if_false, reduceIte]) | (refine AWp.draws tabOk (by kernel_rfl) (by kernel_rfl) ?_; simp [-getElem?_pos, z0, z1, z2, ]) | (with_reducible refine And.intro (show okLog _ _ = true from by kernel_rfl) ?_))
      (first | refine Exec0.call [] c2 ?_ rfl ?_ ?_ | refine Exec.call [] c2 ?_ rfl ?_ ?_); (focus simp [-getElem?_pos, ]); (focus simp [-getElem?_pos, z0, z1, z2, ]); simp [-getElem?_pos, z0, z1, z2, ]
      repeat (first | (with_reducible refine AWp.seqK fun _ => ?_) | (with_reducible refine AWp.blockK fun _ => ?_) | (with_reducible refine KK.go ?_) | (refine AWp.reg tabOk ?_; simp [-getElem?_pos, z0, z1, z2, ]) | (refine AWp.condK fun _ _ => ?_; simp [-getElem?_pos, z0, z1, z2, ]) | (refine AWp.ret ?_; try simp only [thenP]) | (refine AWp.skip ?_; try simp only [thenP]) | (refine AWp.exit ?_; try simp only [thenP]) | (with_reducible refine AWp.scopeK fun _ => ?_) | (refine AWp.label ?_; try simp only [thenP]) | (with_reducible refine SS.go (fun _ h => by cases h) ?_; try simp only [blockP, thenP]) | (with_reducible refine BB.go ?_; simp only [blockP, thenP, if_true, if_false, reduceIte]) | (refine AWp.draws tabOk (by kernel_rfl) (by kernel_rfl) ?_; simp [-getElem?_pos, z0, z1, z2, ]) | (with_reducible refine And.intro (show okLog _ _ = true from by kernel_rfl) ?_))
      (first | refine Exec0.call [] c3 ?_ rfl ?_ ?_ | refine Exec.call [] c3 ?_ rfl ?_ ?_); (focus simp [-getElem?_pos, ]); (focus simp [-getElem?_pos, z0, z1, z2, ]); simp [-getElem?_pos, z0, z1, z2, ]
      repeat (first | (with_reducible refine AWp.seqK fun _ => ?_) | (with_reducible refine AWp.blockK fun _ => ?_) | (with_reducible refine KK.go ?_) | (refine AWp.reg tabOk ?_; simp [-getElem?_pos, z0, z1, z2, ]) | (refine AWp.condK fun _ _ => ?_; simp [-getElem?_pos, z0, z1, z2, ]) | (refine AWp.ret ?_; try simp only [thenP]) | (refine AWp.skip ?_; try simp only [thenP]) | (refine AWp.exit ?_; try simp only [thenP]) | (with_reducible refine AWp.scopeK fun _ => ?_) | (refine AWp.label ?_; try simp only [thenP]) | (with_reducible refine SS.go (fun _ h => by cases h) ?_; try simp only [blockP, thenP]) | (with_reducible refine BB.go ?_; simp only [blockP, thenP, if_true, if_false, reduceIte]) | (refine AWp.draws tabOk (by kernel_rfl) (by kernel_rfl) ?_; simp [-getElem?_pos, z0, z1, z2, ]) | (with_reducible refine And.intro (show okLog _ _ = true from by kernel_rfl) ?_))
      (first | refine Exec0.call [] c4 ?_ rfl ?_ ?_ | refine Exec.call [] c4 ?_ rfl ?_ ?_); (focus simp [-getElem?_pos, ]); (focus simp [-getElem?_pos, z0, z1, z2, ]); simp [-getElem?_pos, z0, z1, z2, ]
      repeat (first | (with_reducible refine AWp.seqK fun _ => ?_) | (with_reducible refine AWp.blockK fun _ => ?_) | (with_reducible refine KK.go ?_) | (refine AWp.reg tabOk ?_; simp [-getElem?_pos, z0, z1, z2, ]) | (refine AWp.condK fun _ _ => ?_; simp [-getElem?_pos, z0, z1, z2, ]) | (refine AWp.ret ?_; try simp only [thenP]) | (refine AWp.skip ?_; try simp only [thenP]) | (refine AWp.exit ?_; try simp only [thenP]) | (with_reducible refine AWp.scopeK fun _ => ?_) | (refine AWp.label ?_; try simp only [thenP]) | (with_reducible refine SS.go (fun _ h => by cases h) ?_; try simp only [blockP, thenP]) | (with_reducible refine BB.go ?_; simp only [blockP, thenP, if_true, if_false, reduceIte]) | (refine AWp.draws tabOk (by kernel_rfl) (by kernel_rfl) ?_; simp [-getElem?_pos, z0, z1, z2, ]) | (with_reducible refine And.intro (show okLog _ _ = true from by kernel_rfl) ?_))
      (first | refine Exec0.call [] c5 ?_ rfl ?_ ?_ | refine Exec.call [] c5 ?_ rfl ?_ ?_); (focus simp [-getElem?_pos, ]); (focus simp [-getElem?_pos, z0, z1, z2, ]); simp [-getElem?_pos, z0, z1, z2, ]
      repeat (first | (with_reducible refine AWp.seqK fun _ => ?_) | (with_reducible refine AWp.blockK fun _ => ?_) | (with_reducible refine KK.go ?_) | (refine AWp.reg tabOk ?_; simp [-getElem?_pos, z0, z1, z2, ]) | (refine AWp.condK fun _ _ => ?_; simp [-getElem?_pos, z0, z1, z2, ]) | (refine AWp.ret ?_; try simp only [thenP]) | (refine AWp.skip ?_; try simp only [thenP]) | (refine AWp.exit ?_; try simp only [thenP]) | (with_reducible refine AWp.scopeK fun _ => ?_) | (refine AWp.label ?_; try simp only [thenP]) | (with_reducible refine SS.go (fun _ h => by cases h) ?_; try simp only [blockP, thenP]) | (with_reducible refine BB.go ?_; simp only [blockP, thenP, if_true, if_false, reduceIte]) | (refine AWp.draws tabOk (by kernel_rfl) (by kernel_rfl) ?_; simp [-getElem?_pos, z0, z1, z2, ]) | (with_reducible refine And.intro (show okLog _ _ = true from by kernel_rfl) ?_))
      (first | refine Exec0.call [] c6 ?_ rfl ?_ ?_ | refine Exec.call [] c6 ?_ rfl ?_ ?_); (focus simp [-getElem?_pos, ]); (focus simp [-getElem?_pos, z0, z1, z2, ]); simp [-getElem?_pos, z0, z1, z2, ]
      repeat (first | (with_reducible refine AWp.seqK fun _ => ?_) | (with_reducible refine AWp.blockK fun _ => ?_) | (with_reducible refine KK.go ?_) | (refine AWp.reg tabOk ?_; simp [-getElem?_pos, z0, z1, z2, ]) | (refine AWp.condK fun _ _ => ?_; simp [-getElem?_pos, z0, z1, z2, ]) | (refine AWp.ret ?_; try simp only [thenP]) | (refine AWp.skip ?_; try simp only [thenP]) | (refine AWp.exit ?_; try simp only [thenP]) | (with_reducible refine AWp.scopeK fun _ => ?_) | (refine AWp.label ?_; try simp only [thenP]) | (with_reducible refine SS.go (fun _ h => by cases h) ?_; try simp only [blockP, thenP]) | (with_reducible refine BB.go ?_; simp only [blockP, thenP, if_true, if_false, reduceIte]) | (refine AWp.draws tabOk (by kernel_rfl) (by kernel_rfl) ?_; simp [-getElem?_pos, z0, z1, z2, ]) | (with_reducible refine And.intro (show okLog _ _ = true from by kernel_rfl) ?_))
      (first | refine Exec0.call [] c7 ?_ rfl ?_ ?_ | refine Exec.call [] c7 ?_ rfl ?_ ?_); (focus simp [-getElem?_pos, ]); (focus simp [-getElem?_pos, z0, z1, z2, ]); simp [-getElem?_pos, z0, z1, z2, ]
      repeat (first | (with_reducible refine AWp.seqK fun _ => ?_) | (with_reducible refine AWp.blockK fun _ => ?_) | (with_reducible refine KK.go ?_) | (refine AWp.reg tabOk ?_; simp [-getElem?_pos, z0, z1, z2, ]) | (refine AWp.condK fun _ _ => ?_; simp [-getElem?_pos, z0, z1, z2, ]) | (refine AWp.ret ?_; try simp only [thenP]) | (refine AWp.skip ?_; try simp only [thenP]) | (refine AWp.exit ?_; try simp only [thenP]) | (with_reducible refine AWp.scopeK fun _ => ?_) | (refine AWp.label ?_; try simp only [thenP]) | (with_reducible refine SS.go (fun _ h => by cases h) ?_; try simp only [blockP, thenP]) | (with_reducible refine BB.go ?_; simp only [blockP, thenP, if_true, if_false, reduceIte]) | (refine AWp.draws tabOk (by kernel_rfl) (by kernel_rfl) ?_; simp [-getElem?_pos, z0, z1, z2, ]) | (with_reducible refine And.intro (show okLog _ _ = true from by kernel_rfl) ?_))
      (first | refine Exec0.call [] c8 ?_ rfl ?_ ?_ | refine Exec.call [] c8 ?_ rfl ?_ ?_); (focus simp [-getElem?_pos, ]); (focus simp [-getElem?_pos, z0, z1, z2, ]); simp [-getElem?_pos, z0, z1, z2, ]
      repeat (first | (with_reducible refine AWp.seqK fun _ => ?_) | (with_reducible refine AWp.blockK fun _ => ?_) | (with_reducible refine KK.go ?_) | (refine AWp.reg tabOk ?_; simp [-getElem?_pos, z0, z1, z2, ]) | (refine AWp.condK fun _ _ => ?_; simp [-getElem?_pos, z0, z1, z2, ]) | (refine AWp.ret ?_; try simp only [thenP]) | (refine AWp.skip ?_; try simp only [thenP]) | (refine AWp.exit ?_; try simp only [thenP]) | (with_reducible refine AWp.scopeK fun _ => ?_) | (refine AWp.label ?_; try simp only [thenP]) | (with_reducible refine SS.go (fun _ h => by cases h) ?_; try simp only [blockP, thenP]) | (with_reducible refine BB.go ?_; simp only [blockP, thenP, if_true, if_false, reduceIte]) | (refine AWp.draws tabOk (by kernel_rfl) (by kernel_rfl) ?_; simp [-getElem?_pos, z0, z1, z2, ]) | (with_reducible refine And.intro (show okLog _ _ = true from by kernel_rfl) ?_))
      (first | refine Exec0.call [] c9 ?_ rfl ?_ ?_ | refine Exec.call [] c9 ?_ rfl ?_ ?_); (focus simp [-getElem?_pos, ]); (focus simp [-getElem?_pos, z0, z1, z2, ]); simp [-getElem?_pos, z0, z1, z2, ]
      repeat (first | (with_reducible refine AWp.seqK fun _ => ?_) | (with_reducible refine AWp.blockK fun _ => ?_) | (with_reducible refine KK.go ?_) | (refine AWp.reg tabOk ?_; simp [-getElem?_pos, z0, z1, z2, ]) | (refine AWp.condK fun _ _ => ?_; simp [-getElem?_pos, z0, z1, z2, ]) | (refine AWp.ret ?_; try simp only [thenP]) | (refine AWp.skip ?_; try simp only [thenP]) | (refine AWp.exit ?_; try simp only [thenP]) | (with_reducible refine AWp.scopeK fun _ => ?_) | (refine AWp.label ?_; try simp only [thenP]) | (with_reducible refine SS.go (fun _ h => by cases h) ?_; try simp only [blockP, thenP]) | (with_reducible refine BB.go ?_; simp only [blockP, thenP, if_true, if_false, reduceIte]) | (refine AWp.draws tabOk (by kernel_rfl) (by kernel_rfl) ?_; simp [-getElem?_pos, z0, z1, z2, ]) | (with_reducible refine And.intro (show okLog _ _ = true from by kernel_rfl) ?_))
      (first | refine Exec0.call [] hw ?_ rfl ?_ ?_ | refine Exec.call [] hw ?_ rfl ?_ ?_); (focus simp [-getElem?_pos, ]); (focus simp [-getElem?_pos, z0, z1, z2, ]); simp [-getElem?_pos, z0, z1, z2, ]
      repeat (first | (with_reducible refine AWp.seqK fun _ => ?_) | (with_reducible refine AWp.blockK fun _ => ?_) | (with_reducible refine KK.go ?_) | (refine AWp.reg tabOk ?_; simp [-getElem?_pos, z0, z1, z2, ]) | (refine AWp.condK fun _ _ => ?_; simp [-getElem?_pos, z0, z1, z2, ]) | (refine AWp.ret ?_; try simp only [thenP]) | (refine AWp.skip ?_; try simp only [thenP]) | (refine AWp.exit ?_; try simp only [thenP]) | (with_reducible refine AWp.scopeK fun _ => ?_) | (refine AWp.label ?_; try simp only [thenP]) | (with_reducible refine SS.go (fun _ h => by cases h) ?_; try simp only [blockP, thenP]) | (with_reducible refine BB.go ?_; simp only [blockP, thenP, if_true, if_false, reduceIte]) | (refine AWp.draws tabOk (by kernel_rfl) (by kernel_rfl) ?_; simp [-getElem?_pos, z0, z1, z2, ]) | (with_reducible refine And.intro (show okLog _ _ = true from by kernel_rfl) ?_))
      (first | refine RR.ret ?_ | refine RR.normal ?_); simp []
end Go.Proofs.Ytnhhlmikkmjenaa.Eng

/-
  The last step of a law's row, from 'what was there is as it was' alone.
-/
namespace Go.Proofs.Ytnhhlmikkmjenaa
open Go.ChangeShapes Go.WideShapes Go.ChangeAt Go.RowKit

/-- A law that takes no package variable: it answers, what was there is as it was, and the arguments read as they did. -/
theorem post_later {H : Type} {enc : TypeId × Value → H} {P : Program} {f : Func} {s : ChangeSpec} {apart fresh handsOn again : Bool} {W W' : World} {args : Array Value} {v : Value} {ds gs : List (DataW H)} {before pa pv : List MemPlace}
    (hW : DataW.Whole enc P f.params.toList s.vars apart W args.toList ds gs before) (hsplit : before = pa ++ pv)
    (hr : ∀ (b : Nat) (sp : Nat → Bool) (hd : Bool), DataW.TrodAll enc P W' b sp hd f.resultTypes.toList (v.resultList f.resultTypes.size) (s.fn H (ds ++ gs)).results [])
    (ha : ∀ sp : Nat → Bool, (∀ p ∈ before, sp p.block = true) → DataW.TrodAll enc P W' 0 sp true f.params.toList args.toList (s.fn H (ds ++ gs)).args pa)
    (hv : ∀ sp : Nat → Bool, (∀ p ∈ before, sp p.block = true) → DataW.TrodVars enc P W' sp s.vars (s.fn H (ds ++ gs)).vars pv)
    (hk : ∀ (j : Nat) (t : TypeId) (r : Value), f.resultTypes[j]? = some t → (v.resultList f.resultTypes.size)[j]? = some r → Value.okWide P W' .any 0 t r)
    (hb : Below W.heap.size W W') : s.post enc P f apart fresh handsOn again W args v W' := by
  have inside : ∀ p, p ∈ before → p.block < W.heap.size := fun p hp => hW.lt p hp
  have keep : ∀ p ∈ before, (decide ((p : MemPlace).block < W.heap.size)) = true := fun p hp => decide_eq_true (inside p hp)
  refine ⟨ds, gs, before, [], pa, pv, hW, hr _ _ _, ha (fun b => decide (b < W.heap.size)) keep, hv (fun b => decide (b < W.heap.size)) keep, ?_, ?_⟩
  · refine World.keptBut_mono (fun p hp => ⟨hp, ?_⟩) (hb.frame (· ∈ before))
    right
    rw [hsplit, List.mem_append] at hp
    exact hp
  · intro _
    obtain ⟨_, _, _, _, _, hz, hn⟩ := hW
    have e : [] ++ pa ++ pv = before := by rw [hsplit, List.nil_append]
    refine ⟨hk, _, _, [] ++ pa ++ pv, ⟨[] ++ pa, pv, trodAll_append (ha _ fun _ _ => rfl) (hr _ _ _), hv _ fun _ _ => rfl, rfl, fun b off hp => ?_, fun h => ?_⟩, fun p hp _ => ?_⟩
    · rw [e] at hp
      rw [hb.frozen (inside _ hp)]
      exact hz b off hp
    · have := hn h
      rw [← e] at this
      simpa using this
    · rw [e] at hp
      simpa using hp
end Go.Proofs.Ytnhhlmikkmjenaa

/-
  What came in, as data: types described, and each value that came in as a datum of its type. No program is named here.
-/
namespace Go.Proofs.Ytnhhlmikkmjenaa.Eng
open Go.ChangeShapes Go.WideShapes Go.ChangeAt Go.RowKit Go.Deep

/-- Types: a struct is its fields, one behind the other. -/
inductive Sh where
  | int (k : IntKind)
  | bool
  | nil
  | cons (s r : Sh)
  | sl (s : Sh)
  | arr (n : Nat) (s : Sh)
def Sh.size : Sh → Nat
  | .int _ => 1
  | .bool => 1
  | .nil => 0
  | .cons s r => s.size + r.size
  | .sl _ => 1
  | .arr n s => n * s.size
/-- The cells of a value of a type. -/
def Sh.Row : Sh → List Dat → Prop
  | .int k, r => ∃ n, r = [.val (.int k n)] ∧ (Lit.int k n).wf = true
  | .bool, r => ∃ b, r = [.val (.bool b)]
  | .nil, r => r = []
  | .cons s t, r => ∃ a b, r = a ++ b ∧ s.Row a ∧ t.Row b
  | .sl s, r => ∃ rows : List (List Dat), r = [.list rows] ∧ ∀ x ∈ rows, s.Row x
  | .arr n s, r => ∃ rows : List (List Dat), rows.length = n ∧ r = rows.flatten ∧ ∀ x ∈ rows, s.Row x
theorem Sh.Row.len : ∀ {s : Sh} {r : List Dat}, s.Row r → r.length = s.size
  | .int k, _, ⟨n, h, _⟩ => by rw [h]; rfl
  | .bool, _, ⟨b, h⟩ => by rw [h]; rfl
  | .nil, _, h => by rw [show _ = [] from h]; rfl
  | .cons s t, _, ⟨a, b, h, ha, hb⟩ => by rw [h, List.length_append, Sh.Row.len ha, Sh.Row.len hb]; rfl
  | .sl s, _, ⟨rows, h, _⟩ => by rw [h]; rfl
  | .arr n s, _, ⟨rows, h1, h2, h3⟩ => by
    rw [h2, List.length_flatten]
    have : ∀ l : List (List Dat), (∀ x ∈ l, s.Row x) → (l.map List.length).sum = l.length * s.size := by
      intro l
      induction l with
      | nil => intro _; simp
      | cons x l ih =>
        intro h
        rw [List.map_cons, List.sum_cons, ih fun y hy => h y (List.mem_cons_of_mem _ hy), Sh.Row.len (h x List.mem_cons_self), List.length_cons, Nat.add_mul, Nat.one_mul, Nat.add_comm]
    rw [this rows h3, h1]
    rfl
theorem Sh.Row.one : ∀ {s : Sh} {r : List Dat}, s.Row r → ∀ c ∈ r, c.one = true
  | .int k, _, ⟨n, h, _⟩, c, hc => by subst h; simp at hc; subst hc; rfl
  | .bool, _, ⟨b, h⟩, c, hc => by subst h; simp at hc; subst hc; rfl
  | .nil, _, h, c, hc => by rw [show _ = [] from h] at hc; simp at hc
  | .cons s t, _, ⟨a, b, h, ha, hb⟩, c, hc => by
    subst h
    rcases List.mem_append.1 hc with hc | hc
    · exact Sh.Row.one ha c hc
    · exact Sh.Row.one hb c hc
  | .sl s, _, ⟨rows, h, _⟩, c, hc => by subst h; simp at hc; subst hc; rfl
  | .arr n s, _, ⟨rows, h1, h2, h3⟩, c, hc => by
    subst h2
    obtain ⟨x, hx, hcx⟩ := List.mem_flatten.1 hc
    exact Sh.Row.one (h3 x hx) c hcx
/-- A type of the program is as described. -/
def Sh.flds (P : Program) (ok : Sh → TypeId → Bool) : Sh → List Field → Nat → Bool
  | .nil, [], _ => true
  | .cons s r, f :: fs, o => f.offset == o && P.cellsOf f.type == s.size && ok s f.type && r.flds P ok fs (o + s.size)
  | _, _, _ => false
def Sh.okF (P : Program) : Nat → Sh → TypeId → Bool
  | 0, _, _ => false
  | n + 1, s, t => match P.underlying t with
    | some (.int k) => match s with
      | .int k' => decide (k' = k)
      | _ => false
    | some .bool => match s with
      | .bool => true
      | _ => false
    | some (.struct fs) => P.cellsOf t == s.size && s.flds P (Sh.okF P n) fs.toList 0
    | some (.slice e) => match s with
      | .sl s' => Nat.ble 1 s'.size && P.cellsOf e == s'.size && Sh.okF P n s' e
      | _ => false
    | some (.array m e) => match s with
      | .arr m' s' => m == m' && P.cellsOf e == s'.size && P.cellsOf t == m * s'.size && Sh.okF P n s' e
      | _ => false
    | _ => false
section
variable {H : Type} {enc : TypeId × Value → H} {P : Program} {w : World}
/-- Cells that are of this type. -/
def Read (w : World) (s : Sh) (cs : List Value) : Prop := cs.length = s.size ∧ ∃ r, s.Row r ∧ ∀ (j : Nat) c u, r[j]? = some c → cs[j]? = some u → RepD (· < w.heap.size) w c u
def Opens (enc : TypeId × Value → H) (P : Program) (w : World) (s : Sh) (t : TypeId) : Prop := ∀ fuel cs x, DataW.trod enc P w 0 (fun _ => true) true fuel t cs = some x → Read w s cs
theorem read_list {α : Type} {R : Nat → α → Prop} : ∀ (n : Nat), (∀ i, i < n → ∃ x, R i x) → ∃ l : List α, l.length = n ∧ ∀ i x, l[i]? = some x → R i x
  | 0, _ => ⟨[], rfl, fun i x h => by simp at h⟩
  | n + 1, h => by
    obtain ⟨l, hl, hx⟩ := read_list n fun i hi => h i (by omega)
    obtain ⟨y, hy⟩ := h n (by omega)
    refine ⟨l ++ [y], by simp [hl], fun i x hi => ?_⟩
    rcases Nat.lt_or_ge i n with h1 | h1
    · rw [List.getElem?_append_left (by omega)] at hi
      exact hx i x hi
    · rw [List.getElem?_append_right (by omega)] at hi
      have : i = n := by
        have := (List.getElem?_eq_some_iff.1 hi).1
        simp at this
        omega
      subst this
      simp [hl] at hi
      subst hi
      exact hy
theorem opens_slice {s : Sh} {t e : TypeId} (ht : P.underlying t = some (.slice e)) (h0 : 0 < s.size) (hc : P.cellsOf e = s.size) (he : Opens enc P w s e) : Opens enc P w (.sl s) t := by
  intro fuel cs x h
  rcases open_slice ht h with ⟨h1, _⟩ | ⟨a, len, cap, m, n, D, Pl, hcs, hb, hl, hmx, hm, hx, hel⟩
  · subst h1
    refine ⟨rfl, [.list []], ⟨[], rfl, by simp⟩, fun j c u hj hu => ?_⟩
    match j with
    | 0 =>
      simp at hj hu
      subst hj; subst hu
      exact .list [] none 0 (fun _ _ => default) (by simp) (by decide) (by simp) (by simp) (by simp)
    | j + 1 => simp at hj
  · have hmc : m = cap := by simpa using hm
    obtain ⟨b, off, spot⟩ := a
    have cell : ∀ i, i < m → ∃ cs', cs'.length = s.size ∧ (∀ j u, cs'[j]? = some u → w.cell? (Addr.add ⟨b, off, spot⟩ (i * s.size + j)) = some u) ∧ Read w s cs' := by
      intro i hi
      obtain ⟨cs', h1, h2⟩ := hel i hi
      rw [hc] at h1
      obtain ⟨_, hlen, hat⟩ := World.cells?_some h1
      refine ⟨cs', hlen, fun j u hj => ?_, he _ _ _ h2⟩
      have hjl : j < s.size := by rw [← hlen]; exact (List.getElem?_eq_some_iff.1 hj).1
      rw [← Go.Deep.add_add, hat j hjl, hj]
    subst hcs
    refine ⟨rfl, ?_⟩
    rcases Nat.eq_zero_or_pos len with hm0 | hm0
    · subst hm0
      refine ⟨[.list []], ⟨[], rfl, by simp⟩, fun j c u hj hu => ?_⟩
      match j with
      | 0 =>
        simp at hj hu
        subst hj; subst hu
        exact .list [] _ cap (fun _ _ => default) (by simp) hmx (by simp) (by simp) (by simp)
      | j + 1 => simp at hj
    · have hsp : spot = none := by
        obtain ⟨cs', h1, h2, _⟩ := cell 0 (by omega)
        have h3 : cs'[0]? = some (cs'[0]'(by omega)) := List.getElem?_eq_getElem (by omega)
        have := World.cell?_spot (h2 0 _ h3)
        simpa [Addr.add] using this
      subst hsp
      have hb2 : b < w.heap.size := by
        obtain ⟨cs', h1, h2, _⟩ := cell 0 (by omega)
        have h3 : cs'[0]? = some (cs'[0]'(by omega)) := List.getElem?_eq_getElem (by omega)
        have h4 := World.block_lt_of_cell? w _ (h2 0 _ h3)
        simpa [Addr.add] using h4
      obtain ⟨rows, hrl, hrx⟩ := read_list (R := fun i (r : List Dat) => s.Row r ∧ ∀ (j : Nat) c, r[j]? = some c → ∃ u, w.cell? ⟨b, off + i * s.size + j, none⟩ = some u ∧ RepD (· < w.heap.size) w c u) len fun i hi => by
        obtain ⟨cs', h1, h2, h3, r, h4, h5⟩ := cell i (by omega)
        refine ⟨r, h4, fun j c hj => ?_⟩
        have hjl : j < s.size := by rw [← h4.len]; exact (List.getElem?_eq_some_iff.1 hj).1
        have hu : cs'[j]? = some (cs'[j]'(by omega)) := List.getElem?_eq_getElem (by omega)
        refine ⟨_, ?_, h5 j c _ hj hu⟩
        have := h2 j _ hu
        by_cases e0 : i * s.size + j = 0
        · rw [e0] at this
          rw [show off + i * s.size + j = off by omega]
          simpa [Addr.add] using this
        · simp only [Addr.add, if_neg e0] at this
          rwa [Nat.add_assoc]
      have hmem : ∀ r ∈ rows, s.Row r := fun r hr => by
        obtain ⟨i, hi⟩ := List.getElem?_of_mem hr
        exact (hrx i r hi).1
      refine ⟨[.list rows], ⟨rows, rfl, hmem⟩, fun j c u hj hu => ?_⟩
      match j with
      | 0 =>
        simp at hj hu
        subst hj; subst hu
        rw [← hrl]
        refine .list rows _ cap (fun i j => (w.cell? ⟨b, off + i * s.size + j, none⟩).getD default) (by omega) hmx (fun r hr => (hmem r hr).one) (fun _ => ⟨b, off, s.size, rfl, hb2, fun r hr => (hmem r hr).len, fun i j hi hj => ?_⟩) fun i j r c hr hc => ?_
        · have hri := hrx i _ (List.getElem?_eq_getElem hi)
          obtain ⟨u, hu, _⟩ := hri.2 j _ (List.getElem?_eq_getElem (by rw [hri.1.len]; exact hj))
          rw [hu]; rfl
        · obtain ⟨u, hu, hru⟩ := (hrx i r hr).2 j c hc
          rw [hu]; exact hru
      | j + 1 => simp at hj
theorem Read.app {s r : Sh} {a b : List Value} (ha : Read w s a) (hb : Read w r b) : Read w (.cons s r) (a ++ b) := by
  obtain ⟨h1, x, h2, h3⟩ := ha
  obtain ⟨k1, y, k2, k3⟩ := hb
  refine ⟨by rw [List.length_append, h1, k1]; rfl, x ++ y, ⟨x, y, rfl, h2, k2⟩, fun j c u hc hu => ?_⟩
  have hx := h2.len
  by_cases hj : j < x.length
  · rw [List.getElem?_append_left hj] at hc
    rw [List.getElem?_append_left (by omega)] at hu
    exact h3 j c u hc hu
  · rw [List.getElem?_append_right (by omega)] at hc
    rw [List.getElem?_append_right (by omega)] at hu
    rw [hx, ← h1] at hc
    exact k3 _ c u hc hu
theorem read_flds {ok : Sh → TypeId → Bool} {m : Nat} (hok : ∀ s t, ok s t = true → Opens enc P w s t) {cs : List Value} : ∀ (s : Sh) (fs : List Field) (o : Nat), s.flds P ok fs o = true → o + s.size = cs.length →
    (∀ f ∈ fs, ∃ y, DataW.trod enc P w 0 (fun _ => true) true m f.type ((cs.drop f.offset).take (P.cellsOf f.type)) = some y) → Read w s (cs.drop o)
  | .nil, [], o, _, hl, _ => by
    rw [List.drop_eq_nil_of_le (by simp only [Sh.size] at hl; omega)]
    exact ⟨rfl, [], rfl, by simp⟩
  | .cons s r, f :: fs, o, h, hl, hf => by
    simp only [Sh.flds, Bool.and_eq_true, beq_iff_eq] at h
    obtain ⟨⟨⟨h1, h2⟩, h3⟩, h4⟩ := h
    obtain ⟨y, hy⟩ := hf f List.mem_cons_self
    rw [h1, h2] at hy
    have k1 := hok s f.type h3 _ _ _ hy
    have k2 := read_flds hok r fs (o + s.size) h4 (by simp only [Sh.size] at hl; omega) fun g hg => hf g (List.mem_cons_of_mem _ hg)
    have := k1.app k2
    rwa [← List.drop_drop, List.take_append_drop] at this
  | .nil, _ :: _, _, h, _, _ => by simp [Sh.flds] at h
  | .cons _ _, [], _, h, _, _ => by simp [Sh.flds] at h
  | .int _, _, _, h, _, _ => by simp [Sh.flds] at h
  | .bool, _, _, h, _, _ => by simp [Sh.flds] at h
  | .sl _, _, _, h, _, _ => by simp [Sh.flds] at h
  | .arr _ _, _, _, h, _, _ => by simp [Sh.flds] at h
theorem read_arr {s : Sh} : ∀ (n : Nat) (cs : List Value), cs.length = n * s.size → (∀ i, i < n → Read w s ((cs.drop (i * s.size)).take s.size)) → Read w (.arr n s) cs
  | 0, cs, hl, _ => by
    have : cs = [] := List.eq_nil_of_length_eq_zero (by rw [hl, Nat.zero_mul])
    subst this
    exact ⟨by simp [Sh.size], [], ⟨[], rfl, rfl, by simp⟩, by simp⟩
  | n + 1, cs, hl, h => by
    have h0 := h 0 (by omega)
    rw [Nat.zero_mul, List.drop_zero] at h0
    have h1 := read_arr (s := s) n (cs.drop s.size) (by rw [List.length_drop, hl, Nat.add_mul]; omega) fun i hi => by
      have := h (i + 1) (by omega)
      rw [List.drop_drop]
      rwa [Nat.add_mul, Nat.one_mul, Nat.add_comm] at this
    obtain ⟨a1, a, a2, a3⟩ := h0
    obtain ⟨b1, b, ⟨rows, b2, b3, b4⟩, b5⟩ := h1
    refine ⟨hl, a ++ b, ⟨a :: rows, by simp [b2], by simp [b3], fun x hx => ?_⟩, fun j c u hc hu => ?_⟩
    · rcases List.mem_cons.1 hx with rfl | hx
      · exact a2
      · exact b4 x hx
    · have hx := a2.len
      rw [← List.take_append_drop s.size cs] at hu
      by_cases hj : j < a.length
      · rw [List.getElem?_append_left hj] at hc
        rw [List.getElem?_append_left (by omega)] at hu
        exact a3 j c u hc hu
      · rw [List.getElem?_append_right (by omega)] at hc
        rw [List.getElem?_append_right (by omega)] at hu
        rw [hx, ← a1] at hc
        exact b5 _ c u hc hu
theorem okF_opens : ∀ (n : Nat) (s : Sh) (t : TypeId), s.okF P n t = true → Opens enc P w s t
  | 0, s, t, h => by simp [Sh.okF] at h
  | n + 1, s, t, h => by
    unfold Sh.okF at h
    split at h
    · rename_i k hu
      split at h
      · rename_i k'
        obtain rfl := of_decide_eq_true h
        intro fuel cs x hx
        obtain ⟨m, rfl, _, hw⟩ := DataW.trod_int hu hx
        refine ⟨rfl, _, ⟨m, rfl, hw⟩, fun j c u hc hu => ?_⟩
        match j with
        | 0 => simp at hc hu; subst hc; subst hu; exact .val _ rfl
        | j + 1 => simp at hc
      · cases h
    · rename_i hu
      split at h
      · intro fuel cs x hx
        obtain ⟨m, rfl, _⟩ := DataW.trod_bool hu hx
        refine ⟨rfl, _, ⟨m, rfl⟩, fun j c u hc hu => ?_⟩
        match j with
        | 0 => simp at hc hu; subst hc; subst hu; exact .val _ rfl
        | j + 1 => simp at hc
      · cases h
    · rename_i fs hu
      simp only [Bool.and_eq_true, beq_iff_eq] at h
      intro fuel cs x hx
      obtain ⟨xs, m, _, _, hl, hxl, hf⟩ := DataW.trod_struct hu hx
      have := read_flds (okF_opens n) s fs.toList 0 h.2 (by rw [hl, h.1]; omega) (m := m) (cs := cs) fun f hf' => by
        obtain ⟨i, hi⟩ := List.getElem?_of_mem hf'
        have hi2 : fs[i]? = some f := by simpa using hi
        have hlt : i < fs.size := (Array.getElem?_eq_some_iff.1 hi2).1
        exact ⟨_, (hf i f hi2).trans (List.getElem?_eq_getElem (by omega))⟩
      rwa [List.drop_zero] at this
    · rename_i e hu
      split at h
      · rename_i s'
        simp only [Bool.and_eq_true, beq_iff_eq] at h
        exact opens_slice hu (Nat.le_of_ble_eq_true h.1.1) h.1.2 (okF_opens n s' e h.2)
      · cases h
    · rename_i m e hu
      split at h
      · rename_i m' s'
        simp only [Bool.and_eq_true, beq_iff_eq] at h
        obtain ⟨⟨⟨rfl, h2⟩, h3⟩, h4⟩ := h
        intro fuel cs x hx
        obtain ⟨xs, k, _, _, hl, hxl, hf⟩ := DataW.trod_array hu hx
        refine read_arr m cs (by rw [hl, h3]) fun i hi => ?_
        have := hf i hi
        rw [List.getElem?_eq_getElem (by omega), h2] at this
        exact okF_opens n s' e h4 _ _ _ this
      · cases h
    · cases h
/-- The datum of a value. -/
def Sh.D : Sh → Dat → Prop
  | .int k, d => ∃ n, d = .val (.int k n) ∧ (Lit.int k n).wf = true
  | .bool, d => ∃ b, d = .val (.bool b)
  | .sl s, d => ∃ rows : List (List Dat), d = .list rows ∧ ∀ x ∈ rows, s.Row x
  | s, d => ∃ r, d = .agg r ∧ s.Row r
theorem one_eq' {u v : Value} (h : [u] = [v]) : u = v := by simpa using h
set_option maxRecDepth 100000 in
theorem open_sh (s : Sh) {n : Nat} {base : Nat} {t : TypeId} {v : Value} {d : DataW H} {p : List MemPlace} (hs : s.okF P n t = true) (hv : Value.okWide P w .any base t v) (h : DataW.Trod enc P w 0 (fun _ => true) true t v d p) :
    ∃ D, s.D D ∧ RepD (· < w.heap.size) w D v := by
  obtain ⟨fuel, hf⟩ := h
  have key := okF_opens (enc := enc) (w := w) n s t hs _ _ _ hf
  cases n with
  | zero => simp [Sh.okF] at hs
  | succ n =>
    unfold Sh.okF at hs
    have agg : ∀ cs, v = .agg cs → (s.D = fun d => ∃ r, d = .agg r ∧ s.Row r) → ∃ D, s.D D ∧ RepD (· < w.heap.size) w D v := fun ⟨cs⟩ e hD => by
      subst e
      obtain ⟨k1, r, k2, k3⟩ := key
      refine ⟨.agg r, by rw [hD]; exact ⟨r, rfl, k2⟩, .agg r _ ?_ k2.one fun i c u hc hu => k3 i c u hc (show cs[i]? = some u by simpa using hu)⟩
      rw [k2.len, ← k1]
      rfl
    split at hs
    · rename_i k hu
      split at hs
      · obtain ⟨m, rfl⟩ := okWide_int hu hv
        obtain ⟨k1, r, ⟨m', rfl, hw⟩, k3⟩ := key
        have := k3 0 _ _ rfl rfl
        exact ⟨_, ⟨m', rfl, hw⟩, this⟩
      · cases hs
    · rename_i hu
      split at hs
      · obtain ⟨m, rfl⟩ := okWide_bool hu hv
        obtain ⟨k1, r, ⟨m', rfl⟩, k3⟩ := key
        exact ⟨_, ⟨m', rfl⟩, k3 0 _ _ rfl rfl⟩
      · cases hs
    · rename_i fs hu
      obtain ⟨cs, e, _⟩ := okWide_struct hu hv
      simp only [Bool.and_eq_true] at hs
      refine agg cs e ?_
      cases s with
      | nil => rfl
      | cons => rfl
      | _ => simp [Sh.flds] at hs
    · rename_i e hu
      split at hs
      · obtain ⟨a, l, c, rfl⟩ := okWide_slice hu hv
        obtain ⟨k1, r, ⟨rows, rfl, hw⟩, k3⟩ := key
        exact ⟨_, ⟨rows, rfl, hw⟩, k3 0 _ _ rfl rfl⟩
      · cases hs
    · rename_i m e hu
      simp only [Value.okWide, hu] at hv
      obtain ⟨cs, e1, _⟩ := hv
      split at hs
      · exact agg cs e1 rfl
      · cases hs
    · cases hs
end
/-- What came in reads again, where all that was there is as it was. -/
theorem args_later' {H : Type} {enc : TypeId × Value → H} {P : Program} {W W' : World} {T : TypeId → Prop} (K : Kids P T) (hz : ∀ t e, T t → P.underlying t = some (.slice e) → 0 < P.cellsOf e) {ts : List TypeId} {vs : List Value} {ds : List (DataW H)} {ps : List MemPlace}
    (hT : ∀ t ∈ ts, T t) (h : DataW.TrodAll enc P W 0 (fun _ => true) true ts vs ds ps) (hb : Below W.heap.size W W') {sp : Nat → Bool} (hs : ∀ p ∈ ps, sp p.block = true) : DataW.TrodAll enc P W' 0 sp true ts vs ds ps := by
  have carry : ∀ {ts : List TypeId} {vs : List Value} {ds : List (DataW H)} {ps : List MemPlace}, DataW.TrodAll enc P W 0 (fun _ => true) true ts vs ds ps → DataW.TrodAll enc P W' 0 (fun _ => true) true ts vs ds ps := by
    intro ts
    induction ts with
    | nil =>
      intro vs ds ps h
      obtain ⟨rfl, rfl, rfl⟩ := trodAll_nil h
      rfl
    | cons t ts ih =>
      intro vs ds ps h
      obtain ⟨v, vs1, d, ds1, a, b, rfl, rfl, rfl, ⟨n, h1⟩, h2⟩ := trodAll_cons h
      refine ⟨a, b, ⟨n, DataW.trod_carry n _ _ _ h1 fun p hp => ?_⟩, ih h2, rfl⟩
      have hlt := DataW.trod_lt n _ _ _ h1 p hp
      cases p with
      | cell bl off => exact hb.cell (p := ⟨bl, off, none⟩) hlt
      | map bl => exact hb.block bl hlt
  exact (carry h).respare K hz hT hs
theorem rows_of {α : Type} {f : α → List Dat} : ∀ {rows : List (List Dat)}, (∀ x ∈ rows, ∃ a, x = f a) → ∃ l : List α, rows = l.map f
  | [], _ => ⟨[], rfl⟩
  | x :: rows, h => by
    obtain ⟨a, rfl⟩ := h x List.mem_cons_self
    obtain ⟨l, rfl⟩ := rows_of fun y hy => h y (List.mem_cons_of_mem _ hy)
    exact ⟨a :: l, rfl⟩
theorem ints_in {d : Dat} (h : (Sh.sl (.int .i64)).D d) : ∃ l : List Int, d = .list (l.map fun x => [.val (.int .i64 x)]) := by
  obtain ⟨rows, rfl, h⟩ := h
  obtain ⟨l, rfl⟩ := rows_of (f := fun x : Int => [.val (.int .i64 x)]) fun x hx => by
    obtain ⟨n, rfl, _⟩ := h x hx
    exact ⟨n, rfl⟩
  exact ⟨l, rfl⟩
/-- The same, with how great the numbers may be. -/
theorem intsW_in {k : IntKind} {d : Dat} (h : (Sh.sl (.int k)).D d) : ∃ l : List Int, d = .list (l.map fun x => [.val (.int k x)]) ∧ ∀ x ∈ l, (Lit.int k x).wf = true := by
  obtain ⟨rows, rfl, h⟩ := h
  obtain ⟨l, hl⟩ := rows_of (f := fun x : { x : Int // (Lit.int k x).wf = true } => [.val (.int k x.1)]) fun x hx => by
    obtain ⟨n, rfl, hn⟩ := h x hx
    exact ⟨⟨n, hn⟩, rfl⟩
  subst hl
  refine ⟨l.map (·.1), by rw [List.map_map]; rfl, fun x hx => ?_⟩
  obtain ⟨y, _, rfl⟩ := List.mem_map.1 hx
  exact y.2
/-- A law of which the engine says that it returns true. -/
theorem law_true {P : Program} {f : FuncId} {ds : List Dat} (h : ACall P f ds (.val (.bool true))) {W : World} {vs : Array Value} (hs : vs.size = ds.length) (hr : ∀ (i : Nat) d v, ds[i]? = some d → vs[i]? = some v → RepD (· < W.heap.size) W d v) :
    Calls P f vs W fun e w' => e = .returned (.bool true) ∧ Below W.heap.size W w' := by
  refine (h.calls (· < W.heap.size) W vs (fun _ h => h) hs hr).mono ?_
  rintro e w' ⟨v, rfl, hb, hv⟩
  cases hv
  exact ⟨rfl, hb⟩
theorem reps_nil {W : World} : ∀ (i : Nat) d v, ([] : List Dat)[i]? = some d → (#[] : Array Value)[i]? = some v → RepD (· < W.heap.size) W d v := fun i d v h => by simp at h
theorem reps_cons {W : World} {D : Dat} {ds : List Dat} {v : Value} {vs : List Value} (h : RepD (· < W.heap.size) W D v) (hr : ∀ (i : Nat) d v, ds[i]? = some d → (vs.toArray)[i]? = some v → RepD (· < W.heap.size) W d v) :
    ∀ (i : Nat) d u, (D :: ds)[i]? = some d → ((v :: vs).toArray)[i]? = some u → RepD (· < W.heap.size) W d u := fun i d u hd hu => by
  match i with
  | 0 => simp at hd hu; subst hd; subst hu; exact h
  | i + 1 => simp at hd hu; exact hr i d u hd (by simpa using hu)
end Go.Proofs.Ytnhhlmikkmjenaa.Eng

/-
  Layer 2: blades that came in.
-/
namespace Go.Proofs.Ytnhhlmikkmjenaa.Eng
open Go.RowKit

def shStn : Sh := .cons (.int .i64) (.cons (.cons (.int .i64) (.cons (.int .i64) .nil)) (.cons (.int .i64) .nil))
def shBlade : Sh := .cons (.sl shStn) (.cons (.int .i64) .nil)
theorem stn_in {r : List Dat} (h : shStn.Row r) : ∃ s : Stn, r = stnRow s := by
  obtain ⟨_, _, rfl, ⟨a, rfl, _⟩, _, _, rfl, ⟨_, _, rfl, ⟨lo, rfl, _⟩, _, _, rfl, ⟨hi, rfl, _⟩, rfl⟩, _, _, rfl, ⟨hd, rfl, _⟩, rfl⟩ := h
  exact ⟨⟨a, lo, hi, hd⟩, rfl⟩
theorem blade_in {d : Dat} (h : shBlade.D d) : ∃ b : Blade, d = bladeD b := by
  obtain ⟨_, rfl, _, _, rfl, ⟨rows, rfl, hr⟩, _, _, rfl, ⟨m, rfl, _⟩, rfl⟩ := h
  obtain ⟨l, rfl⟩ := rows_of fun x hx => stn_in (hr x hx)
  exact ⟨⟨l, m⟩, rfl⟩
end Go.Proofs.Ytnhhlmikkmjenaa.Eng

namespace Go.Proofs.Ytnhhlmikkmjenaa.warpBlades
open Go.ChangeShapes Go.WideShapes Go.ChangeAt Go.RowKit Go.Deep

theorem own : ownKnob Try.prog.godebug = none := by kernel_rfl
theorem kids : Kids Try.prog (· < Try.prog.types.size) := kids_rows (by kernel_rfl) (by kernel_rfl)
theorem full : ∀ t e, t < Try.prog.types.size → Try.prog.underlying t = some (.slice e) → 0 < Try.prog.cellsOf e := slices_full_of Try.prog (by kernel_rfl)
theorem rowed : ∀ t ∈ Try.f3.params.toList, t < Try.prog.types.size := of_decide_eq_true (by kernel_rfl)

set_option maxRecDepth 100000 in
set_option maxHeartbeats 1000000 in
theorem lifted (os : Os) (started : os.Started) (H : Type) (enc : TypeId × Value → H) :
    ReturnsInHanded {} Try.checked os 3 .any (Rows.warpBladesSpec.pre6 enc Try.prog Try.f3 Rows.warpBladesRow.domain false) (Rows.warpBladesSpec.post enc Try.prog Try.f3 false true false false) := by
  refine returnsInHanded_of_change (C := Try.checked) own started (by kernel_rfl) Try.func3
    (ChangeSpec.witness6 (enc := enc) (C := Try.checked) false ⟨#[], #[.agg #[.slice none 0 0, .int .i64 0], .slice none 0 0], []⟩ 8 (by kernel_rfl) (by kernel_rfl) (by kernel_rfl) (by kernel_rfl)) ?_
  intro W base args ds gs before hval0 hW hcnd _
  have hval : ∀ (j : Nat) t v, Try.f3.params[j]? = some t → args[j]? = some v → Value.okWide Try.prog W .any base t v := hval0
  have hW' := hW
  obtain ⟨p, q, hA0, hV, rfl, hfz, hnd⟩ := hW
  have hA : DataW.TrodAll enc Try.prog W 0 (fun _ => true) true Try.f3.params.toList args.toList ds p := hA0
  have hAk := hA
  rw [Try.params3] at hA hval
  obtain ⟨v0, vs0, d0, ds0, a0, b0, e0, f0, rfl, h0, t0⟩ := trodAll_cons hA
  obtain ⟨v1, vs1, d1, ds1, a1, b1, e1, f1, rfl, h1, t1⟩ := trodAll_cons t0
  obtain ⟨en, fn, rfl⟩ := trodAll_nil t1
  subst en
  subst fn
  subst e1
  subst f1
  subst f0
  have ea : args = #[v0, v1] := by rw [← Array.toList_inj]; exact e0
  subst ea
  clear e0
  obtain ⟨rfl, rfl⟩ := trodVars_none hV
  clear hA0 hval0 hA
  simp only [List.append_nil] at hW' hAk
  have o0 := hval 0 _ _ rfl rfl
  have o1 := hval 1 _ _ rfl rfl
  clear hval
  obtain ⟨D0, s0, r0⟩ := Eng.open_sh (n := 9) (Eng.shBlade) (by kernel_rfl) o0 h0
  obtain ⟨D1, s1, r1⟩ := Eng.open_sh (n := 9) (.sl (.int .i64)) (by kernel_rfl) o1 h1
  obtain ⟨b, rfl⟩ := Eng.blade_in s0
  obtain ⟨l, rfl⟩ := Eng.ints_in s1
  refine Calls.mono (Eng.law_true (Eng.warpBlades_c Eng.works_call b l) rfl (Eng.reps_cons r0 (Eng.reps_cons r1 Eng.reps_nil))) fun e W' ⟨he, hb⟩ => ?_
  subst he
  exact ⟨_, rfl, post_later (pv := []) hW' (List.append_nil _).symm (fun _ _ _ => (trodAll_cons_mk (shut_bool Try.underlying4 _) trodAll_mk0))
    (fun sp hsp => Eng.args_later' kids full rowed hAk hb hsp) (fun _ _ => rfl) (ok_one (by kernel_rfl) rfl (okWide_bool_mk Try.underlying4 _)) hb⟩

theorem over : Rows.warpBladesRow.holds Try.pinned (OpenSpec.ofChange Rows.warpBladesSpec) :=
  OpenClaim.holds_of_wide 3 Try.f3 rfl rfl rfl rfl rfl rfl rfl ⟨rfl, rfl, rfl, rfl, rfl⟩ rfl rfl rfl rfl rfl (by kernel_rfl) Try.func3 (by kernel_rfl)
    (of_decide_eq_true (by kernel_rfl)) (by unfold Func.isWrapper; first | (rw [if_pos (by decide +kernel)]; kernel_rfl) | (rw [if_neg (by decide +kernel)]; exact ⟨rfl, rfl⟩))
    (fun os started H enc _ => lifted os started H enc)

theorem proved : Rows.WarpBladesSaid := over
end Go.Proofs.Ytnhhlmikkmjenaa.warpBlades
