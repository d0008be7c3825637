/-
  HeatBlamed returns true, for every works, recipe, history and width of what is measured: the bar and the ways by which a blade was truly made are among those that can have made it, and its history in the ranges of Had; each bar, and each way, that can have made it is in some recipe that can. No condition.
-/
import Derived.Test.YtigpefjeelgfdaaBq1
import Derived.ProofKit
import Derived.OpenShut
import Derived.Below
import Derived.ChangeSame
import Derived.ReadAgain
import Derived.Deep.Slices
set_option linter.unusedSimpArgs false
set_option linter.unusedVariables false
/-
  Layer 1's statements, by the engine: HeatBlamed's loop over the recipes of a works of 6 steps.
-/
namespace Go.Proofs.Ytigpefjeelgfdaa.Eng
open Go.RowKit

set_option maxRecDepth 100000 in
set_option maxHeartbeats 8000000 in
theorem blame_case6 {x : Works} {lo hi : Int} {M : Nat} {B : List Int} {lr : List (List Int)} {R : List Rec} (bc : BC x lo hi 6 M B lr R) {cm cr : Code} (hm : Try.f9.body.bind (tailO 13) = some cm) (hr : Try.f9.body.bind (tailO 16) = some cr) {Q : Post}
    (hrest : AWp Try.prog true 330 cr 1 (mkSt [(13, .d (intL B)), (15, .d (.list (listRows lr))), (17, .d (iD M)), (23, .own 0 7 1), (24, .d (iD M))] [(0, .row 40 1 (listRows (seenRows (mkN x lo hi) 6)) false)]) Q) :
    AWp Try.prog true 330 cm 2 (mkSt [(4, .ptr 0 0 0), (12, .ptr 1 0 0), (13, .d (intL B)), (15, .d (.list (listRows lr))), (17, .d (iD M)), (22, .d (recsD R))] [(0, bW x), (1, bR lo hi)]) Q := by
  obtain ⟨hS, kyes, kno, mkall, mkne, mklen, mkle, hRl, hrl⟩ := bc
  have hlen2 : lr.length = 6 := hrl
  have wz : IntKind.i64.wrap 7 = 7 := by decide
  cases (show some _ = some cm from hm)
  cases (show some _ = some cr from hr)
  iterate 6 (first | (with_reducible first | refine g1 fun _ => ?_ | refine g2 fun _ => ?_ | refine g3 ?_) | ((first | refine g4 ?_ | refine g5 fun _ _ => ?_ | refine g6 ?_); simp [-getElem?_pos, z0, z1, z2, hS, wz]) | ((first | refine AWp.ret ?_ | refine AWp.skip ?_ | refine AWp.exit ?_); try simp only [thenP]) | (with_reducible refine g7 ?_; simp only [blockP, thenP, reduceIte]) | with_reducible refine g8 ?_)
  refine AWp.seqFits hrest fun kj => ?_
  repeat (first | (with_reducible first | refine g1 fun _ => ?_ | refine g2 fun _ => ?_ | refine g3 ?_) | ((first | refine g4 ?_ | refine g5 fun _ _ => ?_ | refine g6 ?_); simp [-getElem?_pos, z0, z1, z2, hS]) | ((first | refine AWp.ret ?_ | refine AWp.skip ?_ | refine AWp.exit ?_); try simp only [thenP]) | (with_reducible refine g7 ?_; simp only [blockP, thenP, reduceIte]) | with_reducible refine g8 ?_)
  refine AWp.loopK (ι := { k : Nat // k ≤ R.length }) (n := 10) (fun k => s5 B lr M R 7 (mkK x lo hi k.1).length k.1 []) (fun k => [(0, bW x), (1, bR lo hi), (2, .box 40 (if mkK x lo hi k.1 = [] then [.nilS, .nilS, .nilS, .nilS, .nilS, .nilS, .nilS] else [.own 3 (mkK x lo hi k.1).length 1, .own 4 (mkK x lo hi k.1).length 1, .own 5 (mkK x lo hi k.1).length 1, .own 6 (mkK x lo hi k.1).length 1, .own 7 (mkK x lo hi k.1).length 1, .own 8 (mkK x lo hi k.1).length 1, .own 9 (mkK x lo hi k.1).length 1]) false)] ++ (if mkK x lo hi k.1 = [] then [] else [rw1 3 (mkK x lo hi k.1) (-1), rw1 4 (mkK x lo hi k.1) 0, rw1 5 (mkK x lo hi k.1) 1, rw1 6 (mkK x lo hi k.1) 2, rw1 7 (mkK x lo hi k.1) 3, rw1 8 (mkK x lo hi k.1) 4, rw1 9 (mkK x lo hi k.1) 5])) (fun k => R.length - k.1) ⟨0, Nat.zero_le _⟩ [0, 1, 6, 100, 101, 102, 103, 104, 105, 106] ?_ ?_
  · refine ⟨by rfl, by simp [mkK_zero], by simp [or_imp, forall_and, mkK_zero] <;> (try (intro _hne; simp [_hne])), by decide⟩
  rintro ⟨k, hk⟩ kk
  by_cases hlt : k < R.length
  · obtain ⟨r, hr⟩ : ∃ r, R[k]? = some r := ⟨_, List.getElem?_eq_getElem hlt⟩
    have wk : IntKind.i64.wrap ((k : Int) + 1) = (k : Int) + 1 := wrap64_in (by omega)
    rcases hm : madeR x lo hi r with _ | _
    · obtain ⟨a1, a2⟩ := kno k r hr hm
      by_cases hM0 : mkK x lo hi k = []
      all_goals
        repeat (first | (with_reducible first | refine g1 fun _ => ?_ | refine g2 fun _ => ?_ | refine g3 ?_) | ((first | refine g4 ?_ | refine g5 fun _ _ => ?_ | refine g6 ?_); simp [-getElem?_pos, z0, z1, z2, hlt, hr, hM0]) | ((first | refine AWp.ret ?_ | refine AWp.skip ?_ | refine AWp.exit ?_); try simp only [thenP]) | (with_reducible refine g7 ?_; simp only [blockP, thenP, reduceIte]) | with_reducible refine g8 ?_)
        refine Exec.call [] a1 ?_ rfl ?_ ?_; (focus simp [-getElem?_pos]); (focus simp [-getElem?_pos, z0, z1, z2, hlt, hr, hM0, recD]); simp [-getElem?_pos, z0, z1, z2, hlt, hr, hM0, recD]
        repeat (first | (with_reducible first | refine g1 fun _ => ?_ | refine g2 fun _ => ?_ | refine g3 ?_) | ((first | refine g4 ?_ | refine g5 fun _ _ => ?_ | refine g6 ?_); simp [-getElem?_pos, z0, z1, z2, wk]) | ((first | refine AWp.ret ?_ | refine AWp.skip ?_ | refine AWp.exit ?_); try simp only [thenP]) | (with_reducible refine g7 ?_; simp only [blockP, thenP, reduceIte]) | with_reducible refine g8 ?_)
        refine LL.go ⟨k + 1, hlt⟩ [0, 1, 2, 3, 4, 5, 6, 7, 8, 9] ⟨by rfl, by simp [a2, hM0], by simp [or_imp, forall_and, a2, hM0] <;> (try (intro _hne; simp [_hne])), by decide⟩ ?_
        simp; omega
    · obtain ⟨a1, a2, a3, a4, a5, a6⟩ := kyes k r hr hm
      obtain ⟨p1, q1, c1⟩ : lr[0]? = some (leftN x lo hi 0) ∧ r.2[0]? = some (ofN r 0) ∧ ACall Try.prog 49 [intL (leftN x lo hi 0), iD (ofN r 0)] (bD true) := a6 0 (by omega)
      obtain ⟨p2, q2, c2⟩ : lr[1]? = some (leftN x lo hi 1) ∧ r.2[1]? = some (ofN r 1) ∧ ACall Try.prog 49 [intL (leftN x lo hi 1), iD (ofN r 1)] (bD true) := a6 1 (by omega)
      obtain ⟨p3, q3, c3⟩ : lr[2]? = some (leftN x lo hi 2) ∧ r.2[2]? = some (ofN r 2) ∧ ACall Try.prog 49 [intL (leftN x lo hi 2), iD (ofN r 2)] (bD true) := a6 2 (by omega)
      obtain ⟨p4, q4, c4⟩ : lr[3]? = some (leftN x lo hi 3) ∧ r.2[3]? = some (ofN r 3) ∧ ACall Try.prog 49 [intL (leftN x lo hi 3), iD (ofN r 3)] (bD true) := a6 3 (by omega)
      obtain ⟨p5, q5, c5⟩ : lr[4]? = some (leftN x lo hi 4) ∧ r.2[4]? = some (ofN r 4) ∧ ACall Try.prog 49 [intL (leftN x lo hi 4), iD (ofN r 4)] (bD true) := a6 4 (by omega)
      obtain ⟨p6, q6, c6⟩ : lr[5]? = some (leftN x lo hi 5) ∧ r.2[5]? = some (ofN r 5) ∧ ACall Try.prog 49 [intL (leftN x lo hi 5), iD (ofN r 5)] (bD true) := a6 5 (by omega)
      have hl400 := Nat.le_trans (mkle k) hRl
      generalize histVals x r.1 r.2 lo hi = hv at *
      obtain ⟨y0, hy0⟩ : ∃ y, r.1 = y := ⟨_, rfl⟩
      have hof0 : ofN r (-1) = y0 := hy0
      obtain ⟨y1, hof1⟩ : ∃ y, ofN r 0 = y := ⟨_, rfl⟩
      obtain ⟨l1, hl1⟩ : ∃ l, leftN x lo hi 0 = l := ⟨_, rfl⟩
      rw [hof1] at q1 c1; rw [hl1] at p1 c1
      obtain ⟨y2, hof2⟩ : ∃ y, ofN r 1 = y := ⟨_, rfl⟩
      obtain ⟨l2, hl2⟩ : ∃ l, leftN x lo hi 1 = l := ⟨_, rfl⟩
      rw [hof2] at q2 c2; rw [hl2] at p2 c2
      obtain ⟨y3, hof3⟩ : ∃ y, ofN r 2 = y := ⟨_, rfl⟩
      obtain ⟨l3, hl3⟩ : ∃ l, leftN x lo hi 2 = l := ⟨_, rfl⟩
      rw [hof3] at q3 c3; rw [hl3] at p3 c3
      obtain ⟨y4, hof4⟩ : ∃ y, ofN r 3 = y := ⟨_, rfl⟩
      obtain ⟨l4, hl4⟩ : ∃ l, leftN x lo hi 3 = l := ⟨_, rfl⟩
      rw [hof4] at q4 c4; rw [hl4] at p4 c4
      obtain ⟨y5, hof5⟩ : ∃ y, ofN r 4 = y := ⟨_, rfl⟩
      obtain ⟨l5, hl5⟩ : ∃ l, leftN x lo hi 4 = l := ⟨_, rfl⟩
      rw [hof5] at q5 c5; rw [hl5] at p5 c5
      obtain ⟨y6, hof6⟩ : ∃ y, ofN r 5 = y := ⟨_, rfl⟩
      obtain ⟨l6, hl6⟩ : ∃ l, leftN x lo hi 5 = l := ⟨_, rfl⟩
      rw [hof6] at q6 c6; rw [hl6] at p6 c6
      obtain ⟨l, hl⟩ : ∃ l, mkK x lo hi k = l := ⟨_, rfl⟩
      rw [hl] at a4 hl400
      have wl : IntKind.i64.wrap ((l.length : Int) + 1) = (l.length : Int) + 1 := wrap64_in (by omega)
      have f0 : (seenL l (-1)).length = l.length := seenL_len l (-1)
      have f1 : (seenL l 0).length = l.length := seenL_len l 0
      have f2 : (seenL l 1).length = l.length := seenL_len l 1
      have f3 : (seenL l 2).length = l.length := seenL_len l 2
      have f4 : (seenL l 3).length = l.length := seenL_len l 3
      have f5 : (seenL l 4).length = l.length := seenL_len l 4
      have f6 : (seenL l 5).length = l.length := seenL_len l 5
      rw [hy0] at a3
      have fb : fitsB (l.length + 1) 8 = true := fitsB_small (by omega) (by decide)
      by_cases hM0 : l = []
      · subst hM0
        have w1 : IntKind.i64.wrap 1 = 1 := by decide
        repeat (first | (with_reducible first | refine g1 fun _ => ?_ | refine g2 fun _ => ?_ | refine g3 ?_) | ((first | refine g4 ?_ | refine g5 fun _ _ => ?_ | refine g6 ?_); simp [-getElem?_pos, z0, z1, z2, hlt, hr, hl, hy0]) | ((first | refine AWp.ret ?_ | refine AWp.skip ?_ | refine AWp.exit ?_); try simp only [thenP]) | (with_reducible refine g7 ?_; simp only [blockP, thenP, reduceIte]) | with_reducible refine g8 ?_)
        refine Exec.call [] a1 ?_ rfl ?_ ?_; (focus simp [-getElem?_pos]); (focus simp [-getElem?_pos, z0, z1, z2, hlt, hr, hl, hy0, recD]); simp [-getElem?_pos, z0, z1, z2, hlt, hr, hl, hy0, recD]
        repeat (first | (with_reducible first | refine g1 fun _ => ?_ | refine g2 fun _ => ?_ | refine g3 ?_) | ((first | refine g4 ?_ | refine g5 fun _ _ => ?_ | refine g6 ?_); simp [-getElem?_pos, z0, z1, z2, hlt, hr, hl, hy0]) | ((first | refine AWp.ret ?_ | refine AWp.skip ?_ | refine AWp.exit ?_); try simp only [thenP]) | (with_reducible refine g7 ?_; simp only [blockP, thenP, reduceIte]) | with_reducible refine g8 ?_)
        refine Exec.call [] a2 ?_ rfl ?_ ?_; (focus simp [-getElem?_pos]); (focus simp [-getElem?_pos, z0, z1, z2, hlt, hr, hl, hy0, recD]); simp [-getElem?_pos, z0, z1, z2, hlt, hr, hl, hy0, recD]
        refine Exec.call [] a3 ?_ rfl ?_ ?_; (focus simp [-getElem?_pos]); (focus simp [-getElem?_pos, z0, z1, z2, hlt, hr, hl, hy0, recD]); simp [-getElem?_pos, z0, z1, z2, hlt, hr, hl, hy0, recD]
        repeat (first | (with_reducible first | refine g1 fun _ => ?_ | refine g2 fun _ => ?_ | refine g3 ?_) | ((first | refine g4 ?_ | refine g5 fun _ _ => ?_ | refine g6 ?_); simp [-getElem?_pos, z0, z1, z2, hlt, hr, hl, hy0, w1]) | ((first | refine AWp.ret ?_ | refine AWp.skip ?_ | refine AWp.exit ?_); try simp only [thenP]) | (with_reducible refine g7 ?_; simp only [blockP, thenP, reduceIte]) | with_reducible refine g8 ?_)
        refine AWp.loopK (ι := { i : Nat // i ≤ 6 }) (n := 10) (fun i => if i.1 = 0 then s5 B lr M R 7 (1) k [(28, .d (iD 0))] else if i.1 = 1 then s5 B lr M R 7 (1) k [(28, .d (iD 1))] else if i.1 = 2 then s5 B lr M R 7 (1) k [(28, .d (iD 2))] else if i.1 = 3 then s5 B lr M R 7 (1) k [(28, .d (iD 3))] else if i.1 = 4 then s5 B lr M R 7 (1) k [(28, .d (iD 4))] else if i.1 = 5 then s5 B lr M R 7 (1) k [(28, .d (iD 5))] else s5 B lr M R 7 (1) k [(28, .d (iD 6))]) (fun i => if i.1 = 0 then [(0, bW x), (1, bR lo hi), (2, .box 40 [.own 3 1 1, .nilS, .nilS, .nilS, .nilS, .nilS, .nilS] false), rw3 3 y0] else if i.1 = 1 then [(0, bW x), (1, bR lo hi), (2, .box 40 [.own 3 1 1, .own 4 1 1, .nilS, .nilS, .nilS, .nilS, .nilS] false), rw3 3 y0, rw3 4 y1] else if i.1 = 2 then [(0, bW x), (1, bR lo hi), (2, .box 40 [.own 3 1 1, .own 4 1 1, .own 5 1 1, .nilS, .nilS, .nilS, .nilS] false), rw3 3 y0, rw3 4 y1, rw3 5 y2] else if i.1 = 3 then [(0, bW x), (1, bR lo hi), (2, .box 40 [.own 3 1 1, .own 4 1 1, .own 5 1 1, .own 6 1 1, .nilS, .nilS, .nilS] false), rw3 3 y0, rw3 4 y1, rw3 5 y2, rw3 6 y3] else if i.1 = 4 then [(0, bW x), (1, bR lo hi), (2, .box 40 [.own 3 1 1, .own 4 1 1, .own 5 1 1, .own 6 1 1, .own 7 1 1, .nilS, .nilS] false), rw3 3 y0, rw3 4 y1, rw3 5 y2, rw3 6 y3, rw3 7 y4] else if i.1 = 5 then [(0, bW x), (1, bR lo hi), (2, .box 40 [.own 3 1 1, .own 4 1 1, .own 5 1 1, .own 6 1 1, .own 7 1 1, .own 8 1 1, .nilS] false), rw3 3 y0, rw3 4 y1, rw3 5 y2, rw3 6 y3, rw3 7 y4, rw3 8 y5] else [(0, bW x), (1, bR lo hi), (2, .box 40 [.own 3 1 1, .own 4 1 1, .own 5 1 1, .own 6 1 1, .own 7 1 1, .own 8 1 1, .own 9 1 1] false), rw3 3 y0, rw3 4 y1, rw3 5 y2, rw3 6 y3, rw3 7 y4, rw3 8 y5, rw3 9 y6]) (fun i => 6 - i.1) ⟨0, by omega⟩ [0, 1, 2, 60, 100, 101, 102, 103, 104, 105] ?_ ?_
        · refine ⟨by rfl, by simp [hlt, hr, hl, hy0], by simp [or_imp, forall_and, hlt, hr, hl, hy0] <;> (try (intro _hne; simp [_hne])), by decide⟩
        rintro ⟨i, hi⟩ ki
        match i, hi with
        | 0, _ =>
          have wi : IntKind.i64.wrap 1 = 1 := by decide
          repeat (first | (with_reducible first | refine g1 fun _ => ?_ | refine g2 fun _ => ?_ | refine g3 ?_) | ((first | refine g4 ?_ | refine g5 fun _ _ => ?_ | refine g6 ?_); simp [-getElem?_pos, z0, z1, z2, hlen2, p1, q1, hlt, hr, a5]) | ((first | refine AWp.ret ?_ | refine AWp.skip ?_ | refine AWp.exit ?_); try simp only [thenP]) | (with_reducible refine g7 ?_; simp only [blockP, thenP, reduceIte]) | with_reducible refine g8 ?_)
          refine Exec.call [] c1 ?_ rfl ?_ ?_; (focus simp [-getElem?_pos]); (focus simp [-getElem?_pos, z0, z1, z2, hlen2, p1, q1, hlt, hr, a5]); simp [-getElem?_pos, z0, z1, z2, hlen2, p1, q1, hlt, hr, a5]
          repeat (first | (with_reducible first | refine g1 fun _ => ?_ | refine g2 fun _ => ?_ | refine g3 ?_) | ((first | refine g4 ?_ | refine g5 fun _ _ => ?_ | refine g6 ?_); simp [-getElem?_pos, z0, z1, z2, hlen2, p1, q1, hlt, hr, a5, wi]) | ((first | refine AWp.ret ?_ | refine AWp.skip ?_ | refine AWp.exit ?_); try simp only [thenP]) | (with_reducible refine g7 ?_; simp only [blockP, thenP, reduceIte]) | with_reducible refine g8 ?_)
          refine LL.go ⟨1, by omega⟩ [0, 1, 2, 3, 45, 102, 103, 104, 105, 106] ⟨by rfl, by simp [hlen2, p1, q1, hlt, hr, a5, wi], by simp [or_imp, forall_and, hlen2, p1, q1, hlt, hr, a5, wi] <;> (try (intro _hne; simp [_hne])), by decide⟩ ?_
          simp
        | 1, _ =>
          have wi : IntKind.i64.wrap 2 = 2 := by decide
          repeat (first | (with_reducible first | refine g1 fun _ => ?_ | refine g2 fun _ => ?_ | refine g3 ?_) | ((first | refine g4 ?_ | refine g5 fun _ _ => ?_ | refine g6 ?_); simp [-getElem?_pos, z0, z1, z2, hlen2, p2, q2, hlt, hr, a5]) | ((first | refine AWp.ret ?_ | refine AWp.skip ?_ | refine AWp.exit ?_); try simp only [thenP]) | (with_reducible refine g7 ?_; simp only [blockP, thenP, reduceIte]) | with_reducible refine g8 ?_)
          refine Exec.call [] c2 ?_ rfl ?_ ?_; (focus simp [-getElem?_pos]); (focus simp [-getElem?_pos, z0, z1, z2, hlen2, p2, q2, hlt, hr, a5]); simp [-getElem?_pos, z0, z1, z2, hlen2, p2, q2, hlt, hr, a5]
          repeat (first | (with_reducible first | refine g1 fun _ => ?_ | refine g2 fun _ => ?_ | refine g3 ?_) | ((first | refine g4 ?_ | refine g5 fun _ _ => ?_ | refine g6 ?_); simp [-getElem?_pos, z0, z1, z2, hlen2, p2, q2, hlt, hr, a5, wi]) | ((first | refine AWp.ret ?_ | refine AWp.skip ?_ | refine AWp.exit ?_); try simp only [thenP]) | (with_reducible refine g7 ?_; simp only [blockP, thenP, reduceIte]) | with_reducible refine g8 ?_)
          refine LL.go ⟨2, by omega⟩ [0, 1, 2, 3, 4, 45, 103, 104, 105, 106] ⟨by rfl, by simp [hlen2, p2, q2, hlt, hr, a5, wi], by simp [or_imp, forall_and, hlen2, p2, q2, hlt, hr, a5, wi] <;> (try (intro _hne; simp [_hne])), by decide⟩ ?_
          simp
        | 2, _ =>
          have wi : IntKind.i64.wrap 3 = 3 := by decide
          repeat (first | (with_reducible first | refine g1 fun _ => ?_ | refine g2 fun _ => ?_ | refine g3 ?_) | ((first | refine g4 ?_ | refine g5 fun _ _ => ?_ | refine g6 ?_); simp [-getElem?_pos, z0, z1, z2, hlen2, p3, q3, hlt, hr, a5]) | ((first | refine AWp.ret ?_ | refine AWp.skip ?_ | refine AWp.exit ?_); try simp only [thenP]) | (with_reducible refine g7 ?_; simp only [blockP, thenP, reduceIte]) | with_reducible refine g8 ?_)
          refine Exec.call [] c3 ?_ rfl ?_ ?_; (focus simp [-getElem?_pos]); (focus simp [-getElem?_pos, z0, z1, z2, hlen2, p3, q3, hlt, hr, a5]); simp [-getElem?_pos, z0, z1, z2, hlen2, p3, q3, hlt, hr, a5]
          repeat (first | (with_reducible first | refine g1 fun _ => ?_ | refine g2 fun _ => ?_ | refine g3 ?_) | ((first | refine g4 ?_ | refine g5 fun _ _ => ?_ | refine g6 ?_); simp [-getElem?_pos, z0, z1, z2, hlen2, p3, q3, hlt, hr, a5, wi]) | ((first | refine AWp.ret ?_ | refine AWp.skip ?_ | refine AWp.exit ?_); try simp only [thenP]) | (with_reducible refine g7 ?_; simp only [blockP, thenP, reduceIte]) | with_reducible refine g8 ?_)
          refine LL.go ⟨3, by omega⟩ [0, 1, 2, 3, 4, 5, 45, 104, 105, 106] ⟨by rfl, by simp [hlen2, p3, q3, hlt, hr, a5, wi], by simp [or_imp, forall_and, hlen2, p3, q3, hlt, hr, a5, wi] <;> (try (intro _hne; simp [_hne])), by decide⟩ ?_
          simp
        | 3, _ =>
          have wi : IntKind.i64.wrap 4 = 4 := by decide
          repeat (first | (with_reducible first | refine g1 fun _ => ?_ | refine g2 fun _ => ?_ | refine g3 ?_) | ((first | refine g4 ?_ | refine g5 fun _ _ => ?_ | refine g6 ?_); simp [-getElem?_pos, z0, z1, z2, hlen2, p4, q4, hlt, hr, a5]) | ((first | refine AWp.ret ?_ | refine AWp.skip ?_ | refine AWp.exit ?_); try simp only [thenP]) | (with_reducible refine g7 ?_; simp only [blockP, thenP, reduceIte]) | with_reducible refine g8 ?_)
          refine Exec.call [] c4 ?_ rfl ?_ ?_; (focus simp [-getElem?_pos]); (focus simp [-getElem?_pos, z0, z1, z2, hlen2, p4, q4, hlt, hr, a5]); simp [-getElem?_pos, z0, z1, z2, hlen2, p4, q4, hlt, hr, a5]
          repeat (first | (with_reducible first | refine g1 fun _ => ?_ | refine g2 fun _ => ?_ | refine g3 ?_) | ((first | refine g4 ?_ | refine g5 fun _ _ => ?_ | refine g6 ?_); simp [-getElem?_pos, z0, z1, z2, hlen2, p4, q4, hlt, hr, a5, wi]) | ((first | refine AWp.ret ?_ | refine AWp.skip ?_ | refine AWp.exit ?_); try simp only [thenP]) | (with_reducible refine g7 ?_; simp only [blockP, thenP, reduceIte]) | with_reducible refine g8 ?_)
          refine LL.go ⟨4, by omega⟩ [0, 1, 2, 3, 4, 5, 6, 45, 105, 106] ⟨by rfl, by simp [hlen2, p4, q4, hlt, hr, a5, wi], by simp [or_imp, forall_and, hlen2, p4, q4, hlt, hr, a5, wi] <;> (try (intro _hne; simp [_hne])), by decide⟩ ?_
          simp
        | 4, _ =>
          have wi : IntKind.i64.wrap 5 = 5 := by decide
          repeat (first | (with_reducible first | refine g1 fun _ => ?_ | refine g2 fun _ => ?_ | refine g3 ?_) | ((first | refine g4 ?_ | refine g5 fun _ _ => ?_ | refine g6 ?_); simp [-getElem?_pos, z0, z1, z2, hlen2, p5, q5, hlt, hr, a5]) | ((first | refine AWp.ret ?_ | refine AWp.skip ?_ | refine AWp.exit ?_); try simp only [thenP]) | (with_reducible refine g7 ?_; simp only [blockP, thenP, reduceIte]) | with_reducible refine g8 ?_)
          refine Exec.call [] c5 ?_ rfl ?_ ?_; (focus simp [-getElem?_pos]); (focus simp [-getElem?_pos, z0, z1, z2, hlen2, p5, q5, hlt, hr, a5]); simp [-getElem?_pos, z0, z1, z2, hlen2, p5, q5, hlt, hr, a5]
          repeat (first | (with_reducible first | refine g1 fun _ => ?_ | refine g2 fun _ => ?_ | refine g3 ?_) | ((first | refine g4 ?_ | refine g5 fun _ _ => ?_ | refine g6 ?_); simp [-getElem?_pos, z0, z1, z2, hlen2, p5, q5, hlt, hr, a5, wi]) | ((first | refine AWp.ret ?_ | refine AWp.skip ?_ | refine AWp.exit ?_); try simp only [thenP]) | (with_reducible refine g7 ?_; simp only [blockP, thenP, reduceIte]) | with_reducible refine g8 ?_)
          refine LL.go ⟨5, by omega⟩ [0, 1, 2, 3, 4, 5, 6, 7, 45, 106] ⟨by rfl, by simp [hlen2, p5, q5, hlt, hr, a5, wi], by simp [or_imp, forall_and, hlen2, p5, q5, hlt, hr, a5, wi] <;> (try (intro _hne; simp [_hne])), by decide⟩ ?_
          simp
        | 5, _ =>
          have wi : IntKind.i64.wrap 6 = 6 := by decide
          repeat (first | (with_reducible first | refine g1 fun _ => ?_ | refine g2 fun _ => ?_ | refine g3 ?_) | ((first | refine g4 ?_ | refine g5 fun _ _ => ?_ | refine g6 ?_); simp [-getElem?_pos, z0, z1, z2, hlen2, p6, q6, hlt, hr, a5]) | ((first | refine AWp.ret ?_ | refine AWp.skip ?_ | refine AWp.exit ?_); try simp only [thenP]) | (with_reducible refine g7 ?_; simp only [blockP, thenP, reduceIte]) | with_reducible refine g8 ?_)
          refine Exec.call [] c6 ?_ rfl ?_ ?_; (focus simp [-getElem?_pos]); (focus simp [-getElem?_pos, z0, z1, z2, hlen2, p6, q6, hlt, hr, a5]); simp [-getElem?_pos, z0, z1, z2, hlen2, p6, q6, hlt, hr, a5]
          repeat (first | (with_reducible first | refine g1 fun _ => ?_ | refine g2 fun _ => ?_ | refine g3 ?_) | ((first | refine g4 ?_ | refine g5 fun _ _ => ?_ | refine g6 ?_); simp [-getElem?_pos, z0, z1, z2, hlen2, p6, q6, hlt, hr, a5, wi]) | ((first | refine AWp.ret ?_ | refine AWp.skip ?_ | refine AWp.exit ?_); try simp only [thenP]) | (with_reducible refine g7 ?_; simp only [blockP, thenP, reduceIte]) | with_reducible refine g8 ?_)
          refine LL.go ⟨6, by omega⟩ [0, 1, 2, 3, 4, 5, 6, 7, 8, 45] ⟨by rfl, by simp [hlen2, p6, q6, hlt, hr, a5, wi], by simp [or_imp, forall_and, hlen2, p6, q6, hlt, hr, a5, wi] <;> (try (intro _hne; simp [_hne])), by decide⟩ ?_
          simp
        | 6, _ =>
          repeat (first | (with_reducible first | refine g1 fun _ => ?_ | refine g2 fun _ => ?_ | refine g3 ?_) | ((first | refine g4 ?_ | refine g5 fun _ _ => ?_ | refine g6 ?_); simp [-getElem?_pos, z0, z1, z2, hlen2, hlt, hr, hl, hy0, wk]) | ((first | refine AWp.ret ?_ | refine AWp.skip ?_ | refine AWp.exit ?_); try simp only [thenP]) | (with_reducible refine g7 ?_; simp only [blockP, thenP, reduceIte]) | with_reducible refine g8 ?_)
          refine LL.go ⟨k + 1, hlt⟩ [0, 1, 2, 3, 4, 5, 6, 7, 8, 9] ⟨by rfl, by simp [a4, seenL_app, seenL_one, iRows_app, hof0, hof1, hof2, hof3, hof4, hof5, hof6], by simp [or_imp, forall_and, a4, seenL_app, seenL_one, iRows_app, hof0, hof1, hof2, hof3, hof4, hof5, hof6] <;> (try (intro _hne; simp [_hne])), by decide⟩ ?_
          simp; omega
      · repeat (first | (with_reducible first | refine g1 fun _ => ?_ | refine g2 fun _ => ?_ | refine g3 ?_) | ((first | refine g4 ?_ | refine g5 fun _ _ => ?_ | refine g6 ?_); simp [-getElem?_pos, z0, z1, z2, hlt, hr, hl, hM0, hy0]) | ((first | refine AWp.ret ?_ | refine AWp.skip ?_ | refine AWp.exit ?_); try simp only [thenP]) | (with_reducible refine g7 ?_; simp only [blockP, thenP, reduceIte]) | with_reducible refine g8 ?_)
        refine Exec.call [] a1 ?_ rfl ?_ ?_; (focus simp [-getElem?_pos]); (focus simp [-getElem?_pos, z0, z1, z2, hlt, hr, hl, hM0, hy0, recD]); simp [-getElem?_pos, z0, z1, z2, hlt, hr, hl, hM0, hy0, recD]
        repeat (first | (with_reducible first | refine g1 fun _ => ?_ | refine g2 fun _ => ?_ | refine g3 ?_) | ((first | refine g4 ?_ | refine g5 fun _ _ => ?_ | refine g6 ?_); simp [-getElem?_pos, z0, z1, z2, hlt, hr, hl, hM0, hy0]) | ((first | refine AWp.ret ?_ | refine AWp.skip ?_ | refine AWp.exit ?_); try simp only [thenP]) | (with_reducible refine g7 ?_; simp only [blockP, thenP, reduceIte]) | with_reducible refine g8 ?_)
        refine Exec.call [] a2 ?_ rfl ?_ ?_; (focus simp [-getElem?_pos]); (focus simp [-getElem?_pos, z0, z1, z2, hlt, hr, hl, hM0, hy0, recD]); simp [-getElem?_pos, z0, z1, z2, hlt, hr, hl, hM0, hy0, recD]
        refine Exec.call [] a3 ?_ rfl ?_ ?_; (focus simp [-getElem?_pos]); (focus simp [-getElem?_pos, z0, z1, z2, hlt, hr, hl, hM0, hy0, recD]); simp [-getElem?_pos, z0, z1, z2, hlt, hr, hl, hM0, hy0, recD]
        repeat (first | (with_reducible first | refine g1 fun _ => ?_ | refine g2 fun _ => ?_ | refine g3 ?_) | ((first | refine g4 ?_ | refine g5 fun _ _ => ?_ | refine g6 ?_); simp [-getElem?_pos, z0, z1, z2, hlt, hr, hl, hM0, hy0, wl, f0, fb]) | ((first | refine AWp.ret ?_ | refine AWp.skip ?_ | refine AWp.exit ?_); try simp only [thenP]) | (with_reducible refine g7 ?_; simp only [blockP, thenP, reduceIte]) | with_reducible refine g8 ?_)
        refine AWp.loopK (ι := { i : Nat // i ≤ 6 }) (n := 10) (fun i => if i.1 = 0 then s5 B lr M R 7 ((l.length : Int) + 1) k [(28, .d (iD 0))] else if i.1 = 1 then s5 B lr M R 7 ((l.length : Int) + 1) k [(28, .d (iD 1))] else if i.1 = 2 then s5 B lr M R 7 ((l.length : Int) + 1) k [(28, .d (iD 2))] else if i.1 = 3 then s5 B lr M R 7 ((l.length : Int) + 1) k [(28, .d (iD 3))] else if i.1 = 4 then s5 B lr M R 7 ((l.length : Int) + 1) k [(28, .d (iD 4))] else if i.1 = 5 then s5 B lr M R 7 ((l.length : Int) + 1) k [(28, .d (iD 5))] else s5 B lr M R 7 ((l.length : Int) + 1) k [(28, .d (iD 6))]) (fun i => if i.1 = 0 then [(0, bW x), (1, bR lo hi), (2, .box 40 [.own 3 (l.length + 1) 1, .own 4 l.length 1, .own 5 l.length 1, .own 6 l.length 1, .own 7 l.length 1, .own 8 l.length 1, .own 9 l.length 1] false), rw2 3 l (-1) y0, rw1 4 l 0, rw1 5 l 1, rw1 6 l 2, rw1 7 l 3, rw1 8 l 4, rw1 9 l 5] else if i.1 = 1 then [(0, bW x), (1, bR lo hi), (2, .box 40 [.own 3 (l.length + 1) 1, .own 4 (l.length + 1) 1, .own 5 l.length 1, .own 6 l.length 1, .own 7 l.length 1, .own 8 l.length 1, .own 9 l.length 1] false), rw2 3 l (-1) y0, rw2 4 l 0 y1, rw1 5 l 1, rw1 6 l 2, rw1 7 l 3, rw1 8 l 4, rw1 9 l 5] else if i.1 = 2 then [(0, bW x), (1, bR lo hi), (2, .box 40 [.own 3 (l.length + 1) 1, .own 4 (l.length + 1) 1, .own 5 (l.length + 1) 1, .own 6 l.length 1, .own 7 l.length 1, .own 8 l.length 1, .own 9 l.length 1] false), rw2 3 l (-1) y0, rw2 4 l 0 y1, rw2 5 l 1 y2, rw1 6 l 2, rw1 7 l 3, rw1 8 l 4, rw1 9 l 5] else if i.1 = 3 then [(0, bW x), (1, bR lo hi), (2, .box 40 [.own 3 (l.length + 1) 1, .own 4 (l.length + 1) 1, .own 5 (l.length + 1) 1, .own 6 (l.length + 1) 1, .own 7 l.length 1, .own 8 l.length 1, .own 9 l.length 1] false), rw2 3 l (-1) y0, rw2 4 l 0 y1, rw2 5 l 1 y2, rw2 6 l 2 y3, rw1 7 l 3, rw1 8 l 4, rw1 9 l 5] else if i.1 = 4 then [(0, bW x), (1, bR lo hi), (2, .box 40 [.own 3 (l.length + 1) 1, .own 4 (l.length + 1) 1, .own 5 (l.length + 1) 1, .own 6 (l.length + 1) 1, .own 7 (l.length + 1) 1, .own 8 l.length 1, .own 9 l.length 1] false), rw2 3 l (-1) y0, rw2 4 l 0 y1, rw2 5 l 1 y2, rw2 6 l 2 y3, rw2 7 l 3 y4, rw1 8 l 4, rw1 9 l 5] else if i.1 = 5 then [(0, bW x), (1, bR lo hi), (2, .box 40 [.own 3 (l.length + 1) 1, .own 4 (l.length + 1) 1, .own 5 (l.length + 1) 1, .own 6 (l.length + 1) 1, .own 7 (l.length + 1) 1, .own 8 (l.length + 1) 1, .own 9 l.length 1] false), rw2 3 l (-1) y0, rw2 4 l 0 y1, rw2 5 l 1 y2, rw2 6 l 2 y3, rw2 7 l 3 y4, rw2 8 l 4 y5, rw1 9 l 5] else [(0, bW x), (1, bR lo hi), (2, .box 40 [.own 3 (l.length + 1) 1, .own 4 (l.length + 1) 1, .own 5 (l.length + 1) 1, .own 6 (l.length + 1) 1, .own 7 (l.length + 1) 1, .own 8 (l.length + 1) 1, .own 9 (l.length + 1) 1] false), rw2 3 l (-1) y0, rw2 4 l 0 y1, rw2 5 l 1 y2, rw2 6 l 2 y3, rw2 7 l 3 y4, rw2 8 l 4 y5, rw2 9 l 5 y6]) (fun i => 6 - i.1) ⟨0, by omega⟩ [0, 1, 2, 60, 4, 5, 6, 7, 8, 9] ?_ ?_
        · refine ⟨by rfl, by simp [hlt, hr, hl, hM0, hy0, f0, fb], by simp [or_imp, forall_and, hlt, hr, hl, hM0, hy0, f0, fb] <;> (try (intro _hne; simp [_hne])), by decide⟩
        rintro ⟨i, hi⟩ ki
        match i, hi with
        | 0, _ =>
          have wi : IntKind.i64.wrap 1 = 1 := by decide
          repeat (first | (with_reducible first | refine g1 fun _ => ?_ | refine g2 fun _ => ?_ | refine g3 ?_) | ((first | refine g4 ?_ | refine g5 fun _ _ => ?_ | refine g6 ?_); simp [-getElem?_pos, z0, z1, z2, hlen2, p1, q1, f1, hlt, hr, a5, fb]) | ((first | refine AWp.ret ?_ | refine AWp.skip ?_ | refine AWp.exit ?_); try simp only [thenP]) | (with_reducible refine g7 ?_; simp only [blockP, thenP, reduceIte]) | with_reducible refine g8 ?_)
          refine Exec.call [] c1 ?_ rfl ?_ ?_; (focus simp [-getElem?_pos]); (focus simp [-getElem?_pos, z0, z1, z2, hlen2, p1, q1, f1, hlt, hr, a5, fb]); simp [-getElem?_pos, z0, z1, z2, hlen2, p1, q1, f1, hlt, hr, a5, fb]
          repeat (first | (with_reducible first | refine g1 fun _ => ?_ | refine g2 fun _ => ?_ | refine g3 ?_) | ((first | refine g4 ?_ | refine g5 fun _ _ => ?_ | refine g6 ?_); simp [-getElem?_pos, z0, z1, z2, hlen2, p1, q1, f1, hlt, hr, a5, fb, wi]) | ((first | refine AWp.ret ?_ | refine AWp.skip ?_ | refine AWp.exit ?_); try simp only [thenP]) | (with_reducible refine g7 ?_; simp only [blockP, thenP, reduceIte]) | with_reducible refine g8 ?_)
          refine LL.go ⟨1, by omega⟩ [0, 1, 2, 3, 45, 5, 6, 7, 8, 9] ⟨by rfl, by simp [hlen2, p1, q1, f1, hlt, hr, a5, fb, wi], by simp [or_imp, forall_and, hlen2, p1, q1, f1, hlt, hr, a5, fb, wi] <;> (try (intro _hne; simp [_hne])), by decide⟩ ?_
          simp
        | 1, _ =>
          have wi : IntKind.i64.wrap 2 = 2 := by decide
          repeat (first | (with_reducible first | refine g1 fun _ => ?_ | refine g2 fun _ => ?_ | refine g3 ?_) | ((first | refine g4 ?_ | refine g5 fun _ _ => ?_ | refine g6 ?_); simp [-getElem?_pos, z0, z1, z2, hlen2, p2, q2, f2, hlt, hr, a5, fb]) | ((first | refine AWp.ret ?_ | refine AWp.skip ?_ | refine AWp.exit ?_); try simp only [thenP]) | (with_reducible refine g7 ?_; simp only [blockP, thenP, reduceIte]) | with_reducible refine g8 ?_)
          refine Exec.call [] c2 ?_ rfl ?_ ?_; (focus simp [-getElem?_pos]); (focus simp [-getElem?_pos, z0, z1, z2, hlen2, p2, q2, f2, hlt, hr, a5, fb]); simp [-getElem?_pos, z0, z1, z2, hlen2, p2, q2, f2, hlt, hr, a5, fb]
          repeat (first | (with_reducible first | refine g1 fun _ => ?_ | refine g2 fun _ => ?_ | refine g3 ?_) | ((first | refine g4 ?_ | refine g5 fun _ _ => ?_ | refine g6 ?_); simp [-getElem?_pos, z0, z1, z2, hlen2, p2, q2, f2, hlt, hr, a5, fb, wi]) | ((first | refine AWp.ret ?_ | refine AWp.skip ?_ | refine AWp.exit ?_); try simp only [thenP]) | (with_reducible refine g7 ?_; simp only [blockP, thenP, reduceIte]) | with_reducible refine g8 ?_)
          refine LL.go ⟨2, by omega⟩ [0, 1, 2, 3, 4, 45, 6, 7, 8, 9] ⟨by rfl, by simp [hlen2, p2, q2, f2, hlt, hr, a5, fb, wi], by simp [or_imp, forall_and, hlen2, p2, q2, f2, hlt, hr, a5, fb, wi] <;> (try (intro _hne; simp [_hne])), by decide⟩ ?_
          simp
        | 2, _ =>
          have wi : IntKind.i64.wrap 3 = 3 := by decide
          repeat (first | (with_reducible first | refine g1 fun _ => ?_ | refine g2 fun _ => ?_ | refine g3 ?_) | ((first | refine g4 ?_ | refine g5 fun _ _ => ?_ | refine g6 ?_); simp [-getElem?_pos, z0, z1, z2, hlen2, p3, q3, f3, hlt, hr, a5, fb]) | ((first | refine AWp.ret ?_ | refine AWp.skip ?_ | refine AWp.exit ?_); try simp only [thenP]) | (with_reducible refine g7 ?_; simp only [blockP, thenP, reduceIte]) | with_reducible refine g8 ?_)
          refine Exec.call [] c3 ?_ rfl ?_ ?_; (focus simp [-getElem?_pos]); (focus simp [-getElem?_pos, z0, z1, z2, hlen2, p3, q3, f3, hlt, hr, a5, fb]); simp [-getElem?_pos, z0, z1, z2, hlen2, p3, q3, f3, hlt, hr, a5, fb]
          repeat (first | (with_reducible first | refine g1 fun _ => ?_ | refine g2 fun _ => ?_ | refine g3 ?_) | ((first | refine g4 ?_ | refine g5 fun _ _ => ?_ | refine g6 ?_); simp [-getElem?_pos, z0, z1, z2, hlen2, p3, q3, f3, hlt, hr, a5, fb, wi]) | ((first | refine AWp.ret ?_ | refine AWp.skip ?_ | refine AWp.exit ?_); try simp only [thenP]) | (with_reducible refine g7 ?_; simp only [blockP, thenP, reduceIte]) | with_reducible refine g8 ?_)
          refine LL.go ⟨3, by omega⟩ [0, 1, 2, 3, 4, 5, 45, 7, 8, 9] ⟨by rfl, by simp [hlen2, p3, q3, f3, hlt, hr, a5, fb, wi], by simp [or_imp, forall_and, hlen2, p3, q3, f3, hlt, hr, a5, fb, wi] <;> (try (intro _hne; simp [_hne])), by decide⟩ ?_
          simp
        | 3, _ =>
          have wi : IntKind.i64.wrap 4 = 4 := by decide
          repeat (first | (with_reducible first | refine g1 fun _ => ?_ | refine g2 fun _ => ?_ | refine g3 ?_) | ((first | refine g4 ?_ | refine g5 fun _ _ => ?_ | refine g6 ?_); simp [-getElem?_pos, z0, z1, z2, hlen2, p4, q4, f4, hlt, hr, a5, fb]) | ((first | refine AWp.ret ?_ | refine AWp.skip ?_ | refine AWp.exit ?_); try simp only [thenP]) | (with_reducible refine g7 ?_; simp only [blockP, thenP, reduceIte]) | with_reducible refine g8 ?_)
          refine Exec.call [] c4 ?_ rfl ?_ ?_; (focus simp [-getElem?_pos]); (focus simp [-getElem?_pos, z0, z1, z2, hlen2, p4, q4, f4, hlt, hr, a5, fb]); simp [-getElem?_pos, z0, z1, z2, hlen2, p4, q4, f4, hlt, hr, a5, fb]
          repeat (first | (with_reducible first | refine g1 fun _ => ?_ | refine g2 fun _ => ?_ | refine g3 ?_) | ((first | refine g4 ?_ | refine g5 fun _ _ => ?_ | refine g6 ?_); simp [-getElem?_pos, z0, z1, z2, hlen2, p4, q4, f4, hlt, hr, a5, fb, wi]) | ((first | refine AWp.ret ?_ | refine AWp.skip ?_ | refine AWp.exit ?_); try simp only [thenP]) | (with_reducible refine g7 ?_; simp only [blockP, thenP, reduceIte]) | with_reducible refine g8 ?_)
          refine LL.go ⟨4, by omega⟩ [0, 1, 2, 3, 4, 5, 6, 45, 8, 9] ⟨by rfl, by simp [hlen2, p4, q4, f4, hlt, hr, a5, fb, wi], by simp [or_imp, forall_and, hlen2, p4, q4, f4, hlt, hr, a5, fb, wi] <;> (try (intro _hne; simp [_hne])), by decide⟩ ?_
          simp
        | 4, _ =>
          have wi : IntKind.i64.wrap 5 = 5 := by decide
          repeat (first | (with_reducible first | refine g1 fun _ => ?_ | refine g2 fun _ => ?_ | refine g3 ?_) | ((first | refine g4 ?_ | refine g5 fun _ _ => ?_ | refine g6 ?_); simp [-getElem?_pos, z0, z1, z2, hlen2, p5, q5, f5, hlt, hr, a5, fb]) | ((first | refine AWp.ret ?_ | refine AWp.skip ?_ | refine AWp.exit ?_); try simp only [thenP]) | (with_reducible refine g7 ?_; simp only [blockP, thenP, reduceIte]) | with_reducible refine g8 ?_)
          refine Exec.call [] c5 ?_ rfl ?_ ?_; (focus simp [-getElem?_pos]); (focus simp [-getElem?_pos, z0, z1, z2, hlen2, p5, q5, f5, hlt, hr, a5, fb]); simp [-getElem?_pos, z0, z1, z2, hlen2, p5, q5, f5, hlt, hr, a5, fb]
          repeat (first | (with_reducible first | refine g1 fun _ => ?_ | refine g2 fun _ => ?_ | refine g3 ?_) | ((first | refine g4 ?_ | refine g5 fun _ _ => ?_ | refine g6 ?_); simp [-getElem?_pos, z0, z1, z2, hlen2, p5, q5, f5, hlt, hr, a5, fb, wi]) | ((first | refine AWp.ret ?_ | refine AWp.skip ?_ | refine AWp.exit ?_); try simp only [thenP]) | (with_reducible refine g7 ?_; simp only [blockP, thenP, reduceIte]) | with_reducible refine g8 ?_)
          refine LL.go ⟨5, by omega⟩ [0, 1, 2, 3, 4, 5, 6, 7, 45, 9] ⟨by rfl, by simp [hlen2, p5, q5, f5, hlt, hr, a5, fb, wi], by simp [or_imp, forall_and, hlen2, p5, q5, f5, hlt, hr, a5, fb, wi] <;> (try (intro _hne; simp [_hne])), by decide⟩ ?_
          simp
        | 5, _ =>
          have wi : IntKind.i64.wrap 6 = 6 := by decide
          repeat (first | (with_reducible first | refine g1 fun _ => ?_ | refine g2 fun _ => ?_ | refine g3 ?_) | ((first | refine g4 ?_ | refine g5 fun _ _ => ?_ | refine g6 ?_); simp [-getElem?_pos, z0, z1, z2, hlen2, p6, q6, f6, hlt, hr, a5, fb]) | ((first | refine AWp.ret ?_ | refine AWp.skip ?_ | refine AWp.exit ?_); try simp only [thenP]) | (with_reducible refine g7 ?_; simp only [blockP, thenP, reduceIte]) | with_reducible refine g8 ?_)
          refine Exec.call [] c6 ?_ rfl ?_ ?_; (focus simp [-getElem?_pos]); (focus simp [-getElem?_pos, z0, z1, z2, hlen2, p6, q6, f6, hlt, hr, a5, fb]); simp [-getElem?_pos, z0, z1, z2, hlen2, p6, q6, f6, hlt, hr, a5, fb]
          repeat (first | (with_reducible first | refine g1 fun _ => ?_ | refine g2 fun _ => ?_ | refine g3 ?_) | ((first | refine g4 ?_ | refine g5 fun _ _ => ?_ | refine g6 ?_); simp [-getElem?_pos, z0, z1, z2, hlen2, p6, q6, f6, hlt, hr, a5, fb, wi]) | ((first | refine AWp.ret ?_ | refine AWp.skip ?_ | refine AWp.exit ?_); try simp only [thenP]) | (with_reducible refine g7 ?_; simp only [blockP, thenP, reduceIte]) | with_reducible refine g8 ?_)
          refine LL.go ⟨6, by omega⟩ [0, 1, 2, 3, 4, 5, 6, 7, 8, 45] ⟨by rfl, by simp [hlen2, p6, q6, f6, hlt, hr, a5, fb, wi], by simp [or_imp, forall_and, hlen2, p6, q6, f6, hlt, hr, a5, fb, wi] <;> (try (intro _hne; simp [_hne])), by decide⟩ ?_
          simp
        | 6, _ =>
          repeat (first | (with_reducible first | refine g1 fun _ => ?_ | refine g2 fun _ => ?_ | refine g3 ?_) | ((first | refine g4 ?_ | refine g5 fun _ _ => ?_ | refine g6 ?_); simp [-getElem?_pos, z0, z1, z2, hlen2, hlt, hr, hl, hM0, hy0, wk]) | ((first | refine AWp.ret ?_ | refine AWp.skip ?_ | refine AWp.exit ?_); try simp only [thenP]) | (with_reducible refine g7 ?_; simp only [blockP, thenP, reduceIte]) | with_reducible refine g8 ?_)
          refine LL.go ⟨k + 1, hlt⟩ [0, 1, 2, 3, 4, 5, 6, 7, 8, 9] ⟨by rfl, by simp [a4, seenL_app, seenL_one, iRows_app, hof0, hof1, hof2, hof3, hof4, hof5, hof6], by simp [or_imp, forall_and, a4, seenL_app, seenL_one, iRows_app, hof0, hof1, hof2, hof3, hof4, hof5, hof6] <;> (try (intro _hne; simp [_hne])), by decide⟩ ?_
          simp; omega
  · obtain rfl : k = R.length := by omega
    have hne := mkne
    refine AWp.shutL 23 2 7 (ty := 40) (cells := [.own 3 (mkK x lo hi R.length).length 1, .own 4 (mkK x lo hi R.length).length 1, .own 5 (mkK x lo hi R.length).length 1, .own 6 (mkK x lo hi R.length).length 1, .own 7 (mkK x lo hi R.length).length 1, .own 8 (mkK x lo hi R.length).length 1, .own 9 (mkK x lo hi R.length).length 1]) (ds := [.list (iRows (seenL (mkK x lo hi R.length) (-1))), .list (iRows (seenL (mkK x lo hi R.length) 0)), .list (iRows (seenL (mkK x lo hi R.length) 1)), .list (iRows (seenL (mkK x lo hi R.length) 2)), .list (iRows (seenL (mkK x lo hi R.length) 3)), .list (iRows (seenL (mkK x lo hi R.length) 4)), .list (iRows (seenL (mkK x lo hi R.length) 5))]) (is := [3, 4, 5, 6, 7, 8, 9]) (by rfl) (by simp [hne]) (by simp [hne, seenL_len]) (by simp) (by simp [maxLen]) ?_
    repeat (first | (with_reducible first | refine g1 fun _ => ?_ | refine g2 fun _ => ?_ | refine g3 ?_) | ((first | refine g4 ?_ | refine g5 fun _ _ => ?_ | refine g6 ?_); simp [-getElem?_pos, z0, z1, z2, hne]) | ((first | refine AWp.ret ?_ | refine AWp.skip ?_ | refine AWp.exit ?_); try simp only [thenP]) | (with_reducible refine g7 ?_; simp only [blockP, thenP, reduceIte]) | with_reducible refine g8 ?_)
    exact JJ.go [2] ⟨by rfl, by simp [hne, mkall, mklen, seenRows, listRows, List.range_succ], by simp [or_imp, forall_and, hne, mkall, mklen, seenRows, listRows, List.range_succ], by decide⟩
end Go.Proofs.Ytigpefjeelgfdaa.Eng

/-
  Layer 1's statements, by the engine: who is to blame, for a valid works.
-/
namespace Go.Proofs.Ytigpefjeelgfdaa.Eng
open Go.RowKit

set_option maxRecDepth 100000 in
set_option maxHeartbeats 4000000 in
theorem blamed_in (x : Works) (nums lives : List Int) (a b : Int) (ha0 : 0 ≤ a) (ha1 : a ≤ 255) (hb0 : 0 ≤ b) (hb1 : b ≤ 255) (hgb : fineB x = true) (hfb : fullB x = false) (hl : ¬ (20 : Int) < nums.length) (hl2 : ¬ (20 : Int) < lives.length) (hnw : ∀ n ∈ nums, (Lit.int .u8 n).wf = true) (hlw : ∀ n ∈ lives, (Lit.int .u32 n).wf = true) :
    WCall Try.prog 9 [worksD x, kintL .u8 nums, kintL .u32 lives, .agg [.val (.int .u8 a), .val (.int .u8 b)]] (bD true) := by
  have hg := fine_c x
  have hf := full_c x
  have hw := works_c
  rw [hgb] at hg
  rw [hfb] at hf
  have hx := fineB_works hgb
  have h1c := one_c hx nums hnw
  have wa : IntKind.i64.wrap a = a := wrap64_in (by omega)
  have wb : IntKind.i64.wrap b = b := wrap64_in (by omega)
  have wS : IntKind.i64.wrap (x.steps.length : Int) = x.steps.length := wrap64_in (by have := (manyOk_iff.1 (worksOk_iff.1 hx).1).2.2.1; omega)
  refine wcallK tabOk Try.func9 rfl rfl (show 4 ≤ _ by decide) rfl fun _ => ?_; simp only [Try.ntmps9]
  (first | (with_reducible first | refine g1 fun _ => ?_ | refine g2 fun _ => ?_ | refine g3 ?_) | ((first | refine g4 ?_ | refine g5 fun _ _ => ?_ | refine g6 ?_); simp [-getElem?_pos, z0, z1, z2, ]) | ((first | refine AWp.ret ?_ | refine AWp.skip ?_ | refine AWp.exit ?_); try simp only [thenP]) | (with_reducible refine g7 ?_; simp only [blockP, thenP, reduceIte]) | with_reducible refine g8 ?_)
  (first | (with_reducible first | refine g1 fun _ => ?_ | refine g2 fun _ => ?_ | refine g3 ?_) | ((first | refine g4 ?_ | refine g5 fun _ _ => ?_ | refine g6 ?_); simp [-getElem?_pos, z0, z1, z2, ]) | ((first | refine AWp.ret ?_ | refine AWp.skip ?_ | refine AWp.exit ?_); try simp only [thenP]) | (with_reducible refine g7 ?_; simp only [blockP, thenP, reduceIte]) | with_reducible refine g8 ?_)
  (first | (with_reducible first | refine g1 fun _ => ?_ | refine g2 fun _ => ?_ | refine g3 ?_) | ((first | refine g4 ?_ | refine g5 fun _ _ => ?_ | refine g6 ?_); simp [-getElem?_pos, z0, z1, z2, ]) | ((first | refine AWp.ret ?_ | refine AWp.skip ?_ | refine AWp.exit ?_); try simp only [thenP]) | (with_reducible refine g7 ?_; simp only [blockP, thenP, reduceIte]) | with_reducible refine g8 ?_)
  refine AWp.fits (n := 2) (l := [(1, .d (kintL .u8 nums)), (2, .d (kintL .u32 lives)), (4, .ptr 0 0 0), (7, .ptr 1 0 0)]) (m := [(0, .box 25 [.d (.list (rgRows x.bars)), .d (.list (stepRows x.steps))] false), (1, .box 75 [.d (.val (.int .u8 a)), .d (.val (.int .u8 b))] false)]) (σ := [0, 1]) ⟨by rfl, by simp, by simp [or_imp, forall_and], by decide⟩ (AWp.frost ?_); simp only [List.map_cons, List.map_nil, frzB]
  repeat (first | (with_reducible first | refine g1 fun _ => ?_ | refine g2 fun _ => ?_ | refine g3 ?_) | ((first | refine g4 ?_ | refine g5 fun _ _ => ?_ | refine g6 ?_); simp [-getElem?_pos, z0, z1, z2, hl, hl2]) | ((first | refine AWp.ret ?_ | refine AWp.skip ?_ | refine AWp.exit ?_); try simp only [thenP]) | (with_reducible refine g7 ?_; simp only [blockP, thenP, reduceIte]) | with_reducible refine g8 ?_)
  refine Exec0.call [] hg ?_ rfl ?_ ?_; (focus simp [-getElem?_pos]); (focus simp [-getElem?_pos, z0, z1, z2, ]); simp [-getElem?_pos, z0, z1, z2, ]
  repeat (first | (with_reducible first | refine g1 fun _ => ?_ | refine g2 fun _ => ?_ | refine g3 ?_) | ((first | refine g4 ?_ | refine g5 fun _ _ => ?_ | refine g6 ?_); simp [-getElem?_pos, z0, z1, z2, hl, hl2]) | ((first | refine AWp.ret ?_ | refine AWp.skip ?_ | refine AWp.exit ?_); try simp only [thenP]) | (with_reducible refine g7 ?_; simp only [blockP, thenP, reduceIte]) | with_reducible refine g8 ?_)
  refine Exec0.call [] hf ?_ rfl ?_ ?_; (focus simp [-getElem?_pos]); (focus simp [-getElem?_pos, z0, z1, z2, hl, hl2]); simp [-getElem?_pos, z0, z1, z2, hl, hl2]
  repeat (first | (with_reducible first | refine g1 fun _ => ?_ | refine g2 fun _ => ?_ | refine g3 ?_) | ((first | refine g4 ?_ | refine g5 fun _ _ => ?_ | refine g6 ?_); simp [-getElem?_pos, z0, z1, z2, hl, hl2]) | ((first | refine AWp.ret ?_ | refine AWp.skip ?_ | refine AWp.exit ?_); try simp only [thenP]) | (with_reducible refine g7 ?_; simp only [blockP, thenP, reduceIte]) | with_reducible refine g8 ?_)
  refine Exec0.callE h1c rfl (by simp [-getElem?_pos, recD]) rfl (by simp [-getElem?_pos, z0, z1, z2, recD]) (AllFrz_mk (by simp [Blk.frz])) ?_; rintro _ ⟨m, ways, rfl, ok⟩; simp [-getElem?_pos, z0, z1, z2, recD]
  iterate 1 (first | (with_reducible first | refine g1 fun _ => ?_ | refine g2 fun _ => ?_ | refine g3 ?_) | ((first | refine g4 ?_ | refine g5 fun _ _ => ?_ | refine g6 ?_); simp [-getElem?_pos, z0, z1, z2, ]) | ((first | refine AWp.ret ?_ | refine AWp.skip ?_ | refine AWp.exit ?_); try simp only [thenP]) | (with_reducible refine g7 ?_; simp only [blockP, thenP, reduceIte]) | with_reducible refine g8 ?_)
  refine AWp.fits (n := 3) (l := [(2, .d (kintL .u32 lives)), (4, .ptr 0 0 0), (7, .ptr 1 0 0), (9, .ptr 2 0 0)]) (m := [(0, .box 25 [.d (.list (rgRows x.bars)), .d (.list (stepRows x.steps))] true), (1, .box 75 [.d (.val (.int .u8 a)), .d (.val (.int .u8 b))] true), (2, .box 42 [.d (iD m), .d (intL ways)] false)]) (σ := [0, 1, 22]) ⟨by rfl, by simp, by simp [or_imp, forall_and], by decide⟩ (AWp.frost ?_); simp only [List.map_cons, List.map_nil, frzB]
  have h2c := true_c ok lives hlw
  repeat (first | (with_reducible first | refine g1 fun _ => ?_ | refine g2 fun _ => ?_ | refine g3 ?_) | ((first | refine g4 ?_ | refine g5 fun _ _ => ?_ | refine g6 ?_); simp [-getElem?_pos, z0, z1, z2, ]) | ((first | refine AWp.ret ?_ | refine AWp.skip ?_ | refine AWp.exit ?_); try simp only [thenP]) | (with_reducible refine g7 ?_; simp only [blockP, thenP, reduceIte]) | with_reducible refine g8 ?_)
  refine Exec0.callE h2c rfl (by simp [-getElem?_pos, recD]) rfl (by simp [-getElem?_pos, z0, z1, z2, recD]) (AllFrz_mk (by simp [Blk.frz])) ?_; rintro _ ⟨hist, rfl, hh, hlen⟩; simp [-getElem?_pos, z0, z1, z2, recD]
  obtain ⟨E, hE⟩ : ∃ E, hist[x.steps.length]? = some E := ⟨_, List.getElem?_eq_getElem (by omega)⟩
  have hEi : intAt hist x.steps.length = E := by simp [intAt, List.getD_eq_getElem?_getD, hE]
  have hEr := hist_rng ok hh hlen x.steps.length (Nat.le_refl _)
  rw [hEi] at hEr
  have hEv := rngN_val ok x.steps.length (Nat.le_refl _)
  have wE1 : IntKind.i64.wrap (E - a) = E - a := wrap64_in (by omega)
  have wE2 : IntKind.i64.wrap (E + b) = E + b := wrap64_in (by omega)
  obtain ⟨lo, hlo⟩ : ∃ lo, (if a < E then E - a else 0) = lo := ⟨_, rfl⟩
  obtain ⟨hi, hhi⟩ : ∃ hi, (if E + b < 1000 then E + b else 1000) = hi := ⟨_, rfl⟩
  have hlo1 : 0 ≤ lo ∧ lo ≤ E := by rw [← hlo]; split <;> omega
  have hhi1 : E ≤ hi ∧ hi ≤ 1000 := by rw [← hhi]; split <;> omega
  have hhard : isHardB lo hi = true := isHardB_iff.2 (by omega)
  have hmade : madeB x m ways lo hi = true := blame_made ok hh hlen (by rw [hEi]; omega) (by rw [hEi]; omega)
  have hany : hadAny x (rowOf x ways (barP x m)) (meas lo hi) = true := by rw [made_iff ok hhard]; exact hmade
  have hmr : madeR x lo hi ((m : Int), ways) = true := by simpa [madeR] using hmade
  have hin := rec_in ok
  have htot := tot_pos hin hmr
  have rgc := rg_c lo hi
  repeat (first | (with_reducible first | refine g1 fun _ => ?_ | refine g2 fun _ => ?_ | refine g3 ?_) | ((first | refine g4 ?_ | refine g5 fun _ _ => ?_ | refine g6 ?_); simp [-getElem?_pos, z0, z1, z2, hlen, wS, hE, wa, wb, wE1, wE2, hlo, hhi]) | ((first | refine AWp.ret ?_ | refine AWp.skip ?_ | refine AWp.exit ?_); try simp only [thenP]) | (with_reducible refine g7 ?_; simp only [blockP, thenP, reduceIte]) | with_reducible refine g8 ?_)
  refine Exec0.call [] rgc ?_ rfl ?_ ?_; (focus simp [-getElem?_pos]); (focus simp [-getElem?_pos, z0, z1, z2, hlen, wS, hE, wa, wb, wE1, wE2, hlo, hhi]); simp [-getElem?_pos, z0, z1, z2, hlen, wS, hE, wa, wb, wE1, wE2, hlo, hhi]
  iterate 1 (first | (with_reducible first | refine g1 fun _ => ?_ | refine g2 fun _ => ?_ | refine g3 ?_) | ((first | refine g4 ?_ | refine g5 fun _ _ => ?_ | refine g6 ?_); simp [-getElem?_pos, z0, z1, z2, ]) | ((first | refine AWp.ret ?_ | refine AWp.skip ?_ | refine AWp.exit ?_); try simp only [thenP]) | (with_reducible refine g7 ?_; simp only [blockP, thenP, reduceIte]) | with_reducible refine g8 ?_)
  refine AWp.fits (n := 3) (l := [(4, .ptr 0 0 0), (9, .ptr 1 0 0), (10, .d (intL hist)), (12, .ptr 2 0 0)]) (m := [(0, .box 25 [.d (.list (rgRows x.bars)), .d (.list (stepRows x.steps))] true), (1, .box 42 [.d (iD m), .d (intL ways)] true), (2, .box 33 [.d (iD lo), .d (iD hi)] false)]) (σ := [0, 2, 28]) ⟨by rfl, by simp, by simp [or_imp, forall_and], by decide⟩ (AWp.frost ?_); simp only [List.map_cons, List.map_nil, frzB]
  have hmk : makErr x lo hi = 0 := by simp [makErr, hx, hhard]
  have b1 := bars_s x lo hi
  have w1 := ways_c x lo hi
  have c1 := count_c x lo hi
  have d1 := had_c x m ways lo hi
  have e : ((List.range x.steps.length).map fun (i : Nat) => leftN x lo hi i) = leftRows x lo hi x.steps.length := rfl
  rw [e] at w1
  rw [someE_is hmk, if_neg htot] at b1 w1
  rw [hmk, if_pos rfl] at c1
  rw [agrErr_ok ok hhard, if_pos hany] at d1
  have b1 : ACall Try.prog 33 [worksD x, rgD lo hi] (.tup [intL (leftN x lo hi (-1)), iD 0]) := b1
  have w1 : WCall Try.prog 35 [worksD x, rgD lo hi] (.tup [.list (listRows (leftRows x lo hi x.steps.length)), iD 0]) := w1
  have d1 : ACall Try.prog 28 [worksD x, recD m ways, rgD lo hi] (.tup [.list (rgRows (hadsOf x m ways lo hi)), iD 0]) := d1
  obtain ⟨M, hM⟩ : ∃ n : Nat, n = totN x lo hi := ⟨_, rfl⟩
  rw [← hM] at c1
  have hM1 : ¬ (M : Int) < 1 := by omega
  have hrl := leftRows_len x lo hi x.steps.length
  have hdl := hadsOf_len x m ways lo hi
  have i1 := in_c (leftN x lo hi (-1)) m (left_short hx lo hi (by omega) (by omega))
  rw [decide_eq_true (show (m : Int) ∈ leftN x lo hi (-1) from left_has hin hmr (by omega) (by omega))] at i1
  repeat (first | (with_reducible first | refine g1 fun _ => ?_ | refine g2 fun _ => ?_ | refine g3 ?_) | ((first | refine g4 ?_ | refine g5 fun _ _ => ?_ | refine g6 ?_); simp [-getElem?_pos, z0, z1, z2, ]) | ((first | refine AWp.ret ?_ | refine AWp.skip ?_ | refine AWp.exit ?_); try simp only [thenP]) | (with_reducible refine g7 ?_; simp only [blockP, thenP, reduceIte]) | with_reducible refine g8 ?_)
  refine Exec0.call [] b1 ?_ rfl ?_ ?_; (focus simp [-getElem?_pos]); (focus simp [-getElem?_pos, z0, z1, z2, ]); simp [-getElem?_pos, z0, z1, z2, ]
  repeat (first | (with_reducible first | refine g1 fun _ => ?_ | refine g2 fun _ => ?_ | refine g3 ?_) | ((first | refine g4 ?_ | refine g5 fun _ _ => ?_ | refine g6 ?_); simp [-getElem?_pos, z0, z1, z2, ]) | ((first | refine AWp.ret ?_ | refine AWp.skip ?_ | refine AWp.exit ?_); try simp only [thenP]) | (with_reducible refine g7 ?_; simp only [blockP, thenP, reduceIte]) | with_reducible refine g8 ?_)
  refine Exec0.callW w1 rfl (by simp [-getElem?_pos, ]) rfl (by simp [-getElem?_pos, z0, z1, z2, ]) (AllFrz_mk (by simp [Blk.frz])) ?_; simp [-getElem?_pos, z0, z1, z2, ]
  repeat (first | (with_reducible first | refine g1 fun _ => ?_ | refine g2 fun _ => ?_ | refine g3 ?_) | ((first | refine g4 ?_ | refine g5 fun _ _ => ?_ | refine g6 ?_); simp [-getElem?_pos, z0, z1, z2, ]) | ((first | refine AWp.ret ?_ | refine AWp.skip ?_ | refine AWp.exit ?_); try simp only [thenP]) | (with_reducible refine g7 ?_; simp only [blockP, thenP, reduceIte]) | with_reducible refine g8 ?_)
  refine Exec0.call [] c1 ?_ rfl ?_ ?_; (focus simp [-getElem?_pos]); (focus simp [-getElem?_pos, z0, z1, z2, ]); simp [-getElem?_pos, z0, z1, z2, ]
  repeat (first | (with_reducible first | refine g1 fun _ => ?_ | refine g2 fun _ => ?_ | refine g3 ?_) | ((first | refine g4 ?_ | refine g5 fun _ _ => ?_ | refine g6 ?_); simp [-getElem?_pos, z0, z1, z2, ]) | ((first | refine AWp.ret ?_ | refine AWp.skip ?_ | refine AWp.exit ?_); try simp only [thenP]) | (with_reducible refine g7 ?_; simp only [blockP, thenP, reduceIte]) | with_reducible refine g8 ?_)
  refine Exec0.call [] d1 ?_ rfl ?_ ?_; (focus simp [-getElem?_pos]); (focus simp [-getElem?_pos, z0, z1, z2, recD]); simp [-getElem?_pos, z0, z1, z2, recD]
  repeat (first | (with_reducible first | refine g1 fun _ => ?_ | refine g2 fun _ => ?_ | refine g3 ?_) | ((first | refine g4 ?_ | refine g5 fun _ _ => ?_ | refine g6 ?_); simp [-getElem?_pos, z0, z1, z2, hM1, hrl, hdl, hlen]) | ((first | refine AWp.ret ?_ | refine AWp.skip ?_ | refine AWp.exit ?_); try simp only [thenP]) | (with_reducible refine g7 ?_; simp only [blockP, thenP, reduceIte]) | with_reducible refine g8 ?_)
  refine Exec0.call [] i1 ?_ rfl ?_ ?_; (focus simp [-getElem?_pos]); (focus simp [-getElem?_pos, z0, z1, z2, hM1, hrl, hdl, hlen]); simp [-getElem?_pos, z0, z1, z2, hM1, hrl, hdl, hlen]
  repeat (first | (with_reducible first | refine g1 fun _ => ?_ | refine g2 fun _ => ?_ | refine g3 ?_) | ((first | refine g4 ?_ | refine g5 fun _ _ => ?_ | refine g6 ?_); simp [-getElem?_pos, z0, z1, z2, hM1, hrl, hdl, hlen]) | ((first | refine AWp.ret ?_ | refine AWp.skip ?_ | refine AWp.exit ?_); try simp only [thenP]) | (with_reducible refine g7 ?_; simp only [blockP, thenP, reduceIte]) | with_reducible refine g8 ?_)
  have hst : x.steps.length ≤ 6 := (manyOk_iff.1 (worksOk_iff.1 hx).1).2.2.1
  have hwl := ok.len
  refine AWp.loopK (ι := { k : Nat // k ≤ x.steps.length + 1 }) (n := 3) (fun k => [(4, .ptr 0 0 0), (9, .ptr 1 0 0), (10, .d (intL hist)), (12, .ptr 2 0 0), (13, .d (intL (leftN x lo hi (-1)))), (15, .d (.list (listRows (leftRows x lo hi x.steps.length)))), (17, .d (iD M)), (19, .d (.list (rgRows (hadsOf x m ways lo hi)))), (21, .d (iD k.1))]) (fun _ => [(0, .box 25 [.d (.list (rgRows x.bars)), .d (.list (stepRows x.steps))] true), (1, .box 42 [.d (iD m), .d (intL ways)] true), (2, .box 33 [.d (iD lo), .d (iD hi)] true)]) (fun k => x.steps.length + 1 - k.1) ⟨0, Nat.zero_le _⟩ [0, 1, 2] ?_ ?_
  · refine ⟨by rfl, by simp [], by simp [or_imp, forall_and, ] <;> (try (intro _hne; simp [_hne])), by decide⟩
  rintro ⟨k, hk⟩ kk
  by_cases hlt : k < x.steps.length + 1
  · obtain ⟨y, hy⟩ : ∃ y, hist[k]? = some y := ⟨_, List.getElem?_eq_getElem (by omega)⟩
    have hyi : intAt hist k = y := by simp [intAt, List.getD_eq_getElem?_getD, hy]
    have hp := hadsOf_at (x := x) (m := m) (ways := ways) (lo := lo) (hi := hi) (i := k) (by omega)
    have hbl := blame_in ok hh hlen (by rw [hEi]; omega) (by rw [hEi]; omega) hany (x.steps.length - k) k (by omega)
    rw [hyi] at hbl
    generalize hadE x m ways lo hi k = p at hp hbl
    obtain ⟨p1, p2⟩ := p
    have ri := refIn_c y p1 p2
    rw [show inB y p1 p2 = true from by simp only [inB, decide_eq_true_eq]; exact hbl] at ri
    have wk : IntKind.i64.wrap ((k : Int) + 1) = (k : Int) + 1 := wrap64_in (by omega)
    have hlt2 : (k : Int) < (x.steps.length : Int) + 1 := by omega
    rcases k with _ | j
    · have w1 : IntKind.i64.wrap 1 = 1 := by decide
      repeat (first | (with_reducible first | refine g1 fun _ => ?_ | refine g2 fun _ => ?_ | refine g3 ?_) | ((first | refine g4 ?_ | refine g5 fun _ _ => ?_ | refine g6 ?_); simp [-getElem?_pos, z0, z1, z2, hlt, hlt2, hdl, hlen, hy, hp]) | ((first | refine AWp.ret ?_ | refine AWp.skip ?_ | refine AWp.exit ?_); try simp only [thenP]) | (with_reducible refine g7 ?_; simp only [blockP, thenP, reduceIte]) | with_reducible refine g8 ?_)
      refine Exec.call [] ri ?_ rfl ?_ ?_; (focus simp [-getElem?_pos]); (focus simp [-getElem?_pos, z0, z1, z2, hlt, hlt2, hdl, hlen, hy, hp]); simp [-getElem?_pos, z0, z1, z2, hlt, hlt2, hdl, hlen, hy, hp]
      repeat (first | (with_reducible first | refine g1 fun _ => ?_ | refine g2 fun _ => ?_ | refine g3 ?_) | ((first | refine g4 ?_ | refine g5 fun _ _ => ?_ | refine g6 ?_); simp [-getElem?_pos, z0, z1, z2, hlt, hlt2, hdl, hlen, hy, hp, w1]) | ((first | refine AWp.ret ?_ | refine AWp.skip ?_ | refine AWp.exit ?_); try simp only [thenP]) | (with_reducible refine g7 ?_; simp only [blockP, thenP, reduceIte]) | with_reducible refine g8 ?_)
      refine LL.go ⟨1, by omega⟩ [0, 1, 2] ⟨by rfl, by simp [w1], by simp [or_imp, forall_and, w1] <;> (try (intro _hne; simp [_hne])), by decide⟩ ?_
      simp
    · have hj : j < x.steps.length := by omega
      have hjw : j < ways.length := by omega
      have p1' := leftRows_is (x := x) (lo := lo) (hi := hi) hj
      obtain ⟨v, hv⟩ : ∃ v, ways[j]? = some v := ⟨_, List.getElem?_eq_getElem hjw⟩
      have hof : ofN ((m : Int), ways) (j : Int) = v := by simp [ofN, List.getD_eq_getElem?_getD, hv]; omega
      have hvl := left_has hin hmr (t := (j : Int)) (by omega) (by omega)
      rw [hof] at hvl
      have i2 := in_c (leftN x lo hi j) v (left_short hx lo hi (by omega) (by omega))
      rw [decide_eq_true hvl] at i2
      generalize leftN x lo hi j = Lj at *
      have wj : IntKind.i64.wrap ((j : Int) + 1 - 1) = (j : Int) := by rw [Int.add_sub_cancel]; exact wrap64_in (by omega)
      have wj2 : IntKind.i64.wrap (j : Int) = (j : Int) := wrap64_in (by omega)
      have wk2 : IntKind.i64.wrap ((j : Int) + 1 + 1) = (j : Int) + 1 + 1 := wrap64_in (by omega)
      have hj0 : (0 : Int) < (j : Int) + 1 := by omega
      have hj3 : (0 : Int) ≤ (j : Int) + 1 := by omega
      have hj4 : (j : Int) < (x.steps.length : Int) := by omega
      repeat (first | (with_reducible first | refine g1 fun _ => ?_ | refine g2 fun _ => ?_ | refine g3 ?_) | ((first | refine g4 ?_ | refine g5 fun _ _ => ?_ | refine g6 ?_); simp [-getElem?_pos, z0, z1, z2, hj, hj4, hdl, hlen, hy, hp, hj0, hj3]) | ((first | refine AWp.ret ?_ | refine AWp.skip ?_ | refine AWp.exit ?_); try simp only [thenP]) | (with_reducible refine g7 ?_; simp only [blockP, thenP, reduceIte]) | with_reducible refine g8 ?_)
      refine Exec.call [] ri ?_ rfl ?_ ?_; (focus simp [-getElem?_pos]); (focus simp [-getElem?_pos, z0, z1, z2, hj, hj4, hdl, hlen, hy, hp, hj0, hj3, wj2, p1', hrl, hv, hwl]); simp [-getElem?_pos, z0, z1, z2, hj, hj4, hdl, hlen, hy, hp, hj0, hj3, wj2, p1', hrl, hv, hwl]
      refine Exec.call [] i2 ?_ rfl ?_ ?_; (focus simp [-getElem?_pos]); (focus simp [-getElem?_pos, z0, z1, z2, hj, hj4, hdl, hlen, hy, hp, hj0, hj3, wj2, p1', hrl, hv, hwl]); simp [-getElem?_pos, z0, z1, z2, hj, hj4, hdl, hlen, hy, hp, hj0, hj3, wj2, p1', hrl, hv, hwl]
      repeat (first | (with_reducible first | refine g1 fun _ => ?_ | refine g2 fun _ => ?_ | refine g3 ?_) | ((first | refine g4 ?_ | refine g5 fun _ _ => ?_ | refine g6 ?_); simp [-getElem?_pos, z0, z1, z2, wk2]) | ((first | refine AWp.ret ?_ | refine AWp.skip ?_ | refine AWp.exit ?_); try simp only [thenP]) | (with_reducible refine g7 ?_; simp only [blockP, thenP, reduceIte]) | with_reducible refine g8 ?_)
      refine LL.go ⟨j + 1 + 1, by omega⟩ [0, 1, 2] ⟨by rfl, by simp [], by simp [or_imp, forall_and, ] <;> (try (intro _hne; simp [_hne])), by decide⟩ ?_
      simp; omega
  obtain rfl : k = x.steps.length + 1 := by omega
  repeat (first | (with_reducible first | refine g1 fun _ => ?_ | refine g2 fun _ => ?_ | refine g3 ?_) | ((first | refine g4 ?_ | refine g5 fun _ _ => ?_ | refine g6 ?_); simp [-getElem?_pos, z0, z1, z2, hlt, hlen]) | ((first | refine AWp.ret ?_ | refine AWp.skip ?_ | refine AWp.exit ?_); try simp only [thenP]) | (with_reducible refine g7 ?_; simp only [blockP, thenP, reduceIte]) | with_reducible refine g8 ?_)
  have hp : prodTo x x.steps.length ≤ 400 := by simpa [fullB, hx] using hfb
  have rc := recipes_c hx hp
  rename_i k10
  refine KK.plan3 k10 1 [(13, .d (intL (leftN x lo hi (-1)))), (15, .d (.list (listRows (leftRows x lo hi x.steps.length)))), (17, .d (iD M)), (23, .own 0 (x.steps.length + 1) 1), (24, .d (iD M))] [(0, .row 40 1 (listRows (seenRows (mkN x lo hi) x.steps.length)) false)] ?_ fun hrest => ?_
  · clear rc
    have hfew := mkN_few hx hp lo hi
    have srl := seenRows_len (mkN x lo hi) x.steps.length
    have sr0 := seenRows_get (mkN x lo hi) (n := x.steps.length) (j := 0) (by omega)
    have sl0 := seenL_len (mkN x lo hi) (((0 : Nat) : Int) - 1)
    have hin0 : ∀ y, y ∈ leftN x lo hi (-1) → y ∈ seenL (mkN x lo hi) (((0 : Nat) : Int) - 1) := fun y hy => seen_all (by omega) (by omega) hy
    have len0 := left_short hx lo hi (t := -1) (by omega) (by omega)
    generalize seenL (mkN x lo hi) (((0 : Nat) : Int) - 1) = S0 at *
    generalize leftN x lo hi (-1) = B at *
    repeat (first | (with_reducible first | refine g1 fun _ => ?_ | refine g2 fun _ => ?_ | refine g3 ?_) | ((first | refine g4 ?_ | refine g5 fun _ _ => ?_ | refine g6 ?_); simp [-getElem?_pos, z0, z1, z2, ]) | ((first | refine AWp.ret ?_ | refine AWp.skip ?_ | refine AWp.exit ?_); try simp only [thenP]) | (with_reducible refine g7 ?_; simp only [blockP, thenP, reduceIte]) | with_reducible refine g8 ?_)
    refine AWp.loopK (ι := { k : Nat // k ≤ B.length }) (n := 1) (fun k => [(13, .d (intL B)), (15, .d (.list (listRows (leftRows x lo hi x.steps.length)))), (17, .d (iD M)), (23, .own 0 (x.steps.length + 1) 1), (24, .d (iD M)), (29, .d (iD k.1))]) (fun _ => [(0, .row 40 1 (listRows (seenRows (mkN x lo hi) x.steps.length)) false)]) (fun k => B.length - k.1) ⟨0, Nat.zero_le _⟩ [0] ?_ ?_
    · refine ⟨by rfl, by simp [], by simp [or_imp, forall_and, ] <;> (try (intro _hne; simp [_hne])), by decide⟩
    rintro ⟨k, hk⟩ kk
    by_cases hlt : k < B.length
    · obtain ⟨y, hy⟩ : ∃ y, B[k]? = some y := ⟨_, List.getElem?_eq_getElem hlt⟩
      have ci := in_c S0 y (by omega)
      rw [decide_eq_true (hin0 y (List.mem_of_getElem? hy))] at ci
      have wk : IntKind.i64.wrap ((k : Int) + 1) = (k : Int) + 1 := wrap64_in (by omega)
      have hS0 : (0 : Int) < (x.steps.length : Int) + 1 := by omega
      repeat (first | (with_reducible first | refine g1 fun _ => ?_ | refine g2 fun _ => ?_ | refine g3 ?_) | ((first | refine g4 ?_ | refine g5 fun _ _ => ?_ | refine g6 ?_); simp [-getElem?_pos, z0, z1, z2, hlt, hy, srl, sr0, hS0]) | ((first | refine AWp.ret ?_ | refine AWp.skip ?_ | refine AWp.exit ?_); try simp only [thenP]) | (with_reducible refine g7 ?_; simp only [blockP, thenP, reduceIte]) | with_reducible refine g8 ?_)
      refine Exec.call [] ci ?_ rfl ?_ ?_; (focus simp [-getElem?_pos]); (focus simp [-getElem?_pos, z0, z1, z2, hlt, hy, srl, sr0, hS0]); simp [-getElem?_pos, z0, z1, z2, hlt, hy, srl, sr0, hS0]
      repeat (first | (with_reducible first | refine g1 fun _ => ?_ | refine g2 fun _ => ?_ | refine g3 ?_) | ((first | refine g4 ?_ | refine g5 fun _ _ => ?_ | refine g6 ?_); simp [-getElem?_pos, z0, z1, z2, wk]) | ((first | refine AWp.ret ?_ | refine AWp.skip ?_ | refine AWp.exit ?_); try simp only [thenP]) | (with_reducible refine g7 ?_; simp only [blockP, thenP, reduceIte]) | with_reducible refine g8 ?_)
      refine LL.go ⟨k + 1, hlt⟩ [0] ⟨by rfl, by simp [], by simp [or_imp, forall_and, ] <;> (try (intro _hne; simp [_hne])), by decide⟩ ?_
      simp; omega
    · obtain rfl : k = B.length := by omega
      repeat (first | (with_reducible first | refine g1 fun _ => ?_ | refine g2 fun _ => ?_ | refine g3 ?_) | ((first | refine g4 ?_ | refine g5 fun _ _ => ?_ | refine g6 ?_); simp [-getElem?_pos, z0, z1, z2, hlt]) | ((first | refine AWp.ret ?_ | refine AWp.skip ?_ | refine AWp.exit ?_); try simp only [thenP]) | (with_reducible refine g7 ?_; simp only [blockP, thenP, reduceIte]) | with_reducible refine g8 ?_)
      refine AWp.loopK (ι := { k : Nat // k ≤ x.steps.length }) (n := 1) (fun k => [(15, .d (.list (listRows (leftRows x lo hi x.steps.length)))), (17, .d (iD M)), (23, .own 0 (x.steps.length + 1) 1), (24, .d (iD M)), (30, .d (iD k.1))]) (fun _ => [(0, .row 40 1 (listRows (seenRows (mkN x lo hi) x.steps.length)) false)]) (fun k => x.steps.length - k.1) ⟨0, Nat.zero_le _⟩ [0] ?_ ?_
      · refine ⟨by rfl, by simp [], by simp [or_imp, forall_and, ] <;> (try (intro _hne; simp [_hne])), by decide⟩
      rintro ⟨k, hk⟩ kk
      by_cases hlt2 : k < x.steps.length
      · have p2 := leftRows_is (x := x) (lo := lo) (hi := hi) hlt2
        have srk := seenRows_get (mkN x lo hi) (n := x.steps.length) (j := k + 1) (by omega)
        rw [show (((k + 1 : Nat) : Int) - 1) = (k : Int) by omega] at srk
        have slk := seenL_len (mkN x lo hi) (k : Int)
        have hink : ∀ y, y ∈ leftN x lo hi k → y ∈ seenL (mkN x lo hi) (k : Int) := fun y hy => seen_all (by omega) (by omega) hy
        have lenk := left_short hx lo hi (t := (k : Int)) (by omega) (by omega)
        generalize seenL (mkN x lo hi) (k : Int) = Sk at *
        generalize leftN x lo hi (k : Int) = Lk at *
        have wk : IntKind.i64.wrap ((k : Int) + 1) = (k : Int) + 1 := wrap64_in (by omega)
        have hk4 : (k : Int) < (x.steps.length : Int) := by omega
        have hk5 : (0 : Int) ≤ (k : Int) + 1 := by omega
        repeat (first | (with_reducible first | refine g1 fun _ => ?_ | refine g2 fun _ => ?_ | refine g3 ?_) | ((first | refine g4 ?_ | refine g5 fun _ _ => ?_ | refine g6 ?_); simp [-getElem?_pos, z0, z1, z2, hlt2, hrl, p2]) | ((first | refine AWp.ret ?_ | refine AWp.skip ?_ | refine AWp.exit ?_); try simp only [thenP]) | (with_reducible refine g7 ?_; simp only [blockP, thenP, reduceIte]) | with_reducible refine g8 ?_)
        refine AWp.loopK (ι := { j : Nat // j ≤ Lk.length }) (n := 1) (fun j => [(15, .d (.list (listRows (leftRows x lo hi x.steps.length)))), (17, .d (iD M)), (23, .own 0 (x.steps.length + 1) 1), (24, .d (iD M)), (30, .d (iD k)), (31, .d (iD j.1))]) (fun _ => [(0, .row 40 1 (listRows (seenRows (mkN x lo hi) x.steps.length)) false)]) (fun j => Lk.length - j.1) ⟨0, Nat.zero_le _⟩ [0] ?_ ?_
        · refine ⟨by rfl, by simp [], by simp [or_imp, forall_and, ] <;> (try (intro _hne; simp [_hne])), by decide⟩
        rintro ⟨j, hj⟩ kk2
        by_cases hlt3 : j < Lk.length
        · obtain ⟨y, hy⟩ : ∃ y, Lk[j]? = some y := ⟨_, List.getElem?_eq_getElem hlt3⟩
          have ci := in_c Sk y (by omega)
          rw [decide_eq_true (hink y (List.mem_of_getElem? hy))] at ci
          have wj : IntKind.i64.wrap ((j : Int) + 1) = (j : Int) + 1 := wrap64_in (by omega)
          repeat (first | (with_reducible first | refine g1 fun _ => ?_ | refine g2 fun _ => ?_ | refine g3 ?_) | ((first | refine g4 ?_ | refine g5 fun _ _ => ?_ | refine g6 ?_); simp [-getElem?_pos, z0, z1, z2, hlt2, hlt3, hy, p2, hrl, srl, srk, wk, hk4, hk5]) | ((first | refine AWp.ret ?_ | refine AWp.skip ?_ | refine AWp.exit ?_); try simp only [thenP]) | (with_reducible refine g7 ?_; simp only [blockP, thenP, reduceIte]) | with_reducible refine g8 ?_)
          refine Exec.call [] ci ?_ rfl ?_ ?_; (focus simp [-getElem?_pos]); (focus simp [-getElem?_pos, z0, z1, z2, hlt2, hlt3, hy, p2, hrl, srl, srk, wk, hk4, hk5]); simp [-getElem?_pos, z0, z1, z2, hlt2, hlt3, hy, p2, hrl, srl, srk, wk, hk4, hk5]
          repeat (first | (with_reducible first | refine g1 fun _ => ?_ | refine g2 fun _ => ?_ | refine g3 ?_) | ((first | refine g4 ?_ | refine g5 fun _ _ => ?_ | refine g6 ?_); simp [-getElem?_pos, z0, z1, z2, wj]) | ((first | refine AWp.ret ?_ | refine AWp.skip ?_ | refine AWp.exit ?_); try simp only [thenP]) | (with_reducible refine g7 ?_; simp only [blockP, thenP, reduceIte]) | with_reducible refine g8 ?_)
          refine LL.go ⟨j + 1, hlt3⟩ [0] ⟨by rfl, by simp [], by simp [or_imp, forall_and, ] <;> (try (intro _hne; simp [_hne])), by decide⟩ ?_
          simp; omega
        · obtain rfl : j = Lk.length := by omega
          repeat (first | (with_reducible first | refine g1 fun _ => ?_ | refine g2 fun _ => ?_ | refine g3 ?_) | ((first | refine g4 ?_ | refine g5 fun _ _ => ?_ | refine g6 ?_); simp [-getElem?_pos, z0, z1, z2, hlt2, hlt3, hrl, p2, wk]) | ((first | refine AWp.ret ?_ | refine AWp.skip ?_ | refine AWp.exit ?_); try simp only [thenP]) | (with_reducible refine g7 ?_; simp only [blockP, thenP, reduceIte]) | with_reducible refine g8 ?_)
          refine LL.go ⟨k + 1, hlt2⟩ [0] ⟨by rfl, by simp [], by simp [or_imp, forall_and, ] <;> (try (intro _hne; simp [_hne])), by decide⟩ ?_
          simp; omega
      · obtain rfl : k = x.steps.length := by omega
        repeat (first | (with_reducible first | refine g1 fun _ => ?_ | refine g2 fun _ => ?_ | refine g3 ?_) | ((first | refine g4 ?_ | refine g5 fun _ _ => ?_ | refine g6 ?_); simp [-getElem?_pos, z0, z1, z2, hlt2, hrl]) | ((first | refine AWp.ret ?_ | refine AWp.skip ?_ | refine AWp.exit ?_); try simp only [thenP]) | (with_reducible refine g7 ?_; simp only [blockP, thenP, reduceIte]) | with_reducible refine g8 ?_)
        refine Exec0.call [] hw ?_ rfl ?_ ?_; (focus simp [-getElem?_pos]); (focus simp [-getElem?_pos, z0, z1, z2, ]); simp [-getElem?_pos, z0, z1, z2, ]
        repeat (first | (with_reducible first | refine g1 fun _ => ?_ | refine g2 fun _ => ?_ | refine g3 ?_) | ((first | refine g4 ?_ | refine g5 fun _ _ => ?_ | refine g6 ?_); simp [-getElem?_pos, z0, z1, z2, ]) | ((first | refine AWp.ret ?_ | refine AWp.skip ?_ | refine AWp.exit ?_); try simp only [thenP]) | (with_reducible refine g7 ?_; simp only [blockP, thenP, reduceIte]) | with_reducible refine g8 ?_)
        (first | refine RR.ret ?_ | refine RR.normal ?_); simp []
  obtain ⟨S, hS⟩ : ∃ S, x.steps.length = S := ⟨_, rfl⟩
  have kyes := fun k r => blame_yes (lo := lo) (hi := hi) hx hhard (k := k) (r := r)
  have kno := fun k r => blame_no (lo := lo) (hi := hi) hx hhard (k := k) (r := r)
  have mkle := mkK_le x lo hi
  have mkall := mkK_all x lo hi
  have mkne : mkK x lo hi (recsTo x x.steps.length).length ≠ [] := by
    rw [mkall]
    intro h
    have := mkN_len x lo hi
    rw [h] at this
    exact htot this.symm
  have mklen := mkN_len x lo hi
  rw [← hM] at mklen
  have hRl := recs_few hx hp x.steps.length
  rw [hS] at rc kyes kno mkall mkne hRl hrest hrl hst mkle ⊢
  obtain ⟨R, hR⟩ : ∃ R, recsTo x S = R := ⟨_, rfl⟩
  rw [hR] at rc kyes kno mkall mkne hRl mkle
  have hrl2 := hrl
  have w0 : IntKind.i64.wrap ((S : Int) + 1) = (S : Int) + 1 := wrap64_in (by omega)
  generalize leftRows x lo hi S = lr at *
  obtain ⟨B, hB⟩ : ∃ B, leftN x lo hi (-1) = B := ⟨_, rfl⟩
  rw [hB] at kyes hrest ⊢
  have bc : BC x lo hi S M B lr R := ⟨hS, kyes, kno, mkall, mkne, mklen, mkle, hRl, hrl2⟩
  refine Exec0.call [] rc ?_ rfl ?_ ?_; (focus simp [-getElem?_pos]); (focus simp [-getElem?_pos, z0, z1, z2, ]); simp [-getElem?_pos, z0, z1, z2, ]
  iterate 1 (first | (with_reducible first | refine g1 fun _ => ?_ | refine g2 fun _ => ?_ | refine g3 ?_) | ((first | refine g4 ?_ | refine g5 fun _ _ => ?_ | refine g6 ?_); simp [-getElem?_pos, z0, z1, z2, ]) | ((first | refine AWp.ret ?_ | refine AWp.skip ?_ | refine AWp.exit ?_); try simp only [thenP]) | (with_reducible refine g7 ?_; simp only [blockP, thenP, reduceIte]) | with_reducible refine g8 ?_)
  refine AWp.fits (n := 2) (l := [(4, .ptr 0 0 0), (12, .ptr 1 0 0), (13, .d (intL B)), (15, .d (.list (listRows lr))), (17, .d (iD M)), (22, .d (recsD R))]) (m := [(0, bW x), (1, bR lo hi)]) (σ := [0, 2]) ⟨by rfl, by simp, by simp [or_imp, forall_and], by decide⟩ ?_
  rcases (show S = 0 ∨ S = 1 ∨ S = 2 ∨ S = 3 ∨ S = 4 ∨ S = 5 ∨ S = 6 by omega) with rfl | rfl | rfl | rfl | rfl | rfl | rfl
  · exact blame_case0 bc rfl rfl hrest
  · exact blame_case1 bc rfl rfl hrest
  · exact blame_case2 bc rfl rfl hrest
  · exact blame_case3 bc rfl rfl hrest
  · exact blame_case4 bc rfl rfl hrest
  · exact blame_case5 bc rfl rfl hrest
  · exact blame_case6 bc rfl rfl hrest
end Go.Proofs.Ytigpefjeelgfdaa.Eng

/-
  Layer 1's statements: what a weak call says of values.
-/
namespace Go.Proofs.Ytigpefjeelgfdaa.Eng
open Go.RowKit

theorem law4 {f : FuncId} {a b c d : Dat} (h : WCall Try.prog f [a, b, c, d] (bD true)) {W : World} {va vb vc vd : Value} (ha : RepD (· < W.heap.size) W a va) (hb : RepD (· < W.heap.size) W b vb) (hc : RepD (· < W.heap.size) W c vc) (hd : RepD (· < W.heap.size) W d vd) :
    Calls Try.prog f #[va, vb, vc, vd] W fun e w' => e = .returned (.bool true) ∧ Below W.heap.size W w' := by
  refine (h.calls W #[va, vb, vc, vd] rfl fun i d v hd hv => ?_).mono fun e w' ⟨v, h1, h2, h3⟩ => ?_
  · match i with
    | 0 => simp at hd hv; subst hd; subst hv; exact ha
    | 1 => simp at hd hv; subst hd; subst hv; exact hb
    | 2 => simp at hd hv; subst hd; subst hv; exact hc
    | 3 => simp at hd hv; subst hd; subst hv; assumption
    | i + 4 => simp at hd
  · rw [val_inv h3] at h1
    exact ⟨h1, h2⟩
theorem kints_wf {k : IntKind} {w : World} {B : Nat} {A : Option Addr} {l : List Int} (h : IntsW k w B A l) : ∀ n ∈ l, (Lit.int k n).wf = true := fun n hn => by
  obtain ⟨i, hi, rfl⟩ := List.getElem_of_mem hn
  obtain ⟨b, off, _, _, hx⟩ := h (by omega)
  exact (hx i _ (List.getElem?_eq_getElem hi)).2
theorem rgD_rep2 {ro : Nat → Prop} {w : World} (lo hi : Int) : RepD ro w (rgD lo hi) (.agg #[.int .i64 lo, .int .i64 hi]) := agg2 (.val _ rfl) (.val _ rfl) rfl rfl
end Go.Proofs.Ytigpefjeelgfdaa.Eng

/-
  Layer 1's statements, by the engine: who is to blame, for every works; as the words for memory say it.
-/
namespace Go.Proofs.Ytigpefjeelgfdaa.Eng
open Go.RowKit

theorem blamed_w (x : Works) (nums lives : List Int) (a b : Int) (ha0 : 0 ≤ a) (ha1 : a ≤ 255) (hb0 : 0 ≤ b) (hb1 : b ≤ 255) (hnw : ∀ n ∈ nums, (Lit.int .u8 n).wf = true) (hlw : ∀ n ∈ lives, (Lit.int .u32 n).wf = true) :
    WCall Try.prog 9 [worksD x, kintL .u8 nums, kintL .u32 lives, .agg [.val (.int .u8 a), .val (.int .u8 b)]] (bD true) := by
  by_cases h : fineB x = false ∨ fullB x = true ∨ (20 : Int) < nums.length ∨ (20 : Int) < lives.length
  · exact blamed_out x nums lives a b h
  · simp only [not_or, Bool.not_eq_false, Bool.not_eq_true] at h
    obtain ⟨h1, h2, h3, h4⟩ := h
    exact blamed_in x nums lives a b ha0 ha1 hb0 hb1 h1 h2 h3 h4 hnw hlw
theorem blamedLaw_any {W : World} {x : Works} {Ab As Ar Ay Az : Option Addr} {cb cs cr cy cz : Nat} {ways nums lives : List Int} (a b : Int) (h : In W W.heap.size Ab As Ar cb cs cr x ways) (hy : IntsW .u8 W W.heap.size Ay nums) (hy1 : nums.length ≤ cy) (hy2 : cy ≤ 9223372036854775807)
    (hz : IntsW .u32 W W.heap.size Az lives) (hz1 : lives.length ≤ cz) (hz2 : cz ≤ 9223372036854775807) (ha0 : 0 ≤ a) (ha1 : a ≤ 255) (hb0 : 0 ≤ b) (hb1 : b ≤ 255) :
    Calls Try.prog 9 #[.agg #[.slice Ab x.bars.length cb, .slice As x.steps.length cs], .slice Ay nums.length cy, .slice Az lives.length cz, .agg #[.int .u8 a, .int .u8 b]] W fun e w' => e = .returned (.bool true) ∧ Below W.heap.size W w' :=
  law4 (blamed_w x nums lives a b ha0 ha1 hb0 hb1 (kints_wf hy) (kints_wf hz)) (of_works h) (of_kints (B := W.heap.size) (fun _ h => h) ⟨_, _, rfl, hy1, hy2, hy⟩) (of_kints (B := W.heap.size) (fun _ h => h) ⟨_, _, rfl, hz1, hz2, hz⟩) (agg2 (.val _ rfl) (.val _ rfl) rfl rfl)
end Go.Proofs.Ytigpefjeelgfdaa.Eng

/-
  The last step of a law's row, from 'what was there is as it was' alone.
-/
namespace Go.Proofs.Ytigpefjeelgfdaa
open Go.ChangeShapes Go.WideShapes Go.ChangeAt Go.RowKit

/-- A law that takes no package variable: it answers, what was there is as it was, and the arguments read as they did. -/
theorem post_later {H : Type} {enc : TypeId × Value → H} {P : Program} {f : Func} {s : ChangeSpec} {apart fresh handsOn again : Bool} {W W' : World} {args : Array Value} {v : Value} {ds gs : List (DataW H)} {before pa pv : List MemPlace}
    (hW : DataW.Whole enc P f.params.toList s.vars apart W args.toList ds gs before) (hsplit : before = pa ++ pv)
    (hr : ∀ (b : Nat) (sp : Nat → Bool) (hd : Bool), DataW.TrodAll enc P W' b sp hd f.resultTypes.toList (v.resultList f.resultTypes.size) (s.fn H (ds ++ gs)).results [])
    (ha : ∀ sp : Nat → Bool, (∀ p ∈ before, sp p.block = true) → DataW.TrodAll enc P W' 0 sp true f.params.toList args.toList (s.fn H (ds ++ gs)).args pa)
    (hv : ∀ sp : Nat → Bool, (∀ p ∈ before, sp p.block = true) → DataW.TrodVars enc P W' sp s.vars (s.fn H (ds ++ gs)).vars pv)
    (hk : ∀ (j : Nat) (t : TypeId) (r : Value), f.resultTypes[j]? = some t → (v.resultList f.resultTypes.size)[j]? = some r → Value.okWide P W' .any 0 t r)
    (hb : Below W.heap.size W W') : s.post enc P f apart fresh handsOn again W args v W' := by
  have inside : ∀ p, p ∈ before → p.block < W.heap.size := fun p hp => hW.lt p hp
  have keep : ∀ p ∈ before, (decide ((p : MemPlace).block < W.heap.size)) = true := fun p hp => decide_eq_true (inside p hp)
  refine ⟨ds, gs, before, [], pa, pv, hW, hr _ _ _, ha (fun b => decide (b < W.heap.size)) keep, hv (fun b => decide (b < W.heap.size)) keep, ?_, ?_⟩
  · refine World.keptBut_mono (fun p hp => ⟨hp, ?_⟩) (hb.frame (· ∈ before))
    right
    rw [hsplit, List.mem_append] at hp
    exact hp
  · intro _
    obtain ⟨_, _, _, _, _, hz, hn⟩ := hW
    have e : [] ++ pa ++ pv = before := by rw [hsplit, List.nil_append]
    refine ⟨hk, _, _, [] ++ pa ++ pv, ⟨[] ++ pa, pv, trodAll_append (ha _ fun _ _ => rfl) (hr _ _ _), hv _ fun _ _ => rfl, rfl, fun b off hp => ?_, fun h => ?_⟩, fun p hp _ => ?_⟩
    · rw [e] at hp
      rw [hb.frozen (inside _ hp)]
      exact hz b off hp
    · have := hn h
      rw [← e] at this
      simpa using this
    · rw [e] at hp
      simpa using hp
end Go.Proofs.Ytigpefjeelgfdaa

/-
  What came in, as the words of these texts have it: slices, structs, works, recipes; and that it reads again behind a call that leaves it alone.
-/
namespace Go.Proofs.Ytigpefjeelgfdaa
open Go.ChangeShapes Go.WideShapes Go.ChangeAt Go.RowKit Go.Deep

section
variable {H : Type} {enc : TypeId × Value → H} {P : Program} {w : World}

theorem list_of {α : Type} {R : Nat → α → Prop} : ∀ (n : Nat), (∀ i, i < n → ∃ x, R i x) → ∃ l : List α, l.length = n ∧ ∀ i x, l[i]? = some x → R i x
  | 0, _ => ⟨[], rfl, fun i x h => by simp at h⟩
  | n + 1, h => by
    obtain ⟨l, hl, hx⟩ := list_of n fun i hi => h i (by omega)
    obtain ⟨y, hy⟩ := h n (by omega)
    refine ⟨l ++ [y], by simp [hl], fun i x hi => ?_⟩
    rcases Nat.lt_or_ge i n with h1 | h1
    · rw [List.getElem?_append_left (by omega)] at hi
      exact hx i x hi
    · rw [List.getElem?_append_right (by omega)] at hi
      have : i = n := by
        have := (List.getElem?_eq_some_iff.1 hi).1
        simp at this
        omega
      subst this
      simp [hl] at hi
      subst hi
      exact hy

/-- An element that is read off cells. -/
def ElemOf (enc : TypeId × Value → H) (P : Program) (w : World) {α : Type} (R : World → Nat → Nat → α → Prop) (size : Nat) (e : TypeId) : Prop :=
  ∀ (b off : Nat) (cs : List Value) (n : Nat) (x : DataW H × List MemPlace), b < w.heap.size → cs.length = size → (∀ j u, cs[j]? = some u → w.cell? ⟨b, off + j, none⟩ = some u) → DataW.trod enc P w 0 (fun _ => true) true n e cs = some x → ∃ y, R w b off y

theorem open_sl {α : Type} {R : World → Nat → Nat → α → Prop} {size : Nat} {t e : TypeId} {fuel : Nat} {cs : List Value} {x : DataW H × List MemPlace} (ht : P.underlying t = some (.slice e)) (hc : P.cellsOf e = size) (h0 : 0 < size)
    (he : ElemOf enc P w R size e) (h : DataW.trod enc P w 0 (fun _ => true) true fuel t cs = some x) : ∃ v l, cs = [v] ∧ SL R size w w.heap.size v l := by
  rcases open_slice ht h with ⟨h1, _⟩ | ⟨a, len, cap, m, n, D, Pl, hcs, hb, hl, hmx, hm, hx, hel⟩
  · exact ⟨_, [], h1, SL.nil _ _ _ _⟩
  · have hmc : m = cap := by simpa using hm
    obtain ⟨b, off, spot⟩ := a
    have cell : ∀ i, i < m → ∃ cs', cs'.length = size ∧ (∀ j u, cs'[j]? = some u → w.cell? (Addr.add ⟨b, off, spot⟩ (i * size + j)) = some u) ∧ DataW.trod enc P w 0 (fun _ => true) true n e cs' = some (D i, Pl i) := by
      intro i hi
      obtain ⟨cs', h1, h2⟩ := hel i hi
      rw [hc] at h1
      obtain ⟨_, hlen, hat⟩ := World.cells?_some h1
      refine ⟨cs', hlen, fun j u hj => ?_, h2⟩
      have hjl : j < size := by rw [← hlen]; exact (List.getElem?_eq_some_iff.1 hj).1
      rw [← Go.Deep.add_add, hat j hjl, hj]
    have spot0 : 0 < m → spot = none := fun hm0 => by
      obtain ⟨cs', h1, h2, _⟩ := cell 0 hm0
      have h3 : cs'[0]? = some (cs'[0]'(by omega)) := List.getElem?_eq_getElem (by omega)
      have := World.cell?_spot (h2 0 _ h3)
      simpa [Addr.add] using this
    by_cases hm0 : len = 0
    · subst hm0
      exact ⟨_, [], hcs, some ⟨b, off, spot⟩, cap, rfl, by simp, by unfold maxLen at hmx; omega, fun h => absurd h (by simp)⟩
    have hsp := spot0 (by omega)
    subst hsp
    have hb2 : b < w.heap.size := by
      obtain ⟨cs', h1, h2, _⟩ := cell 0 (by omega)
      have h3 : cs'[0]? = some (cs'[0]'(by omega)) := List.getElem?_eq_getElem (by omega)
      have h4 := World.block_lt_of_cell? w _ (h2 0 _ h3)
      simpa [Addr.add] using h4
    obtain ⟨l, hll, hlx⟩ := list_of (R := fun i y => R w b (off + i * size) y) len fun i hi => by
      obtain ⟨cs', h1, h2, h3⟩ := cell i (by omega)
      refine he b (off + i * size) cs' n _ hb2 h1 (fun j u hj => ?_) h3
      have := h2 j u hj
      by_cases e0 : i * size + j = 0
      · rw [e0] at this
        have e1 : off + i * size + j = off := by omega
        rw [e1]
        simpa [Addr.add] using this
      · simp only [Addr.add, if_neg e0] at this
        rwa [Nat.add_assoc]
    exact ⟨_, l, hcs, some ⟨b, off, none⟩, cap, by rw [hll], by omega, by unfold maxLen at hmx; omega, fun _ => ⟨b, off, rfl, hb2, hlx⟩⟩

theorem elem_int {k : IntKind} {e : TypeId} (he : P.underlying e = some (.int k)) : ElemOf enc P w (IntAt k) 1 e := by
  intro b off cs n x hb hl hat h
  obtain ⟨m, rfl, _⟩ := DataW.trod_int he h
  exact ⟨m, hat 0 _ rfl⟩
theorem elem_range {e ti : TypeId} {f0 f1 : Field} (he : P.underlying e = some (.struct #[f0, f1])) (h0 : f0.type = ti) (h1 : f1.type = ti) (o0 : f0.offset = 0) (o1 : f1.offset = 1) (hi : P.underlying ti = some (.int .i64)) (hc : P.cellsOf ti = 1) : ElemOf enc P w RgAt 2 e := by
  intro b off cs n x hb hl hat h
  obtain ⟨y0, y1, m, _, _, g0, g1⟩ := trod_struct2 he h
  rw [h0, hc, o0] at g0
  rw [h1, hc, o1] at g1
  match cs, hl with
  | [u, v], _ =>
    obtain ⟨n0, e0, _⟩ := DataW.trod_int hi g0
    obtain ⟨n1, e1, _⟩ := DataW.trod_int hi g1
    simp at e0 e1
    subst e0
    subst e1
    exact ⟨(n0, n1), hat 0 _ rfl, hat 1 _ rfl⟩
theorem elem_kink {e ti tr : TypeId} {f0 f1 g0 g1 : Field} (he : P.underlying e = some (.struct #[f0, f1])) (hr : P.underlying tr = some (.struct #[g0, g1])) (h0 : f0.type = ti) (h1 : f1.type = tr) (o0 : f0.offset = 0) (o1 : f1.offset = 1)
    (k0 : g0.type = ti) (k1 : g1.type = ti) (p0 : g0.offset = 0) (p1 : g1.offset = 1) (hi : P.underlying ti = some (.int .i64)) (hc : P.cellsOf ti = 1) (hcr : P.cellsOf tr = 2) : ElemOf enc P w KinkAt 3 e := by
  intro b off cs n x hb hl hat h
  obtain ⟨y0, y1, m, _, _, q0, q1⟩ := trod_struct2 he h
  rw [h0, hc, o0] at q0
  rw [h1, hcr, o1] at q1
  obtain ⟨z0, z1, m1, _, _, r0, r1⟩ := trod_struct2 hr q1
  rw [k0, hc, p0] at r0
  rw [k1, hc, p1] at r1
  match cs, hl with
  | [u, v, t], _ =>
    obtain ⟨n0, e0, _⟩ := DataW.trod_int hi q0
    obtain ⟨n1, e1, _⟩ := DataW.trod_int hi r0
    obtain ⟨n2, e2, _⟩ := DataW.trod_int hi r1
    simp at e0 e1 e2
    subst e0
    subst e1
    subst e2
    exact ⟨⟨n0, n1, n2⟩, hat 0 _ rfl, hat 1 _ rfl, hat 2 _ rfl⟩
/-- A struct whose only field is a slice. -/
theorem elem_box {α : Type} {R : World → Nat → Nat → α → Prop} {size : Nat} {e ts te : TypeId} {f0 : Field} (he : P.underlying e = some (.struct #[f0])) (h0 : f0.type = ts) (o0 : f0.offset = 0) (hs : P.underlying ts = some (.slice te)) (hcs : P.cellsOf ts = 1) (hc : P.cellsOf te = size) (hz : 0 < size)
    (hel : ElemOf enc P w R size te) : ElemOf enc P w (fun w b off l => ∃ v, w.cell? ⟨b, off, none⟩ = some v ∧ SL R size w w.heap.size v l) 1 e := by
  intro b off cs n x hb hl hat h
  obtain ⟨y0, m, _, _, q0⟩ := trod_struct1 he h
  rw [h0, hcs, o0] at q0
  match cs, hl with
  | [u], _ =>
    obtain ⟨v, l, hv, hsl⟩ := open_sl hs hc hz hel q0
    simp at hv
    subst hv
    exact ⟨l, u, hat 0 _ rfl, hsl⟩

/-- What came in reads again, where all that was there is as it was. -/
theorem args_later {W W' : World} {T : TypeId → Prop} (K : Kids P T) (hz : ∀ t e, T t → P.underlying t = some (.slice e) → 0 < P.cellsOf e) {ts : List TypeId} {vs : List Value} {ds : List (DataW H)} {ps : List MemPlace}
    (hT : ∀ t ∈ ts, T t) (h : DataW.TrodAll enc P W 0 (fun _ => true) true ts vs ds ps) (hb : Below W.heap.size W W') {sp : Nat → Bool} (hs : ∀ p ∈ ps, sp p.block = true) : DataW.TrodAll enc P W' 0 sp true ts vs ds ps := by
  have carry : ∀ {ts : List TypeId} {vs : List Value} {ds : List (DataW H)} {ps : List MemPlace}, DataW.TrodAll enc P W 0 (fun _ => true) true ts vs ds ps → DataW.TrodAll enc P W' 0 (fun _ => true) true ts vs ds ps := by
    intro ts
    induction ts with
    | nil =>
      intro vs ds ps h
      obtain ⟨rfl, rfl, rfl⟩ := trodAll_nil h
      rfl
    | cons t ts ih =>
      intro vs ds ps h
      obtain ⟨v, vs1, d, ds1, a, b, rfl, rfl, rfl, ⟨n, h1⟩, h2⟩ := trodAll_cons h
      refine ⟨a, b, ⟨n, DataW.trod_carry n _ _ _ h1 fun p hp => ?_⟩, ih h2, rfl⟩
      have hlt := DataW.trod_lt n _ _ _ h1 p hp
      cases p with
      | cell bl off => exact hb.cell (p := ⟨bl, off, none⟩) hlt
      | map bl => exact hb.block bl hlt
  exact (carry h).respare K hz hT hs
end
end Go.Proofs.Ytigpefjeelgfdaa

/-
  What came in, at the types of layer 1's statements.
-/
namespace Go.Proofs.Ytigpefjeelgfdaa
open Go.ChangeShapes Go.WideShapes Go.ChangeAt Go.RowKit Go.Deep

theorem kids : Kids Try.prog (· < Try.prog.types.size) := kids_rows (by kernel_rfl) (by kernel_rfl)
theorem full : ∀ t e, t < Try.prog.types.size → Try.prog.underlying t = some (.slice e) → 0 < Try.prog.cellsOf e := slices_full_of Try.prog (by kernel_rfl)

theorem list_two {l : List Value} (h : l.toArray.size = 2) : ∃ a b, l = [a, b] := by
  rcases l with _ | ⟨a, _ | ⟨b, _ | ⟨c, l⟩⟩⟩
  · simp at h
  · simp at h
  · exact ⟨a, b, rfl⟩
  · simp at h
theorem list_one {l : List Value} (h : l.toArray.size = 1) : ∃ a, l = [a] := by
  rcases l with _ | ⟨a, _ | ⟨b, l⟩⟩
  · simp at h
  · exact ⟨a, rfl⟩
  · simp at h
theorem one_eq {u v : Value} (h : [u] = [v]) : u = v := by simpa using h
section
variable {H : Type} {enc : TypeId × Value → H} {w : World}
theorem el_i64 : ElemOf enc Try.prog w (IntAt .i64) 1 (2 : Nat) := elem_int Try.underlying2
theorem el_int : ElemOf enc Try.prog w (IntAt .i64) 1 (3 : Nat) := elem_int Try.underlying3
theorem el_range : ElemOf enc Try.prog w RgAt 2 (33 : Nat) := elem_range Try.underlying33 rfl rfl rfl rfl Try.underlying2 (by kernel_rfl)
theorem el_kink : ElemOf enc Try.prog w KinkAt 3 (93 : Nat) := elem_kink Try.underlying93 Try.underlying33 rfl rfl rfl rfl rfl rfl rfl rfl Try.underlying2 (by kernel_rfl) (by kernel_rfl)
theorem el_way : ElemOf enc Try.prog w (fun w b off l => ∃ v, w.cell? ⟨b, off, none⟩ = some v ∧ SL KinkAt 3 w w.heap.size v l) 1 (28 : Nat) :=
  elem_box Try.underlying28 rfl rfl Try.underlying26 (by kernel_rfl) (by kernel_rfl) (by decide) el_kink
theorem el_step : ElemOf enc Try.prog w (fun w b off l => ∃ v, w.cell? ⟨b, off, none⟩ = some v ∧ SL (fun w b off l => ∃ v, w.cell? ⟨b, off, none⟩ = some v ∧ SL KinkAt 3 w w.heap.size v l) 1 w w.heap.size v l) 1 (88 : Nat) :=
  elem_box Try.underlying88 rfl rfl Try.underlying86 (by kernel_rfl) (by kernel_rfl) (by decide) el_way

set_option maxRecDepth 100000 in
theorem open_works {base : Nat} {v : Value} {d : DataW H} {p : List MemPlace} (hv : Value.okWide Try.prog w .any base (25 : Nat) v) (h : DataW.Trod enc Try.prog w 0 (fun _ => true) true (25 : Nat) v d p) :
    ∃ (Ab As : Option Addr) (cb cs : Nat) (x : Works), v = .agg #[.slice Ab x.bars.length cb, .slice As x.steps.length cs] ∧ In w w.heap.size Ab As none cb cs 0 x [] := by
  obtain ⟨⟨l⟩, rfl, hsz⟩ := okWide_struct Try.underlying25 hv
  obtain ⟨fuel, hf⟩ := h
  obtain ⟨y0, y1, n, _, _, g0, g1⟩ := trod_struct2 Try.underlying25 hf
  have hc : Try.prog.cellsOf (25 : Nat) = 2 := by kernel_rfl
  rw [hc] at hsz
  obtain ⟨u0, u1, rfl⟩ := list_two hsz
  obtain ⟨v0, bars, e0, A0, c0, k0, k1, k2, s0⟩ := open_sl Try.underlying22 (by kernel_rfl) (by decide) el_range g0
  obtain ⟨v1, steps, e1, A1, c1, j0, j1, j2, s1⟩ := open_sl Try.underlying23 (by kernel_rfl) (by decide) el_step g1
  have q0 : u0 = v0 := one_eq e0
  have q1 : u1 = v1 := one_eq e1
  subst q0
  subst q1
  subst k0
  subst j0
  exact ⟨A0, A1, c0, c1, ⟨bars, steps⟩, rfl, ⟨s0, s1, fun h => absurd h (by simp), k1, k2, j1, j2, by simp, by omega, Nat.le_refl _⟩⟩
set_option maxRecDepth 100000 in
theorem open_way {base : Nat} {v : Value} {d : DataW H} {p : List MemPlace} (hv : Value.okWide Try.prog w .any base (28 : Nat) v) (h : DataW.Trod enc Try.prog w 0 (fun _ => true) true (28 : Nat) v d p) :
    ∃ (A : Option Addr) (c : Nat) (ks : List Kink), v = .agg #[.slice A ks.length c] ∧ KinksA w w.heap.size A ks ∧ ks.length ≤ c ∧ c ≤ 9223372036854775807 := by
  obtain ⟨⟨l⟩, rfl, hsz⟩ := okWide_struct Try.underlying28 hv
  obtain ⟨fuel, hf⟩ := h
  obtain ⟨y0, n, _, _, g0⟩ := trod_struct1 Try.underlying28 hf
  have hc : Try.prog.cellsOf (28 : Nat) = 1 := by kernel_rfl
  rw [hc] at hsz
  obtain ⟨u0, rfl⟩ := list_one hsz
  obtain ⟨v0, ks, e0, A0, c0, k0, k1, k2, s0⟩ := open_sl Try.underlying26 (by kernel_rfl) (by decide) el_kink g0
  have q0 : u0 = v0 := one_eq e0
  subst q0
  subst k0
  exact ⟨A0, c0, ks, rfl, s0, k1, k2⟩
set_option maxRecDepth 100000 in
theorem open_recipe {base : Nat} {v : Value} {d : DataW H} {p : List MemPlace} (hv : Value.okWide Try.prog w .any base (42 : Nat) v) (h : DataW.Trod enc Try.prog w 0 (fun _ => true) true (42 : Nat) v d p) :
    ∃ (bar : Int) (A : Option Addr) (c : Nat) (ways : List Int), v = .agg #[.int .i64 bar, .slice A ways.length c] ∧ IntsA .i64 w w.heap.size A ways ∧ ways.length ≤ c ∧ c ≤ 9223372036854775807 := by
  obtain ⟨⟨l⟩, rfl, hsz⟩ := okWide_struct Try.underlying42 hv
  obtain ⟨fuel, hf⟩ := h
  obtain ⟨y0, y1, n, _, _, g0, g1⟩ := trod_struct2 Try.underlying42 hf
  have hc : Try.prog.cellsOf (42 : Nat) = 2 := by kernel_rfl
  rw [hc] at hsz
  obtain ⟨u0, u1, rfl⟩ := list_two hsz
  obtain ⟨bar, e0, _⟩ := DataW.trod_int Try.underlying3 g0
  obtain ⟨v1, ways, e1, A1, c1, j0, j1, j2, s1⟩ := open_sl Try.underlying40 (by kernel_rfl) (by decide) el_int g1
  have q0 : u0 = .int .i64 bar := one_eq e0
  have q1 : u1 = v1 := one_eq e1
  subst q0
  subst q1
  subst j0
  exact ⟨bar, A1, c1, ways, rfl, s1, j1, j2⟩
set_option maxRecDepth 100000 in
theorem open_measured {base : Nat} {v : Value} {d : DataW H} {p : List MemPlace} (hv : Value.okWide Try.prog w .any base (33 : Nat) v) (h : DataW.Trod enc Try.prog w 0 (fun _ => true) true (33 : Nat) v d p) :
    ∃ lo hi : Int, v = .agg #[.int .i64 lo, .int .i64 hi] := by
  obtain ⟨⟨l⟩, rfl, hsz⟩ := okWide_struct Try.underlying33 hv
  obtain ⟨fuel, hf⟩ := h
  obtain ⟨y0, y1, n, _, _, g0, g1⟩ := trod_struct2 Try.underlying33 hf
  have hc : Try.prog.cellsOf (33 : Nat) = 2 := by kernel_rfl
  rw [hc] at hsz
  obtain ⟨u0, u1, rfl⟩ := list_two hsz
  obtain ⟨lo, e0, _⟩ := DataW.trod_int Try.underlying2 g0
  obtain ⟨hi, e1, _⟩ := DataW.trod_int Try.underlying2 g1
  have q0 : u0 = .int .i64 lo := one_eq e0
  have q1 : u1 = .int .i64 hi := one_eq e1
  subst q0
  subst q1
  exact ⟨lo, hi, rfl⟩
set_option maxRecDepth 100000 in
theorem open_int {base : Nat} {t : TypeId} {k : IntKind} {v : Value} {d : DataW H} {p : List MemPlace} (ht : Try.prog.underlying t = some (.int k)) (hv : Value.okWide Try.prog w .any base t v) (h : DataW.Trod enc Try.prog w 0 (fun _ => true) true t v d p) :
    ∃ n : Int, v = .int k n ∧ (Lit.int k n).wf = true := by
  obtain ⟨n, rfl⟩ := okWide_int ht hv
  obtain ⟨fuel, hf⟩ := h
  obtain ⟨m, e, _, hw⟩ := DataW.trod_int ht hf
  have e2 : Value.int k n = .int k m := one_eq e
  obtain rfl : n = m := by simpa using e2
  exact ⟨n, rfl, hw⟩
set_option maxRecDepth 100000 in
theorem open_list {k : IntKind} {t e : TypeId} {base : Nat} {v : Value} {d : DataW H} {p : List MemPlace} (ht : Try.prog.underlying t = some (.slice e)) (hc : Try.prog.cellsOf e = 1) (he : Try.prog.underlying e = some (.int k)) (hv : Value.okWide Try.prog w .any base t v) (h : DataW.Trod enc Try.prog w 0 (fun _ => true) true t v d p) :
    ∃ (A : Option Addr) (c : Nat) (l : List Int), v = .slice A l.length c ∧ IntsA k w w.heap.size A l ∧ l.length ≤ c ∧ c ≤ 9223372036854775807 := by
  obtain ⟨a, n, c, rfl⟩ := okWide_slice ht hv
  obtain ⟨fuel, hf⟩ := h
  obtain ⟨v1, l, e1, A1, c1, j0, j1, j2, s1⟩ := open_sl ht hc (by decide) (elem_int he) hf
  have q1 : Value.slice a n c = v1 := one_eq e1
  subst q1
  rw [j0]
  exact ⟨A1, c1, l, rfl, s1, j1, j2⟩
end
end Go.Proofs.Ytigpefjeelgfdaa

/-
  What came in: numbers that fit their kind.
-/
namespace Go.Proofs.Ytigpefjeelgfdaa
open Go.ChangeShapes Go.WideShapes Go.ChangeAt Go.RowKit Go.Deep

theorem u16_bounds {n : Int} (h : (Lit.int .u16 n).wf = true) : 0 ≤ n ∧ n ≤ 65535 := by
  simp only [Lit.wf, Bool.and_eq_true, decide_eq_true_eq] at h
  have e1 : IntKind.u16.min = 0 := by decide
  have e2 : IntKind.u16.max = 65535 := by decide
  omega
section
variable {H : Type} {enc : TypeId × Value → H} {w : World}
theorem elem_intW {P : Program} {k : IntKind} {e : TypeId} (he : P.underlying e = some (.int k)) : ElemOf enc P w (IntW k) 1 e := by
  intro b off cs n x hb hl hat h
  obtain ⟨m, rfl, _, hw⟩ := DataW.trod_int he h
  exact ⟨m, hat 0 _ rfl, hw⟩
set_option maxRecDepth 100000 in
theorem open_listW {k : IntKind} {t e : TypeId} {base : Nat} {v : Value} {d : DataW H} {p : List MemPlace} (ht : Try.prog.underlying t = some (.slice e)) (hc : Try.prog.cellsOf e = 1) (he : Try.prog.underlying e = some (.int k)) (hv : Value.okWide Try.prog w .any base t v) (h : DataW.Trod enc Try.prog w 0 (fun _ => true) true t v d p) :
    ∃ (A : Option Addr) (c : Nat) (l : List Int), v = .slice A l.length c ∧ IntsW k w w.heap.size A l ∧ l.length ≤ c ∧ c ≤ 9223372036854775807 := by
  obtain ⟨a, n, c, rfl⟩ := okWide_slice ht hv
  obtain ⟨fuel, hf⟩ := h
  obtain ⟨v1, l, e1, A1, c1, j0, j1, j2, s1⟩ := open_sl ht hc (by decide) (elem_intW he) hf
  have q1 : Value.slice a n c = v1 := one_eq e1
  subst q1
  rw [j0]
  exact ⟨A1, c1, l, rfl, s1, j1, j2⟩
end
end Go.Proofs.Ytigpefjeelgfdaa

/-
  Arguments: an array of two whole numbers.
-/
namespace Go.Proofs.Ytigpefjeelgfdaa
open Go.ChangeShapes Go.WideShapes Go.ChangeAt Go.RowKit
section
variable {H : Type} {enc : TypeId × Value → H} {w : World}
set_option maxRecDepth 100000 in
theorem open_two {k : IntKind} {t e : TypeId} {base : Nat} {v : Value} {d : DataW H} {p : List MemPlace} (ht : Try.prog.underlying t = some (.array 2 e)) (hct : Try.prog.cellsOf t = 2) (hc : Try.prog.cellsOf e = 1) (he : Try.prog.underlying e = some (.int k)) (hv : Value.okWide Try.prog w .any base t v) (h : DataW.Trod enc Try.prog w 0 (fun _ => true) true t v d p) :
    ∃ a b : Int, v = .agg #[.int k a, .int k b] ∧ (Lit.int k a).wf = true ∧ (Lit.int k b).wf = true := by
  simp only [Value.okWide, ht] at hv
  obtain ⟨⟨l⟩, rfl, hsz, _⟩ := hv
  rw [hct] at hsz
  obtain ⟨u0, u1, rfl⟩ := list_two hsz
  obtain ⟨fuel, hf⟩ := h
  obtain ⟨xs, m, _, _, _, hl, hg⟩ := DataW.trod_array ht hf
  have g0 := hg 0 (by omega)
  have g1 := hg 1 (by omega)
  rw [List.getElem?_eq_getElem (by omega)] at g0 g1
  rw [hc] at g0 g1
  obtain ⟨a, e0, w0⟩ := DataW.trod_int he g0
  obtain ⟨b, e1, w1⟩ := DataW.trod_int he g1
  have q0 : u0 = .int k a := one_eq e0
  have q1 : u1 = .int k b := one_eq e1
  subst q0
  subst q1
  exact ⟨a, b, rfl, w0.2, w1.2⟩
end
end Go.Proofs.Ytigpefjeelgfdaa

namespace Go.Proofs.Ytigpefjeelgfdaa.heatBlamed
open Go.ChangeShapes Go.WideShapes Go.ChangeAt Go.RowKit

theorem own : ownKnob Try.prog.godebug = none := by kernel_rfl
theorem rowed : ∀ t ∈ Try.f9.params.toList, t < Try.prog.types.size := of_decide_eq_true (by kernel_rfl)

set_option maxRecDepth 100000 in
set_option maxHeartbeats 1000000 in
theorem lifted (os : Os) (started : os.Started) (H : Type) (enc : TypeId × Value → H) :
    ReturnsInHanded {} Try.checked os 9 .any (Rows.heatBlamedSpec.pre6 enc Try.prog Try.f9 Rows.heatBlamedRow.domain false) (Rows.heatBlamedSpec.post enc Try.prog Try.f9 false true false false) := by
  refine returnsInHanded_of_change (C := Try.checked) own started (by kernel_rfl) Try.func9
    (ChangeSpec.witness6 (enc := enc) (C := Try.checked) false ⟨#[], #[.agg #[.slice none 0 0, .slice none 0 0], .slice none 0 0, .slice none 0 0, .agg #[.int .u8 0, .int .u8 0]], []⟩ 8 (by kernel_rfl) (by kernel_rfl) (by kernel_rfl) (by kernel_rfl)) ?_
  intro W base args ds gs before hval0 hW hcnd _
  have hval : ∀ (j : Nat) t v, Try.f9.params[j]? = some t → args[j]? = some v → Value.okWide Try.prog W .any base t v := hval0
  have hW' := hW
  obtain ⟨p, q, hA0, hV, rfl, hfz, hnd⟩ := hW
  have hA : DataW.TrodAll enc Try.prog W 0 (fun _ => true) true Try.f9.params.toList args.toList ds p := hA0
  have hAk := hA
  rw [Try.params9] at hA hval
  obtain ⟨v0, vs0, d0, ds0, a0, b0, e0, f0, rfl, h0, t0⟩ := trodAll_cons hA
  obtain ⟨v1, vs1, d1, ds1, a1, b1, e1, f1, rfl, h1, t1⟩ := trodAll_cons t0
  obtain ⟨v2, vs2, d2, ds2, a2, b2, e2, f2, rfl, h2, t2⟩ := trodAll_cons t1
  obtain ⟨v3, vs3, d3, ds3, a3, b3, e3, f3, rfl, h3, t3⟩ := trodAll_cons t2
  obtain ⟨en, fn, rfl⟩ := trodAll_nil t3
  subst en
  subst fn
  subst e3
  subst f3
  subst e2
  subst f2
  subst e1
  subst f1
  subst f0
  have ea : args = #[v0, v1, v2, v3] := by rw [← Array.toList_inj]; exact e0
  subst ea
  clear e0
  obtain ⟨rfl, rfl⟩ := trodVars_none hV
  clear hA0 hval0 hA
  simp only [List.append_nil] at hW' hAk
  have o0 := hval 0 _ _ rfl rfl
  have o1 := hval 1 _ _ rfl rfl
  have o2 := hval 2 _ _ rfl rfl
  have o3 := hval 3 _ _ rfl rfl
  clear hval
  obtain ⟨Ab, As, cb, cs, x, rfl, hin⟩ := open_works o0 h0
  obtain ⟨Ay, cy, recs, rfl, hy, hy1, hy2⟩ := open_listW Try.underlying66 (by kernel_rfl) Try.underlying5 o1 h1
  obtain ⟨Az, cz, lives, rfl, hz, hz1, hz2⟩ := open_listW Try.underlying67 (by kernel_rfl) Try.underlying126 o2 h2
  obtain ⟨wa, wb, rfl, wf1, wf2⟩ := open_two Try.underlying75 (by kernel_rfl) (by kernel_rfl) Try.underlying5 o3 h3
  have k1 := u8_bounds wf1
  have k2 := u8_bounds wf2
  refine Calls.mono (Eng.blamedLaw_any wa wb hin hy hy1 hy2 hz hz1 hz2 k1.1 k1.2 k2.1 k2.2) fun e W' ⟨he, hb⟩ => ?_
  subst he
  exact ⟨_, rfl, post_later (pv := []) hW' (List.append_nil _).symm (fun _ _ _ => (trodAll_cons_mk (shut_bool Try.underlying4 _) trodAll_mk0))
    (fun sp hsp => args_later kids full rowed hAk hb hsp) (fun _ _ => rfl) (ok_one (by kernel_rfl) rfl (okWide_bool_mk Try.underlying4 _)) hb⟩

theorem over : Rows.heatBlamedRow.holds Try.pinned (OpenSpec.ofChange Rows.heatBlamedSpec) :=
  OpenClaim.holds_of_wide 9 Try.f9 rfl rfl rfl rfl rfl rfl rfl ⟨rfl, rfl, rfl, rfl, rfl⟩ rfl rfl rfl rfl rfl (by kernel_rfl) Try.func9 (by kernel_rfl)
    (of_decide_eq_true (by kernel_rfl)) (by unfold Func.isWrapper; first | (rw [if_pos (by decide +kernel)]; kernel_rfl) | (rw [if_neg (by decide +kernel)]; exact ⟨rfl, rfl⟩))
    (fun os started H enc _ => lifted os started H enc)

theorem proved : Rows.HeatBlamedSaid := over
end Go.Proofs.Ytigpefjeelgfdaa.heatBlamed
