/-
  HoneSpared returns true, for every box, edge and goal: without a stone that can be given away the fewest strokes are as many, without another one they are more, or none reach the goal; the strokes that are returned have all stones that cannot be given away, and end with one of Ends. No condition.
-/
import Derived.Test.YtcmkkgdjhjpldaaDj7
set_option linter.unusedSimpArgs false
set_option linter.unusedVariables false
noncomputable section
namespace Go.Proofs.Ytcmkkgdjhjpldaa.Eng
open Go.RowKit
set_option maxRecDepth 100000
set_option maxHeartbeats 32000000
theorem honeSpared_c (l : List HS) (e g : HE) : ACall Try.prog 12 [boxD l, edgD e, edgD g] (bD true) := by
  have cf := fine_c l e g
  have cw := works_call
  rcases hf : fineB l e g <;> rw [hf] at cf
  · refine acallK tabOk Try.func12 rfl rfl (show 3 ≤ _ by decide) rfl fun _ => ?_; simp only [Try.ntmps12]
    repeat (first | (with_reducible first | refine zq1 fun _ => ?_ | refine zq2 fun _ => ?_ | refine zq3 ?_) | ((first | refine zq4 ?_ | refine zq5 fun _ _ => ?_ | refine zq6 ?_); simp [-getElem?_pos, z0, z1, z2, z0]) | ((first | refine AWp.ret ?_ | refine AWp.skip ?_ | refine AWp.exit ?_); try simp only [thenP]) | (with_reducible refine zq7 ?_; simp only [blockP, thenP, reduceIte]) | with_reducible refine zq8 ?_)
    (first | refine Exec0.call [] cf ?_ rfl ?_ ?_ | refine Exec.call [] cf ?_ rfl ?_ ?_); (focus simp [-getElem?_pos, z0]); (focus simp [-getElem?_pos, z0, z1, z2, z0]); simp [-getElem?_pos, z0, z1, z2, z0]
    repeat (first | (with_reducible first | refine zq1 fun _ => ?_ | refine zq2 fun _ => ?_ | refine zq3 ?_) | ((first | refine zq4 ?_ | refine zq5 fun _ _ => ?_ | refine zq6 ?_); simp [-getElem?_pos, z0, z1, z2, z0]) | ((first | refine AWp.ret ?_ | refine AWp.skip ?_ | refine AWp.exit ?_); try simp only [thenP]) | (with_reducible refine zq7 ?_; simp only [blockP, thenP, reduceIte]) | with_reducible refine zq8 ?_)
    (first | refine Exec0.call [] cw ?_ rfl ?_ ?_ | refine Exec.call [] cw ?_ rfl ?_ ?_); (focus simp [-getElem?_pos, z0]); (focus simp [-getElem?_pos, z0, z1, z2, z0]); simp [-getElem?_pos, z0, z1, z2, z0]
    repeat (first | (with_reducible first | refine zq1 fun _ => ?_ | refine zq2 fun _ => ?_ | refine zq3 ?_) | ((first | refine zq4 ?_ | refine zq5 fun _ _ => ?_ | refine zq6 ?_); simp [-getElem?_pos, z0, z1, z2, z0]) | ((first | refine AWp.ret ?_ | refine AWp.skip ?_ | refine AWp.exit ?_); try simp only [thenP]) | (with_reducible refine zq7 ?_; simp only [blockP, thenP, reduceIte]) | with_reducible refine zq8 ?_)
    (first | refine RR.ret ?_ | refine RR.normal ?_); simp [z0]
  rw [fineB, Bool.and_eq_true, decide_eq_true_eq, decide_eq_true_eq] at hf
  have h0 := hf.2
  obtain ⟨hb, hes⟩ := chkOk h0
  have gg := goodE (e := g) (by simp at hes; exact hes.2)
  have ge := goodE (e := e) (by simp at hes; exact hes.1)
  have hl := hb.all
  have n1 := hb.n1
  have n2 := hb.n2
  have cb := best_c l e g
  have cs := spare_c l e g
  have cy := ends_c l e g
  cases hn : needN l g e with
  | none =>
    have hre : reachE l g e = 13 := by rw [reachE, if_pos h0, hn]
    rw [hre, show bestO l e g = [] by rw [bestO, if_pos h0, hn], show intL [] = .list [] from rfl] at cb
    rw [hre, show spareO l e g = [] by rw [spareO, if_pos h0, hn], show intL [] = .list [] from rfl] at cs
    rw [hre, show endsO l e g = [] by rw [endsO, if_pos h0, hn], show intL [] = .list [] from rfl] at cy
    refine acallK tabOk Try.func12 rfl rfl (show 3 ≤ _ by decide) rfl fun _ => ?_; simp only [Try.ntmps12]
    repeat (first | (with_reducible first | refine zq1 fun _ => ?_ | refine zq2 fun _ => ?_ | refine zq3 ?_) | ((first | refine zq4 ?_ | refine zq5 fun _ _ => ?_ | refine zq6 ?_); simp [-getElem?_pos, z0, z1, z2, z0]) | ((first | refine AWp.ret ?_ | refine AWp.skip ?_ | refine AWp.exit ?_); try simp only [thenP]) | (with_reducible refine zq7 ?_; simp only [blockP, thenP, reduceIte]) | with_reducible refine zq8 ?_)
    (first | refine Exec0.call [] cf ?_ rfl ?_ ?_ | refine Exec.call [] cf ?_ rfl ?_ ?_); (focus simp [-getElem?_pos, z0]); (focus simp [-getElem?_pos, z0, z1, z2, z0]); simp [-getElem?_pos, z0, z1, z2, z0]
    repeat (first | (with_reducible first | refine zq1 fun _ => ?_ | refine zq2 fun _ => ?_ | refine zq3 ?_) | ((first | refine zq4 ?_ | refine zq5 fun _ _ => ?_ | refine zq6 ?_); simp [-getElem?_pos, z0, z1, z2, z0]) | ((first | refine AWp.ret ?_ | refine AWp.skip ?_ | refine AWp.exit ?_); try simp only [thenP]) | (with_reducible refine zq7 ?_; simp only [blockP, thenP, reduceIte]) | with_reducible refine zq8 ?_)
    (first | refine Exec0.call [] cb ?_ rfl ?_ ?_ | refine Exec.call [] cb ?_ rfl ?_ ?_); (focus simp [-getElem?_pos, z0]); (focus simp [-getElem?_pos, z0, z1, z2, z0]); simp [-getElem?_pos, z0, z1, z2, z0]
    repeat (first | (with_reducible first | refine zq1 fun _ => ?_ | refine zq2 fun _ => ?_ | refine zq3 ?_) | ((first | refine zq4 ?_ | refine zq5 fun _ _ => ?_ | refine zq6 ?_); simp [-getElem?_pos, z0, z1, z2, z0]) | ((first | refine AWp.ret ?_ | refine AWp.skip ?_ | refine AWp.exit ?_); try simp only [thenP]) | (with_reducible refine zq7 ?_; simp only [blockP, thenP, reduceIte]) | with_reducible refine zq8 ?_)
    (first | refine Exec0.call [] cs ?_ rfl ?_ ?_ | refine Exec.call [] cs ?_ rfl ?_ ?_); (focus simp [-getElem?_pos, z0]); (focus simp [-getElem?_pos, z0, z1, z2, z0]); simp [-getElem?_pos, z0, z1, z2, z0]
    repeat (first | (with_reducible first | refine zq1 fun _ => ?_ | refine zq2 fun _ => ?_ | refine zq3 ?_) | ((first | refine zq4 ?_ | refine zq5 fun _ _ => ?_ | refine zq6 ?_); simp [-getElem?_pos, z0, z1, z2, z0]) | ((first | refine AWp.ret ?_ | refine AWp.skip ?_ | refine AWp.exit ?_); try simp only [thenP]) | (with_reducible refine zq7 ?_; simp only [blockP, thenP, reduceIte]) | with_reducible refine zq8 ?_)
    (first | refine Exec0.call [] cy ?_ rfl ?_ ?_ | refine Exec.call [] cy ?_ rfl ?_ ?_); (focus simp [-getElem?_pos, z0]); (focus simp [-getElem?_pos, z0, z1, z2, z0]); simp [-getElem?_pos, z0, z1, z2, z0]
    repeat (first | (with_reducible first | refine zq1 fun _ => ?_ | refine zq2 fun _ => ?_ | refine zq3 ?_) | ((first | refine zq4 ?_ | refine zq5 fun _ _ => ?_ | refine zq6 ?_); simp [-getElem?_pos, z0, z1, z2, z0]) | ((first | refine AWp.ret ?_ | refine AWp.skip ?_ | refine AWp.exit ?_); try simp only [thenP]) | (with_reducible refine zq7 ?_; simp only [blockP, thenP, reduceIte]) | with_reducible refine zq8 ?_)
    (first | refine Exec0.call [] cw ?_ rfl ?_ ?_ | refine Exec.call [] cw ?_ rfl ?_ ?_); (focus simp [-getElem?_pos, z0]); (focus simp [-getElem?_pos, z0, z1, z2, z0]); simp [-getElem?_pos, z0, z1, z2, z0]
    repeat (first | (with_reducible first | refine zq1 fun _ => ?_ | refine zq2 fun _ => ?_ | refine zq3 ?_) | ((first | refine zq4 ?_ | refine zq5 fun _ _ => ?_ | refine zq6 ?_); simp [-getElem?_pos, z0, z1, z2, z0]) | ((first | refine AWp.ret ?_ | refine AWp.skip ?_ | refine AWp.exit ?_); try simp only [thenP]) | (with_reducible refine zq7 ?_; simp only [blockP, thenP, reduceIte]) | with_reducible refine zq8 ?_)
    (first | refine RR.ret ?_ | refine RR.normal ?_); simp [z0]
  | some k =>
    have hre : reachE l g e = 0 := by rw [reachE, if_pos h0, hn]
    rw [hre] at cb cs cy
    have hk8 := (rows_take hn).2
    have hSl := (best_of h0 hn).len
    have hout : ∀ i : Nat, i < l.length → (outN l g e k i = k ↔ (i : Int) ∈ spareO l e g) ∧ k ≤ outN l g e k i ∧ ((i : Int) ∈ spareO l e g ∨ (i : Int) ∈ bestO l e g) := fun i hi => ⟨(outOk h0 hn hi).eq, (outOk h0 hn hi).le, (outOk h0 hn hi).has⟩
    have hasc := endsO_asc l e g
    have hin : ∀ y ∈ endsO l e g, 0 ≤ y ∧ y < l.length := fun y hy => endsO_in h0 hn hy
    have hYl : (endsO l e g).length ≤ 6 := by
      rw [endsO, if_pos h0, hn]
      simp only [List.length_map]
      exact Nat.le_trans (List.length_filter_le _ _) (by simp)
    have hXl : (spareO l e g).length ≤ 6 := by
      rw [spareO, if_pos h0, hn]
      simp only [spareL, List.length_map]
      exact Nat.le_trans (List.length_filter_le _ _) (by simp; omega)
    have hlast : (k = 0 ∧ endsO l e g = []) ∨ (0 < k ∧ 0 < (endsO l e g).length ∧ ∃ z : Int, (bestO l e g)[k - 1]? = some z ∧ z ∈ endsO l e g) := by
      cases k with
      | zero => exact .inl ⟨rfl, ends_zero h0 hn⟩
      | succ K =>
        obtain ⟨st, q1, q2⟩ := ends_last h0 hn
        refine .inr ⟨by omega, List.length_pos_of_mem q2, st, ?_, q2⟩
        rw [List.getLast?_eq_getElem?, hSl] at q1
        exact q1
    have hfew : 1 < l.length → ∀ i, i < l.length → chkErr (woS l i) [e, g] = 0 := fun h1 i hi => by
      have hwl : (woS l i).length = l.length - 1 := by simp [woS]; omega
      have hbx : boxErr (woS l i) = 0 := by
        rw [boxErr, if_neg (by omega), if_pos (woS_ok hl i)]
      rw [chkErr, if_pos hbx]
      simp at hes
      simp [hes.1, hes.2]
    generalize bestO l e g = S at *
    generalize spareO l e g = X at *
    generalize endsO l e g = Y at *
    have cin := fun (z : Int) => in_c Y z (by omega)
    rcases hlast with ⟨hk, hYe⟩ | ⟨hk, hYp, z, hz, hzY⟩
    · have hSe : S = [] := List.length_eq_zero_iff.1 (by omega)
      refine acallK tabOk Try.func12 rfl rfl (show 3 ≤ _ by decide) rfl fun _ => ?_; simp only [Try.ntmps12]
      repeat (first | (with_reducible first | refine zq1 fun _ => ?_ | refine zq2 fun _ => ?_ | refine zq3 ?_) | ((first | refine zq4 ?_ | refine zq5 fun _ _ => ?_ | refine zq6 ?_); simp [-getElem?_pos, z0, z1, z2, z0]) | ((first | refine AWp.ret ?_ | refine AWp.skip ?_ | refine AWp.exit ?_); try simp only [thenP]) | (with_reducible refine zq7 ?_; simp only [blockP, thenP, reduceIte]) | with_reducible refine zq8 ?_)
      (first | refine Exec0.call [] cf ?_ rfl ?_ ?_ | refine Exec.call [] cf ?_ rfl ?_ ?_); (focus simp [-getElem?_pos, z0]); (focus simp [-getElem?_pos, z0, z1, z2, z0]); simp [-getElem?_pos, z0, z1, z2, z0]
      repeat (first | (with_reducible first | refine zq1 fun _ => ?_ | refine zq2 fun _ => ?_ | refine zq3 ?_) | ((first | refine zq4 ?_ | refine zq5 fun _ _ => ?_ | refine zq6 ?_); simp [-getElem?_pos, z0, z1, z2, z0]) | ((first | refine AWp.ret ?_ | refine AWp.skip ?_ | refine AWp.exit ?_); try simp only [thenP]) | (with_reducible refine zq7 ?_; simp only [blockP, thenP, reduceIte]) | with_reducible refine zq8 ?_)
      (first | refine Exec0.call [] cb ?_ rfl ?_ ?_ | refine Exec.call [] cb ?_ rfl ?_ ?_); (focus simp [-getElem?_pos, z0]); (focus simp [-getElem?_pos, z0, z1, z2, z0]); simp [-getElem?_pos, z0, z1, z2, z0]
      repeat (first | (with_reducible first | refine zq1 fun _ => ?_ | refine zq2 fun _ => ?_ | refine zq3 ?_) | ((first | refine zq4 ?_ | refine zq5 fun _ _ => ?_ | refine zq6 ?_); simp [-getElem?_pos, z0, z1, z2, z0]) | ((first | refine AWp.ret ?_ | refine AWp.skip ?_ | refine AWp.exit ?_); try simp only [thenP]) | (with_reducible refine zq7 ?_; simp only [blockP, thenP, reduceIte]) | with_reducible refine zq8 ?_)
      (first | refine Exec0.call [] cs ?_ rfl ?_ ?_ | refine Exec.call [] cs ?_ rfl ?_ ?_); (focus simp [-getElem?_pos, z0]); (focus simp [-getElem?_pos, z0, z1, z2, z0]); simp [-getElem?_pos, z0, z1, z2, z0]
      repeat (first | (with_reducible first | refine zq1 fun _ => ?_ | refine zq2 fun _ => ?_ | refine zq3 ?_) | ((first | refine zq4 ?_ | refine zq5 fun _ _ => ?_ | refine zq6 ?_); simp [-getElem?_pos, z0, z1, z2, z0]) | ((first | refine AWp.ret ?_ | refine AWp.skip ?_ | refine AWp.exit ?_); try simp only [thenP]) | (with_reducible refine zq7 ?_; simp only [blockP, thenP, reduceIte]) | with_reducible refine zq8 ?_)
      (first | refine Exec0.call [] cy ?_ rfl ?_ ?_ | refine Exec.call [] cy ?_ rfl ?_ ?_); (focus simp [-getElem?_pos, hSe, hYe]); (focus simp [-getElem?_pos, z0, z1, z2, hSe, hYe]); simp [-getElem?_pos, z0, z1, z2, hSe, hYe]
      repeat (first | (with_reducible first | refine zq1 fun _ => ?_ | refine zq2 fun _ => ?_ | refine zq3 ?_) | ((first | refine zq4 ?_ | refine zq5 fun _ _ => ?_ | refine zq6 ?_); simp [-getElem?_pos, z0, z1, z2, hSe, hYe]) | ((first | refine AWp.ret ?_ | refine AWp.skip ?_ | refine AWp.exit ?_); try simp only [thenP]) | (with_reducible refine zq7 ?_; simp only [blockP, thenP, reduceIte]) | with_reducible refine zq8 ?_)
      refine AWp.loopK (ι := { i : Nat // i ≤ l.length }) (n := 2) (fun i => [(0, .d (boxD l)), (4, .ptr 0 0 0), (5, .ptr 1 0 0), (7, .d (intL S)), (9, .d (intL X)), (11, .d (intL Y)), (13, .d (iD i.1))]) (fun _ => [(0, .box 24 [.d (iD e.depth), .d (iD e.burr)] false), (1, .box 24 [.d (iD g.depth), .d (iD g.burr)] false)]) (fun i => l.length - i.1) ⟨0, Nat.zero_le _⟩ [0, 1] ?_ ?_
      · refine ⟨by rfl, by simp [hSe, hYe], by simp [or_imp, forall_and, hSe, hYe] <;> (try (intro _hne; simp [_hne])), by decide⟩
      rintro ⟨i, hi⟩ kk
      have w1 : IntKind.i64.wrap ((i : Int) + 1) = (i : Int) + 1 := wrap64_in (by omega)
      by_cases hlt : i < l.length
      · have hii : (i : Int) < l.length := by omega
        obtain ⟨o1, o2, o3⟩ := hout i hlt
        rw [← hSl] at o1 o2
        have cx := in_c X (i : Int) (by omega)
        have cs2 := in_c S (i : Int) (by omega)
        by_cases h1 : 1 < l.length
        · have h1i : (1 : Int) < l.length := by omega
          have cwo := refWithout_c l (by omega) hlt
          have cfw := fewest_c (hfew h1 i hlt)
          have hN : outN l g e S.length i = fewN (woS l i) g e := by rw [outN, if_pos h1]
          rw [hN] at o1 o2
          generalize fewN (woS l i) g e = N at *
          have o2n : ¬ N < S.length := by omega
          have o2i : ¬ (N : Int) < S.length := by omega
          by_cases hX : (i : Int) ∈ X
          · have oe := o1.2 hX
            rw [decide_eq_true hX] at cx
            repeat (first | (with_reducible first | refine zq1 fun _ => ?_ | refine zq2 fun _ => ?_ | refine zq3 ?_) | ((first | refine zq4 ?_ | refine zq5 fun _ _ => ?_ | refine zq6 ?_); simp [-getElem?_pos, z0, z1, z2, hii, hlt, h1, h1i]) | ((first | refine AWp.ret ?_ | refine AWp.skip ?_ | refine AWp.exit ?_); try simp only [thenP]) | (with_reducible refine zq7 ?_; simp only [blockP, thenP, reduceIte]) | with_reducible refine zq8 ?_)
            (first | refine Exec0.call [] cwo ?_ rfl ?_ ?_ | refine Exec.call [] cwo ?_ rfl ?_ ?_); (focus simp [-getElem?_pos, z0]); (focus simp [-getElem?_pos, z0, z1, z2, z0]); simp [-getElem?_pos, z0, z1, z2, z0]
            (first | refine Exec0.call [] cfw ?_ rfl ?_ ?_ | refine Exec.call [] cfw ?_ rfl ?_ ?_); (focus simp [-getElem?_pos, z0]); (focus simp [-getElem?_pos, z0, z1, z2, z0]); simp [-getElem?_pos, z0, z1, z2, z0]
            repeat (first | (with_reducible first | refine zq1 fun _ => ?_ | refine zq2 fun _ => ?_ | refine zq3 ?_) | ((first | refine zq4 ?_ | refine zq5 fun _ _ => ?_ | refine zq6 ?_); simp [-getElem?_pos, z0, z1, z2, z0]) | ((first | refine AWp.ret ?_ | refine AWp.skip ?_ | refine AWp.exit ?_); try simp only [thenP]) | (with_reducible refine zq7 ?_; simp only [blockP, thenP, reduceIte]) | with_reducible refine zq8 ?_)
            (first | refine Exec0.call [] cx ?_ rfl ?_ ?_ | refine Exec.call [] cx ?_ rfl ?_ ?_); (focus simp [-getElem?_pos, oe, o2n, o2i]); (focus simp [-getElem?_pos, z0, z1, z2, oe, o2n, o2i]); simp [-getElem?_pos, z0, z1, z2, oe, o2n, o2i]
            (first | refine Exec0.call [] cx ?_ rfl ?_ ?_ | refine Exec.call [] cx ?_ rfl ?_ ?_); (focus simp [-getElem?_pos, oe, o2n, o2i]); (focus simp [-getElem?_pos, z0, z1, z2, oe, o2n, o2i]); simp [-getElem?_pos, z0, z1, z2, oe, o2n, o2i]
            repeat (first | (with_reducible first | refine zq1 fun _ => ?_ | refine zq2 fun _ => ?_ | refine zq3 ?_) | ((first | refine zq4 ?_ | refine zq5 fun _ _ => ?_ | refine zq6 ?_); simp [-getElem?_pos, z0, z1, z2, oe, o2n, o2i, w1]) | ((first | refine AWp.ret ?_ | refine AWp.skip ?_ | refine AWp.exit ?_); try simp only [thenP]) | (with_reducible refine zq7 ?_; simp only [blockP, thenP, reduceIte]) | with_reducible refine zq8 ?_)
            refine LL.go ⟨i + 1, hlt⟩ [0, 1] ⟨by rfl, by simp [], by simp [or_imp, forall_and, ] <;> (try (intro _hne; simp [_hne])), by decide⟩ ?_
            simp; omega
          · have oe : ¬ N = S.length := fun h => hX (o1.1 h)
            have oei : ¬ (N : Int) = S.length := by omega
            rw [decide_eq_false hX] at cx
            rw [decide_eq_true (o3.resolve_left hX)] at cs2
            repeat (first | (with_reducible first | refine zq1 fun _ => ?_ | refine zq2 fun _ => ?_ | refine zq3 ?_) | ((first | refine zq4 ?_ | refine zq5 fun _ _ => ?_ | refine zq6 ?_); simp [-getElem?_pos, z0, z1, z2, hii, hlt, h1, h1i]) | ((first | refine AWp.ret ?_ | refine AWp.skip ?_ | refine AWp.exit ?_); try simp only [thenP]) | (with_reducible refine zq7 ?_; simp only [blockP, thenP, reduceIte]) | with_reducible refine zq8 ?_)
            (first | refine Exec0.call [] cwo ?_ rfl ?_ ?_ | refine Exec.call [] cwo ?_ rfl ?_ ?_); (focus simp [-getElem?_pos, z0]); (focus simp [-getElem?_pos, z0, z1, z2, z0]); simp [-getElem?_pos, z0, z1, z2, z0]
            (first | refine Exec0.call [] cfw ?_ rfl ?_ ?_ | refine Exec.call [] cfw ?_ rfl ?_ ?_); (focus simp [-getElem?_pos, z0]); (focus simp [-getElem?_pos, z0, z1, z2, z0]); simp [-getElem?_pos, z0, z1, z2, z0]
            repeat (first | (with_reducible first | refine zq1 fun _ => ?_ | refine zq2 fun _ => ?_ | refine zq3 ?_) | ((first | refine zq4 ?_ | refine zq5 fun _ _ => ?_ | refine zq6 ?_); simp [-getElem?_pos, z0, z1, z2, z0]) | ((first | refine AWp.ret ?_ | refine AWp.skip ?_ | refine AWp.exit ?_); try simp only [thenP]) | (with_reducible refine zq7 ?_; simp only [blockP, thenP, reduceIte]) | with_reducible refine zq8 ?_)
            (first | refine Exec0.call [] cx ?_ rfl ?_ ?_ | refine Exec.call [] cx ?_ rfl ?_ ?_); (focus simp [-getElem?_pos, oe, oei, o2n, o2i]); (focus simp [-getElem?_pos, z0, z1, z2, oe, oei, o2n, o2i]); simp [-getElem?_pos, z0, z1, z2, oe, oei, o2n, o2i]
            (first | refine Exec0.call [] cx ?_ rfl ?_ ?_ | refine Exec.call [] cx ?_ rfl ?_ ?_); (focus simp [-getElem?_pos, oe, oei, o2n, o2i]); (focus simp [-getElem?_pos, z0, z1, z2, oe, oei, o2n, o2i]); simp [-getElem?_pos, z0, z1, z2, oe, oei, o2n, o2i]
            (first | refine Exec0.call [] cs2 ?_ rfl ?_ ?_ | refine Exec.call [] cs2 ?_ rfl ?_ ?_); (focus simp [-getElem?_pos, oe, oei, o2n, o2i]); (focus simp [-getElem?_pos, z0, z1, z2, oe, oei, o2n, o2i]); simp [-getElem?_pos, z0, z1, z2, oe, oei, o2n, o2i]
            repeat (first | (with_reducible first | refine zq1 fun _ => ?_ | refine zq2 fun _ => ?_ | refine zq3 ?_) | ((first | refine zq4 ?_ | refine zq5 fun _ _ => ?_ | refine zq6 ?_); simp [-getElem?_pos, z0, z1, z2, oe, oei, o2n, o2i, w1]) | ((first | refine AWp.ret ?_ | refine AWp.skip ?_ | refine AWp.exit ?_); try simp only [thenP]) | (with_reducible refine zq7 ?_; simp only [blockP, thenP, reduceIte]) | with_reducible refine zq8 ?_)
            refine LL.go ⟨i + 1, hlt⟩ [0, 1] ⟨by rfl, by simp [], by simp [or_imp, forall_and, ] <;> (try (intro _hne; simp [_hne])), by decide⟩ ?_
            simp; omega
        · have h1i : ¬ (1 : Int) < l.length := by omega
          have hN : outN l g e S.length i = 0 := by rw [outN, if_neg h1, if_pos (by rw [hSe]; rfl)]
          rw [hN] at o1 o2
          have hSz : S.length = 0 := by rw [hSe]; rfl
          have hX := o1.1 hSz.symm
          rw [decide_eq_true hX] at cx
          repeat (first | (with_reducible first | refine zq1 fun _ => ?_ | refine zq2 fun _ => ?_ | refine zq3 ?_) | ((first | refine zq4 ?_ | refine zq5 fun _ _ => ?_ | refine zq6 ?_); simp [-getElem?_pos, z0, z1, z2, hii, hlt, h1, h1i, hSe, hSz]) | ((first | refine AWp.ret ?_ | refine AWp.skip ?_ | refine AWp.exit ?_); try simp only [thenP]) | (with_reducible refine zq7 ?_; simp only [blockP, thenP, reduceIte]) | with_reducible refine zq8 ?_)
          (first | refine Exec0.call [] cx ?_ rfl ?_ ?_ | refine Exec.call [] cx ?_ rfl ?_ ?_); (focus simp [-getElem?_pos, hSe, hSz]); (focus simp [-getElem?_pos, z0, z1, z2, hSe, hSz]); simp [-getElem?_pos, z0, z1, z2, hSe, hSz]
          (first | refine Exec0.call [] cx ?_ rfl ?_ ?_ | refine Exec.call [] cx ?_ rfl ?_ ?_); (focus simp [-getElem?_pos, hSe, hSz]); (focus simp [-getElem?_pos, z0, z1, z2, hSe, hSz]); simp [-getElem?_pos, z0, z1, z2, hSe, hSz]
          repeat (first | (with_reducible first | refine zq1 fun _ => ?_ | refine zq2 fun _ => ?_ | refine zq3 ?_) | ((first | refine zq4 ?_ | refine zq5 fun _ _ => ?_ | refine zq6 ?_); simp [-getElem?_pos, z0, z1, z2, w1]) | ((first | refine AWp.ret ?_ | refine AWp.skip ?_ | refine AWp.exit ?_); try simp only [thenP]) | (with_reducible refine zq7 ?_; simp only [blockP, thenP, reduceIte]) | with_reducible refine zq8 ?_)
          refine LL.go ⟨i + 1, hlt⟩ [0, 1] ⟨by rfl, by simp [hSe, iRows], by simp [or_imp, forall_and, hSe, iRows] <;> (try (intro _hne; simp [_hne])), by decide⟩ ?_
          simp; omega
      · obtain rfl : i = l.length := by omega
        repeat (first | (with_reducible first | refine zq1 fun _ => ?_ | refine zq2 fun _ => ?_ | refine zq3 ?_) | ((first | refine zq4 ?_ | refine zq5 fun _ _ => ?_ | refine zq6 ?_); simp [-getElem?_pos, z0, z1, z2, z0]) | ((first | refine AWp.ret ?_ | refine AWp.skip ?_ | refine AWp.exit ?_); try simp only [thenP]) | (with_reducible refine zq7 ?_; simp only [blockP, thenP, reduceIte]) | with_reducible refine zq8 ?_)
        refine AWp.loopK (ι := { j : Nat // j ≤ Y.length }) (n := 0) (fun j => [(0, .d (boxD l)), (11, .d (intL Y)), (17, .d (iD j.1))]) (fun _ => []) (fun j => Y.length - j.1) ⟨0, Nat.zero_le _⟩ [] ?_ ?_
        · refine ⟨by rfl, by simp [], by simp [or_imp, forall_and, ] <;> (try (intro _hne; simp [_hne])), by decide⟩
        rintro ⟨j, hj⟩ kj
        have w2 : IntKind.i64.wrap ((j : Int) + 1) = (j : Int) + 1 := wrap64_in (by omega)
        by_cases hlj : j < Y.length
        · have hji : (j : Int) < Y.length := by omega
          obtain ⟨y, hy⟩ : ∃ y, Y[j]? = some y := ⟨_, List.getElem?_eq_getElem hlj⟩
          obtain ⟨y1, y2⟩ := hin y (List.mem_of_getElem? hy)
          have y1n : ¬ y < 0 := by omega
          have y2n : ¬ (l.length : Int) ≤ y := by omega
          cases j with
          | zero =>
            have w10 : IntKind.i64.wrap 1 = 1 := by decide
            repeat (first | (with_reducible first | refine zq1 fun _ => ?_ | refine zq2 fun _ => ?_ | refine zq3 ?_) | ((first | refine zq4 ?_ | refine zq5 fun _ _ => ?_ | refine zq6 ?_); simp [-getElem?_pos, z0, z1, z2, hji, hlj, hy, y1n, y2n, w10]) | ((first | refine AWp.ret ?_ | refine AWp.skip ?_ | refine AWp.exit ?_); try simp only [thenP]) | (with_reducible refine zq7 ?_; simp only [blockP, thenP, reduceIte]) | with_reducible refine zq8 ?_)
            refine LL.go ⟨1, hlj⟩ [] ⟨by rfl, by simp [], by simp [or_imp, forall_and, ] <;> (try (intro _hne; simp [_hne])), by decide⟩ ?_
            simp; omega
          | succ q =>
            obtain ⟨x, hx⟩ : ∃ x, Y[q]? = some x := ⟨_, List.getElem?_eq_getElem (by omega)⟩
            have hxy : x < y := by
              have := List.pairwise_iff_getElem.1 hasc q (q + 1) (by omega) hlj (by omega)
              rw [List.getElem?_eq_getElem (by omega)] at hx hy
              cases hx
              cases hy
              exact this
            have hxn : ¬ y ≤ x := by omega
            have w3 : IntKind.i64.wrap (q : Int) = (q : Int) := wrap64_in (by omega)
            have w5 : IntKind.i64.wrap ((q : Int) + 1 + 1) = (q : Int) + 1 + 1 := wrap64_in (by omega)
            have hq0 : (0 : Int) < (q : Int) + 1 := by omega
            have hqi : (q : Int) + 1 < Y.length := by omega
            have hqp : 0 ≤ (q : Int) + 1 := by omega
            have hqt : ((q : Int) + 1).toNat = q + 1 := by omega
            repeat (first | (with_reducible first | refine zq1 fun _ => ?_ | refine zq2 fun _ => ?_ | refine zq3 ?_) | ((first | refine zq4 ?_ | refine zq5 fun _ _ => ?_ | refine zq6 ?_); simp [-getElem?_pos, z0, z1, z2, hqi, hlj, hy, hx, y1n, y2n, hxn, w3, w5, hq0, hqp, hqt]) | ((first | refine AWp.ret ?_ | refine AWp.skip ?_ | refine AWp.exit ?_); try simp only [thenP]) | (with_reducible refine zq7 ?_; simp only [blockP, thenP, reduceIte]) | with_reducible refine zq8 ?_)
            refine LL.go ⟨q + 1 + 1, hlj⟩ [] ⟨by rfl, by simp [], by simp [or_imp, forall_and, ] <;> (try (intro _hne; simp [_hne])), by decide⟩ ?_
            simp; omega
        · obtain rfl : j = Y.length := by omega
          repeat (first | (with_reducible first | refine zq1 fun _ => ?_ | refine zq2 fun _ => ?_ | refine zq3 ?_) | ((first | refine zq4 ?_ | refine zq5 fun _ _ => ?_ | refine zq6 ?_); simp [-getElem?_pos, z0, z1, z2, z0]) | ((first | refine AWp.ret ?_ | refine AWp.skip ?_ | refine AWp.exit ?_); try simp only [thenP]) | (with_reducible refine zq7 ?_; simp only [blockP, thenP, reduceIte]) | with_reducible refine zq8 ?_)
          (first | refine Exec0.call [] cw ?_ rfl ?_ ?_ | refine Exec.call [] cw ?_ rfl ?_ ?_); (focus simp [-getElem?_pos, z0]); (focus simp [-getElem?_pos, z0, z1, z2, z0]); simp [-getElem?_pos, z0, z1, z2, z0]
          repeat (first | (with_reducible first | refine zq1 fun _ => ?_ | refine zq2 fun _ => ?_ | refine zq3 ?_) | ((first | refine zq4 ?_ | refine zq5 fun _ _ => ?_ | refine zq6 ?_); simp [-getElem?_pos, z0, z1, z2, z0]) | ((first | refine AWp.ret ?_ | refine AWp.skip ?_ | refine AWp.exit ?_); try simp only [thenP]) | (with_reducible refine zq7 ?_; simp only [blockP, thenP, reduceIte]) | with_reducible refine zq8 ?_)
          (first | refine RR.ret ?_ | refine RR.normal ?_); simp [z0]
    · have hS0 : ¬ S = [] := fun h => by subst h; simp at hSl; omega
      have hY0 : ¬ Y = [] := fun h => by subst h; simp at hYp
      have hSp : 0 < S.length := by omega
      have wS : IntKind.i64.wrap ((S.length : Int) - 1) = ((S.length - 1 : Nat) : Int) := by rw [wrap64_in (by omega)]; omega
      rw [← hSl] at hz
      have hz2 : (((S.length - 1 : Nat) : Int)).toNat = S.length - 1 := by omega
      have cz := cin z
      rw [decide_eq_true hzY] at cz
      refine acallK tabOk Try.func12 rfl rfl (show 3 ≤ _ by decide) rfl fun _ => ?_; simp only [Try.ntmps12]
      repeat (first | (with_reducible first | refine zq1 fun _ => ?_ | refine zq2 fun _ => ?_ | refine zq3 ?_) | ((first | refine zq4 ?_ | refine zq5 fun _ _ => ?_ | refine zq6 ?_); simp [-getElem?_pos, z0, z1, z2, z0]) | ((first | refine AWp.ret ?_ | refine AWp.skip ?_ | refine AWp.exit ?_); try simp only [thenP]) | (with_reducible refine zq7 ?_; simp only [blockP, thenP, reduceIte]) | with_reducible refine zq8 ?_)
      (first | refine Exec0.call [] cf ?_ rfl ?_ ?_ | refine Exec.call [] cf ?_ rfl ?_ ?_); (focus simp [-getElem?_pos, z0]); (focus simp [-getElem?_pos, z0, z1, z2, z0]); simp [-getElem?_pos, z0, z1, z2, z0]
      repeat (first | (with_reducible first | refine zq1 fun _ => ?_ | refine zq2 fun _ => ?_ | refine zq3 ?_) | ((first | refine zq4 ?_ | refine zq5 fun _ _ => ?_ | refine zq6 ?_); simp [-getElem?_pos, z0, z1, z2, z0]) | ((first | refine AWp.ret ?_ | refine AWp.skip ?_ | refine AWp.exit ?_); try simp only [thenP]) | (with_reducible refine zq7 ?_; simp only [blockP, thenP, reduceIte]) | with_reducible refine zq8 ?_)
      (first | refine Exec0.call [] cb ?_ rfl ?_ ?_ | refine Exec.call [] cb ?_ rfl ?_ ?_); (focus simp [-getElem?_pos, z0]); (focus simp [-getElem?_pos, z0, z1, z2, z0]); simp [-getElem?_pos, z0, z1, z2, z0]
      repeat (first | (with_reducible first | refine zq1 fun _ => ?_ | refine zq2 fun _ => ?_ | refine zq3 ?_) | ((first | refine zq4 ?_ | refine zq5 fun _ _ => ?_ | refine zq6 ?_); simp [-getElem?_pos, z0, z1, z2, z0]) | ((first | refine AWp.ret ?_ | refine AWp.skip ?_ | refine AWp.exit ?_); try simp only [thenP]) | (with_reducible refine zq7 ?_; simp only [blockP, thenP, reduceIte]) | with_reducible refine zq8 ?_)
      (first | refine Exec0.call [] cs ?_ rfl ?_ ?_ | refine Exec.call [] cs ?_ rfl ?_ ?_); (focus simp [-getElem?_pos, z0]); (focus simp [-getElem?_pos, z0, z1, z2, z0]); simp [-getElem?_pos, z0, z1, z2, z0]
      repeat (first | (with_reducible first | refine zq1 fun _ => ?_ | refine zq2 fun _ => ?_ | refine zq3 ?_) | ((first | refine zq4 ?_ | refine zq5 fun _ _ => ?_ | refine zq6 ?_); simp [-getElem?_pos, z0, z1, z2, z0]) | ((first | refine AWp.ret ?_ | refine AWp.skip ?_ | refine AWp.exit ?_); try simp only [thenP]) | (with_reducible refine zq7 ?_; simp only [blockP, thenP, reduceIte]) | with_reducible refine zq8 ?_)
      (first | refine Exec0.call [] cy ?_ rfl ?_ ?_ | refine Exec.call [] cy ?_ rfl ?_ ?_); (focus simp [-getElem?_pos, hS0, hY0, hSp, wS, hz, hz2]); (focus simp [-getElem?_pos, z0, z1, z2, hS0, hY0, hSp, wS, hz, hz2]); simp [-getElem?_pos, z0, z1, z2, hS0, hY0, hSp, wS, hz, hz2]
      repeat (first | (with_reducible first | refine zq1 fun _ => ?_ | refine zq2 fun _ => ?_ | refine zq3 ?_) | ((first | refine zq4 ?_ | refine zq5 fun _ _ => ?_ | refine zq6 ?_); simp [-getElem?_pos, z0, z1, z2, hS0, hY0, hSp, wS, hz, hz2]) | ((first | refine AWp.ret ?_ | refine AWp.skip ?_ | refine AWp.exit ?_); try simp only [thenP]) | (with_reducible refine zq7 ?_; simp only [blockP, thenP, reduceIte]) | with_reducible refine zq8 ?_)
      (first | refine Exec0.call [] cz ?_ rfl ?_ ?_ | refine Exec.call [] cz ?_ rfl ?_ ?_); (focus simp [-getElem?_pos, z0]); (focus simp [-getElem?_pos, z0, z1, z2, z0]); simp [-getElem?_pos, z0, z1, z2, z0]
      repeat (first | (with_reducible first | refine zq1 fun _ => ?_ | refine zq2 fun _ => ?_ | refine zq3 ?_) | ((first | refine zq4 ?_ | refine zq5 fun _ _ => ?_ | refine zq6 ?_); simp [-getElem?_pos, z0, z1, z2, z0]) | ((first | refine AWp.ret ?_ | refine AWp.skip ?_ | refine AWp.exit ?_); try simp only [thenP]) | (with_reducible refine zq7 ?_; simp only [blockP, thenP, reduceIte]) | with_reducible refine zq8 ?_)
      refine AWp.loopK (ι := { i : Nat // i ≤ l.length }) (n := 2) (fun i => [(0, .d (boxD l)), (4, .ptr 0 0 0), (5, .ptr 1 0 0), (7, .d (intL S)), (9, .d (intL X)), (11, .d (intL Y)), (13, .d (iD i.1))]) (fun _ => [(0, .box 24 [.d (iD e.depth), .d (iD e.burr)] false), (1, .box 24 [.d (iD g.depth), .d (iD g.burr)] false)]) (fun i => l.length - i.1) ⟨0, Nat.zero_le _⟩ [0, 1] ?_ ?_
      · refine ⟨by rfl, by simp [z0], by simp [or_imp, forall_and, z0] <;> (try (intro _hne; simp [_hne])), by decide⟩
      rintro ⟨i, hi⟩ kk
      have w1 : IntKind.i64.wrap ((i : Int) + 1) = (i : Int) + 1 := wrap64_in (by omega)
      by_cases hlt : i < l.length
      · have hii : (i : Int) < l.length := by omega
        obtain ⟨o1, o2, o3⟩ := hout i hlt
        rw [← hSl] at o1 o2
        have cx := in_c X (i : Int) (by omega)
        have cs2 := in_c S (i : Int) (by omega)
        by_cases h1 : 1 < l.length
        · have h1i : (1 : Int) < l.length := by omega
          have cwo := refWithout_c l (by omega) hlt
          have cfw := fewest_c (hfew h1 i hlt)
          have hN : outN l g e S.length i = fewN (woS l i) g e := by rw [outN, if_pos h1]
          rw [hN] at o1 o2
          generalize fewN (woS l i) g e = N at *
          have o2n : ¬ N < S.length := by omega
          have o2i : ¬ (N : Int) < S.length := by omega
          by_cases hX : (i : Int) ∈ X
          · have oe := o1.2 hX
            rw [decide_eq_true hX] at cx
            repeat (first | (with_reducible first | refine zq1 fun _ => ?_ | refine zq2 fun _ => ?_ | refine zq3 ?_) | ((first | refine zq4 ?_ | refine zq5 fun _ _ => ?_ | refine zq6 ?_); simp [-getElem?_pos, z0, z1, z2, hii, hlt, h1, h1i]) | ((first | refine AWp.ret ?_ | refine AWp.skip ?_ | refine AWp.exit ?_); try simp only [thenP]) | (with_reducible refine zq7 ?_; simp only [blockP, thenP, reduceIte]) | with_reducible refine zq8 ?_)
            (first | refine Exec0.call [] cwo ?_ rfl ?_ ?_ | refine Exec.call [] cwo ?_ rfl ?_ ?_); (focus simp [-getElem?_pos, z0]); (focus simp [-getElem?_pos, z0, z1, z2, z0]); simp [-getElem?_pos, z0, z1, z2, z0]
            (first | refine Exec0.call [] cfw ?_ rfl ?_ ?_ | refine Exec.call [] cfw ?_ rfl ?_ ?_); (focus simp [-getElem?_pos, z0]); (focus simp [-getElem?_pos, z0, z1, z2, z0]); simp [-getElem?_pos, z0, z1, z2, z0]
            repeat (first | (with_reducible first | refine zq1 fun _ => ?_ | refine zq2 fun _ => ?_ | refine zq3 ?_) | ((first | refine zq4 ?_ | refine zq5 fun _ _ => ?_ | refine zq6 ?_); simp [-getElem?_pos, z0, z1, z2, z0]) | ((first | refine AWp.ret ?_ | refine AWp.skip ?_ | refine AWp.exit ?_); try simp only [thenP]) | (with_reducible refine zq7 ?_; simp only [blockP, thenP, reduceIte]) | with_reducible refine zq8 ?_)
            (first | refine Exec0.call [] cx ?_ rfl ?_ ?_ | refine Exec.call [] cx ?_ rfl ?_ ?_); (focus simp [-getElem?_pos, oe, o2n, o2i]); (focus simp [-getElem?_pos, z0, z1, z2, oe, o2n, o2i]); simp [-getElem?_pos, z0, z1, z2, oe, o2n, o2i]
            (first | refine Exec0.call [] cx ?_ rfl ?_ ?_ | refine Exec.call [] cx ?_ rfl ?_ ?_); (focus simp [-getElem?_pos, oe, o2n, o2i]); (focus simp [-getElem?_pos, z0, z1, z2, oe, o2n, o2i]); simp [-getElem?_pos, z0, z1, z2, oe, o2n, o2i]
            repeat (first | (with_reducible first | refine zq1 fun _ => ?_ | refine zq2 fun _ => ?_ | refine zq3 ?_) | ((first | refine zq4 ?_ | refine zq5 fun _ _ => ?_ | refine zq6 ?_); simp [-getElem?_pos, z0, z1, z2, oe, o2n, o2i, w1]) | ((first | refine AWp.ret ?_ | refine AWp.skip ?_ | refine AWp.exit ?_); try simp only [thenP]) | (with_reducible refine zq7 ?_; simp only [blockP, thenP, reduceIte]) | with_reducible refine zq8 ?_)
            refine LL.go ⟨i + 1, hlt⟩ [0, 1] ⟨by rfl, by simp [], by simp [or_imp, forall_and, ] <;> (try (intro _hne; simp [_hne])), by decide⟩ ?_
            simp; omega
          · have oe : ¬ N = S.length := fun h => hX (o1.1 h)
            have oei : ¬ (N : Int) = S.length := by omega
            rw [decide_eq_false hX] at cx
            rw [decide_eq_true (o3.resolve_left hX)] at cs2
            repeat (first | (with_reducible first | refine zq1 fun _ => ?_ | refine zq2 fun _ => ?_ | refine zq3 ?_) | ((first | refine zq4 ?_ | refine zq5 fun _ _ => ?_ | refine zq6 ?_); simp [-getElem?_pos, z0, z1, z2, hii, hlt, h1, h1i]) | ((first | refine AWp.ret ?_ | refine AWp.skip ?_ | refine AWp.exit ?_); try simp only [thenP]) | (with_reducible refine zq7 ?_; simp only [blockP, thenP, reduceIte]) | with_reducible refine zq8 ?_)
            (first | refine Exec0.call [] cwo ?_ rfl ?_ ?_ | refine Exec.call [] cwo ?_ rfl ?_ ?_); (focus simp [-getElem?_pos, z0]); (focus simp [-getElem?_pos, z0, z1, z2, z0]); simp [-getElem?_pos, z0, z1, z2, z0]
            (first | refine Exec0.call [] cfw ?_ rfl ?_ ?_ | refine Exec.call [] cfw ?_ rfl ?_ ?_); (focus simp [-getElem?_pos, z0]); (focus simp [-getElem?_pos, z0, z1, z2, z0]); simp [-getElem?_pos, z0, z1, z2, z0]
            repeat (first | (with_reducible first | refine zq1 fun _ => ?_ | refine zq2 fun _ => ?_ | refine zq3 ?_) | ((first | refine zq4 ?_ | refine zq5 fun _ _ => ?_ | refine zq6 ?_); simp [-getElem?_pos, z0, z1, z2, z0]) | ((first | refine AWp.ret ?_ | refine AWp.skip ?_ | refine AWp.exit ?_); try simp only [thenP]) | (with_reducible refine zq7 ?_; simp only [blockP, thenP, reduceIte]) | with_reducible refine zq8 ?_)
            (first | refine Exec0.call [] cx ?_ rfl ?_ ?_ | refine Exec.call [] cx ?_ rfl ?_ ?_); (focus simp [-getElem?_pos, oe, oei, o2n, o2i]); (focus simp [-getElem?_pos, z0, z1, z2, oe, oei, o2n, o2i]); simp [-getElem?_pos, z0, z1, z2, oe, oei, o2n, o2i]
            (first | refine Exec0.call [] cx ?_ rfl ?_ ?_ | refine Exec.call [] cx ?_ rfl ?_ ?_); (focus simp [-getElem?_pos, oe, oei, o2n, o2i]); (focus simp [-getElem?_pos, z0, z1, z2, oe, oei, o2n, o2i]); simp [-getElem?_pos, z0, z1, z2, oe, oei, o2n, o2i]
            (first | refine Exec0.call [] cs2 ?_ rfl ?_ ?_ | refine Exec.call [] cs2 ?_ rfl ?_ ?_); (focus simp [-getElem?_pos, oe, oei, o2n, o2i]); (focus simp [-getElem?_pos, z0, z1, z2, oe, oei, o2n, o2i]); simp [-getElem?_pos, z0, z1, z2, oe, oei, o2n, o2i]
            repeat (first | (with_reducible first | refine zq1 fun _ => ?_ | refine zq2 fun _ => ?_ | refine zq3 ?_) | ((first | refine zq4 ?_ | refine zq5 fun _ _ => ?_ | refine zq6 ?_); simp [-getElem?_pos, z0, z1, z2, oe, oei, o2n, o2i, w1]) | ((first | refine AWp.ret ?_ | refine AWp.skip ?_ | refine AWp.exit ?_); try simp only [thenP]) | (with_reducible refine zq7 ?_; simp only [blockP, thenP, reduceIte]) | with_reducible refine zq8 ?_)
            refine LL.go ⟨i + 1, hlt⟩ [0, 1] ⟨by rfl, by simp [], by simp [or_imp, forall_and, ] <;> (try (intro _hne; simp [_hne])), by decide⟩ ?_
            simp; omega
        · have h1i : ¬ (1 : Int) < l.length := by omega
          have hN : outN l g e S.length i = 1000 := by rw [outN, if_neg h1, if_neg (by omega)]
          rw [hN] at o1 o2
          have hX : ¬ (i : Int) ∈ X := fun h => by have := o1.2 h; omega
          rw [decide_eq_false hX] at cx
          rw [decide_eq_true (o3.resolve_left hX)] at cs2
          have t1 : ¬ (1000 : Int) = S.length := by omega
          have t2 : ¬ (1000 : Int) < S.length := by omega
          have t3 : ¬ 1000 = S.length := by omega
          have t4 : ¬ 1000 < S.length := by omega
          repeat (first | (with_reducible first | refine zq1 fun _ => ?_ | refine zq2 fun _ => ?_ | refine zq3 ?_) | ((first | refine zq4 ?_ | refine zq5 fun _ _ => ?_ | refine zq6 ?_); simp [-getElem?_pos, z0, z1, z2, hii, hlt, h1, h1i, hS0, hSp]) | ((first | refine AWp.ret ?_ | refine AWp.skip ?_ | refine AWp.exit ?_); try simp only [thenP]) | (with_reducible refine zq7 ?_; simp only [blockP, thenP, reduceIte]) | with_reducible refine zq8 ?_)
          (first | refine Exec0.call [] cx ?_ rfl ?_ ?_ | refine Exec.call [] cx ?_ rfl ?_ ?_); (focus simp [-getElem?_pos, t1, t2, t3, t4]); (focus simp [-getElem?_pos, z0, z1, z2, t1, t2, t3, t4]); simp [-getElem?_pos, z0, z1, z2, t1, t2, t3, t4]
          (first | refine Exec0.call [] cx ?_ rfl ?_ ?_ | refine Exec.call [] cx ?_ rfl ?_ ?_); (focus simp [-getElem?_pos, t1, t2, t3, t4]); (focus simp [-getElem?_pos, z0, z1, z2, t1, t2, t3, t4]); simp [-getElem?_pos, z0, z1, z2, t1, t2, t3, t4]
          (first | refine Exec0.call [] cs2 ?_ rfl ?_ ?_ | refine Exec.call [] cs2 ?_ rfl ?_ ?_); (focus simp [-getElem?_pos, t1, t2, t3, t4]); (focus simp [-getElem?_pos, z0, z1, z2, t1, t2, t3, t4]); simp [-getElem?_pos, z0, z1, z2, t1, t2, t3, t4]
          repeat (first | (with_reducible first | refine zq1 fun _ => ?_ | refine zq2 fun _ => ?_ | refine zq3 ?_) | ((first | refine zq4 ?_ | refine zq5 fun _ _ => ?_ | refine zq6 ?_); simp [-getElem?_pos, z0, z1, z2, w1]) | ((first | refine AWp.ret ?_ | refine AWp.skip ?_ | refine AWp.exit ?_); try simp only [thenP]) | (with_reducible refine zq7 ?_; simp only [blockP, thenP, reduceIte]) | with_reducible refine zq8 ?_)
          refine LL.go ⟨i + 1, hlt⟩ [0, 1] ⟨by rfl, by simp [], by simp [or_imp, forall_and, ] <;> (try (intro _hne; simp [_hne])), by decide⟩ ?_
          simp; omega
      · obtain rfl : i = l.length := by omega
        repeat (first | (with_reducible first | refine zq1 fun _ => ?_ | refine zq2 fun _ => ?_ | refine zq3 ?_) | ((first | refine zq4 ?_ | refine zq5 fun _ _ => ?_ | refine zq6 ?_); simp [-getElem?_pos, z0, z1, z2, z0]) | ((first | refine AWp.ret ?_ | refine AWp.skip ?_ | refine AWp.exit ?_); try simp only [thenP]) | (with_reducible refine zq7 ?_; simp only [blockP, thenP, reduceIte]) | with_reducible refine zq8 ?_)
        refine AWp.loopK (ι := { j : Nat // j ≤ Y.length }) (n := 0) (fun j => [(0, .d (boxD l)), (11, .d (intL Y)), (17, .d (iD j.1))]) (fun _ => []) (fun j => Y.length - j.1) ⟨0, Nat.zero_le _⟩ [] ?_ ?_
        · refine ⟨by rfl, by simp [], by simp [or_imp, forall_and, ] <;> (try (intro _hne; simp [_hne])), by decide⟩
        rintro ⟨j, hj⟩ kj
        have w2 : IntKind.i64.wrap ((j : Int) + 1) = (j : Int) + 1 := wrap64_in (by omega)
        by_cases hlj : j < Y.length
        · have hji : (j : Int) < Y.length := by omega
          obtain ⟨y, hy⟩ : ∃ y, Y[j]? = some y := ⟨_, List.getElem?_eq_getElem hlj⟩
          obtain ⟨y1, y2⟩ := hin y (List.mem_of_getElem? hy)
          have y1n : ¬ y < 0 := by omega
          have y2n : ¬ (l.length : Int) ≤ y := by omega
          cases j with
          | zero =>
            have w10 : IntKind.i64.wrap 1 = 1 := by decide
            repeat (first | (with_reducible first | refine zq1 fun _ => ?_ | refine zq2 fun _ => ?_ | refine zq3 ?_) | ((first | refine zq4 ?_ | refine zq5 fun _ _ => ?_ | refine zq6 ?_); simp [-getElem?_pos, z0, z1, z2, hji, hlj, hy, y1n, y2n, w10]) | ((first | refine AWp.ret ?_ | refine AWp.skip ?_ | refine AWp.exit ?_); try simp only [thenP]) | (with_reducible refine zq7 ?_; simp only [blockP, thenP, reduceIte]) | with_reducible refine zq8 ?_)
            refine LL.go ⟨1, hlj⟩ [] ⟨by rfl, by simp [], by simp [or_imp, forall_and, ] <;> (try (intro _hne; simp [_hne])), by decide⟩ ?_
            simp; omega
          | succ q =>
            obtain ⟨x, hx⟩ : ∃ x, Y[q]? = some x := ⟨_, List.getElem?_eq_getElem (by omega)⟩
            have hxy : x < y := by
              have := List.pairwise_iff_getElem.1 hasc q (q + 1) (by omega) hlj (by omega)
              rw [List.getElem?_eq_getElem (by omega)] at hx hy
              cases hx
              cases hy
              exact this
            have hxn : ¬ y ≤ x := by omega
            have w3 : IntKind.i64.wrap (q : Int) = (q : Int) := wrap64_in (by omega)
            have w5 : IntKind.i64.wrap ((q : Int) + 1 + 1) = (q : Int) + 1 + 1 := wrap64_in (by omega)
            have hq0 : (0 : Int) < (q : Int) + 1 := by omega
            have hqi : (q : Int) + 1 < Y.length := by omega
            have hqp : 0 ≤ (q : Int) + 1 := by omega
            have hqt : ((q : Int) + 1).toNat = q + 1 := by omega
            repeat (first | (with_reducible first | refine zq1 fun _ => ?_ | refine zq2 fun _ => ?_ | refine zq3 ?_) | ((first | refine zq4 ?_ | refine zq5 fun _ _ => ?_ | refine zq6 ?_); simp [-getElem?_pos, z0, z1, z2, hqi, hlj, hy, hx, y1n, y2n, hxn, w3, w5, hq0, hqp, hqt]) | ((first | refine AWp.ret ?_ | refine AWp.skip ?_ | refine AWp.exit ?_); try simp only [thenP]) | (with_reducible refine zq7 ?_; simp only [blockP, thenP, reduceIte]) | with_reducible refine zq8 ?_)
            refine LL.go ⟨q + 1 + 1, hlj⟩ [] ⟨by rfl, by simp [], by simp [or_imp, forall_and, ] <;> (try (intro _hne; simp [_hne])), by decide⟩ ?_
            simp; omega
        · obtain rfl : j = Y.length := by omega
          repeat (first | (with_reducible first | refine zq1 fun _ => ?_ | refine zq2 fun _ => ?_ | refine zq3 ?_) | ((first | refine zq4 ?_ | refine zq5 fun _ _ => ?_ | refine zq6 ?_); simp [-getElem?_pos, z0, z1, z2, z0]) | ((first | refine AWp.ret ?_ | refine AWp.skip ?_ | refine AWp.exit ?_); try simp only [thenP]) | (with_reducible refine zq7 ?_; simp only [blockP, thenP, reduceIte]) | with_reducible refine zq8 ?_)
          (first | refine Exec0.call [] cw ?_ rfl ?_ ?_ | refine Exec.call [] cw ?_ rfl ?_ ?_); (focus simp [-getElem?_pos, z0]); (focus simp [-getElem?_pos, z0, z1, z2, z0]); simp [-getElem?_pos, z0, z1, z2, z0]
          repeat (first | (with_reducible first | refine zq1 fun _ => ?_ | refine zq2 fun _ => ?_ | refine zq3 ?_) | ((first | refine zq4 ?_ | refine zq5 fun _ _ => ?_ | refine zq6 ?_); simp [-getElem?_pos, z0, z1, z2, z0]) | ((first | refine AWp.ret ?_ | refine AWp.skip ?_ | refine AWp.exit ?_); try simp only [thenP]) | (with_reducible refine zq7 ?_; simp only [blockP, thenP, reduceIte]) | with_reducible refine zq8 ?_)
          (first | refine RR.ret ?_ | refine RR.normal ?_); simp [z0]
end Go.Proofs.Ytcmkkgdjhjpldaa.Eng

namespace Go.Proofs.Ytcmkkgdjhjpldaa.honeSpared
open Go.ChangeShapes Go.WideShapes Go.ChangeAt Go.RowKit Go.Deep
theorem own : ownKnob Try.prog.godebug = none := by kernel_rfl
theorem kids : Kids Try.prog (· < Try.prog.types.size) := kids_rows (by kernel_rfl) (by kernel_rfl)
theorem full : ∀ t e, t < Try.prog.types.size → Try.prog.underlying t = some (.slice e) → 0 < Try.prog.cellsOf e := slices_full_of Try.prog (by kernel_rfl)
theorem rowed : ∀ t ∈ Try.f12.params.toList, t < Try.prog.types.size := of_decide_eq_true (by kernel_rfl)
set_option maxRecDepth 100000 in
set_option maxHeartbeats 1000000 in
theorem lifted (os : Os) (started : os.Started) (H : Type) (enc : TypeId × Value → H) :
    ReturnsInHanded {} Try.checked os 12 .any (Rows.honeSparedSpec.pre6 enc Try.prog Try.f12 Rows.honeSparedRow.domain false) (Rows.honeSparedSpec.post enc Try.prog Try.f12 false true false false) := by
  refine returnsInHanded_of_change (C := Try.checked) own started (by kernel_rfl) Try.func12
    (ChangeSpec.witness6 (enc := enc) (C := Try.checked) false ⟨#[], #[.slice none 0 0, .agg #[.int .i64 0, .int .i64 0], .agg #[.int .i64 0, .int .i64 0]], []⟩ 8 (by kernel_rfl) (by kernel_rfl) (by kernel_rfl) (by kernel_rfl)) ?_
  intro W base args ds gs before hval0 hW hcnd _
  have hval : ∀ (j : Nat) t v, Try.f12.params[j]? = some t → args[j]? = some v → Value.okWide Try.prog W .any base t v := hval0
  have hW' := hW
  obtain ⟨p, q, hA0, hV, rfl, hfz, hnd⟩ := hW
  have hA : DataW.TrodAll enc Try.prog W 0 (fun _ => true) true Try.f12.params.toList args.toList ds p := hA0
  have hAk := hA
  rw [Try.params12] at hA hval
  obtain ⟨v0, vs0, d0, ds0, a0, b0, e0, f0, rfl, h0, t0⟩ := trodAll_cons hA
  obtain ⟨v1, vs1, d1, ds1, a1, b1, e1, f1, rfl, h1, t1⟩ := trodAll_cons t0
  obtain ⟨v2, vs2, d2, ds2, a2, b2, e2, f2, rfl, h2, t2⟩ := trodAll_cons t1
  obtain ⟨en, fn, rfl⟩ := trodAll_nil t2
  subst en
  subst fn
  subst e2
  subst f2
  subst e1
  subst f1
  subst f0
  have ea : args = #[v0, v1, v2] := by rw [← Array.toList_inj]; exact e0
  subst ea
  clear e0
  obtain ⟨rfl, rfl⟩ := trodVars_none hV
  clear hA0 hval0 hA
  simp only [List.append_nil] at hW' hAk
  have o0 := hval 0 _ _ rfl rfl
  have o1 := hval 1 _ _ rfl rfl
  have o2 := hval 2 _ _ rfl rfl
  clear hval
  obtain ⟨D0, s0, r0⟩ := Eng.open_sh (n := 9) (.sl Eng.shStone) (by kernel_rfl) o0 h0
  obtain ⟨D1, s1, r1⟩ := Eng.open_sh (n := 9) (Eng.shEdge) (by kernel_rfl) o1 h1
  obtain ⟨D2, s2, r2⟩ := Eng.open_sh (n := 9) (Eng.shEdge) (by kernel_rfl) o2 h2
  obtain ⟨l, rfl⟩ := Eng.box_in s0
  obtain ⟨e, rfl⟩ := Eng.edge_in s1
  obtain ⟨g, rfl⟩ := Eng.edge_in s2
  refine Calls.mono (Eng.law_true (Eng.honeSpared_c l e g) rfl (Eng.reps_cons r0 (Eng.reps_cons r1 (Eng.reps_cons r2 Eng.reps_nil)))) fun e W' ⟨he, hb⟩ => ?_
  subst he
  exact ⟨_, rfl, post_later (pv := []) hW' (List.append_nil _).symm (fun _ _ _ => (trodAll_cons_mk (shut_bool Try.underlying4 _) trodAll_mk0))
    (fun sp hsp => Eng.args_later' kids full rowed hAk hb hsp) (fun _ _ => rfl) (ok_one (by kernel_rfl) rfl (okWide_bool_mk Try.underlying4 _)) hb⟩
theorem over : Rows.honeSparedRow.holds Try.pinned (OpenSpec.ofChange Rows.honeSparedSpec) :=
  OpenClaim.holds_of_wide 12 Try.f12 rfl rfl rfl rfl rfl rfl rfl ⟨rfl, rfl, rfl, rfl, rfl⟩ rfl rfl rfl rfl rfl (by kernel_rfl) Try.func12 (by kernel_rfl)
    (of_decide_eq_true (by kernel_rfl)) (by unfold Func.isWrapper; first | (rw [if_pos (by decide +kernel)]; kernel_rfl) | (rw [if_neg (by decide +kernel)]; exact ⟨rfl, rfl⟩))
    (fun os started H enc _ => lifted os started H enc)
theorem proved : Rows.HoneSparedSaid := over
end Go.Proofs.Ytcmkkgdjhjpldaa.honeSpared
