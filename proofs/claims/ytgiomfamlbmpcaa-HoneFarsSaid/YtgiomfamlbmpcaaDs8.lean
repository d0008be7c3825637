/-
  HoneFars returns true, for every box, edge, goal, number of strokes and row: the row of so many strokes, and the last row, are what the definitions say, or the error; so is whether a row proves that an edge cannot reach a goal. No condition.
-/
import Derived.Test.YtgiomfamlbmpcaaDs7
set_option linter.unusedSimpArgs false
set_option linter.unusedVariables false
noncomputable section
namespace Go.Proofs.Ytgiomfamlbmpcaa.Eng
open Go.RowKit
set_option maxRecDepth 100000
set_option maxHeartbeats 16000000
def bestD (needs : List Int) (strokes : Int) (k b : Nat) : Int := ((List.range k).filter fun i => decide (i % 7 = b)).foldl (fun a i => if 0 ≤ atL needs i ∧ (strokes < 0 ∨ atL needs i ≤ strokes) then max a ((i / 7 : Nat) : Int) else a) (-1)
theorem bestD_succ (needs : List Int) (strokes : Int) (k b : Nat) : bestD needs strokes (k + 1) b = if k % 7 = b then (if 0 ≤ atL needs k ∧ (strokes < 0 ∨ atL needs k ≤ strokes) then max (bestD needs strokes k b) ((k / 7 : Nat) : Int) else bestD needs strokes k b) else bestD needs strokes k b := by
  unfold bestD
  rw [List.range_succ, List.filter_append, List.foldl_append]
  by_cases h : k % 7 = b
  · simp [h]
  · simp [h]
theorem refRow_c (needs : List Int) (hl : needs.length = 707) (strokes : Int) : ACall Try.prog 60 [intL needs, iD strokes] (intL (tab (bestD needs strokes 707))) := by
  have hli : (needs.length : Int) = 707 := by omega
  refine acallK tabOk Try.func60 rfl rfl (show 2 ≤ _ by decide) rfl fun _ => ?_; simp only [Try.ntmps60]
  repeat (first | (with_reducible first | refine zq1 fun _ => ?_ | refine zq2 fun _ => ?_ | refine zq3 ?_) | ((first | refine zq4 ?_ | refine zq5 fun _ _ => ?_ | refine zq6 ?_); simp [-getElem?_pos, z0, z1, z2, hl, hli]) | ((first | refine AWp.ret ?_ | refine AWp.skip ?_ | refine AWp.exit ?_); try simp only [thenP]) | (with_reducible refine zq7 ?_; simp only [blockP, thenP, reduceIte]) | with_reducible refine zq8 ?_)
  refine AWp.loopK (ι := { k : Nat // k ≤ 707 }) (n := 1) (fun k => [(0, .d (intL needs)), (1, .d (iD strokes)), (5, .own 0 7 1), (6, .d (iD k.1))]) (fun k => [(0, .row 3 1 (iRows (tab (bestD needs strokes k.1))) false)]) (fun k => 707 - k.1) ⟨0, Nat.zero_le _⟩ [1] ?_ ?_
  · refine ⟨by rfl, by simp [tab7, bestD, iRows], by simp [or_imp, forall_and, tab7, bestD, iRows] <;> (try (intro _hne; simp [_hne])), by decide⟩
  rintro ⟨k, hk⟩ kk
  have w1 : IntKind.i64.wrap ((k : Int) + 1) = (k : Int) + 1 := wrap64_in (by omega)
  by_cases hlt : k < 707
  · have hii : (k : Int) < 707 := by omega
    obtain ⟨d, hd⟩ : ∃ d, d = k / 7 := ⟨_, rfl⟩
    obtain ⟨b, hbb⟩ : ∃ b, b = k % 7 := ⟨_, rfl⟩
    have q1 : (k : Int).tdiv 7 = (d : Int) := by rw [Int.tdiv_eq_ediv_of_nonneg (by omega)]; omega
    have q2 : (k : Int).tmod 7 = (b : Int) := by rw [Int.tmod_eq_emod_of_nonneg (by omega)]; omega
    have q3 : IntKind.i64.wrap (d : Int) = (d : Int) := wrap64_in (by omega)
    have hb7 : b < 7 := by omega
    have hb7i : (b : Int) < 7 := by omega
    have hkN : k < needs.length := by omega
    obtain ⟨x, hx⟩ : ∃ x, needs[k]? = some x := ⟨_, List.getElem?_eq_getElem hkN⟩
    have hax := atL_of hx
    have hs := fun i => bestD_succ needs strokes k i
    rw [hax, ← hd, ← hbb] at hs
    have hsame : ¬ (0 ≤ x ∧ (strokes < 0 ∨ x ≤ strokes)) → tab (bestD needs strokes (k + 1)) = tab (bestD needs strokes k) := fun h => tab_ext fun i _ => by rw [hs i, if_neg h]; simp
    have hy : (tab (bestD needs strokes k))[b]? = some (bestD needs strokes k b) := tab_get _ hb7
    have hnew : (0 ≤ x ∧ (strokes < 0 ∨ x ≤ strokes)) → (tab (bestD needs strokes k)).set b (max (bestD needs strokes k b) (d : Int)) = tab (bestD needs strokes (k + 1)) := fun h => by
      rw [tab_set _ hb7]
      refine tab_ext fun i _ => ?_
      rw [hs i, if_pos h]
      by_cases e : b = i
      · subst e; simp
      · rw [if_neg (Ne.symm e), if_neg e]
    generalize hyv : bestD needs strokes k b = y at *
    have mm : (if y < (d : Int) then (d : Int) else y) = max y (d : Int) := by split <;> omega
    by_cases g1 : 0 ≤ x
    · by_cases g2 : strokes < 0
      · have hn := hnew ⟨g1, .inl g2⟩
        repeat (first | (with_reducible first | refine zq1 fun _ => ?_ | refine zq2 fun _ => ?_ | refine zq3 ?_) | ((first | refine zq4 ?_ | refine zq5 fun _ _ => ?_ | refine zq6 ?_); simp [-getElem?_pos, z0, z1, z2, hii, hkN, hl, hli, hx, q1, q2, q3, w1, hb7, hb7i, hy, mm, g1, g2]) | ((first | refine AWp.ret ?_ | refine AWp.skip ?_ | refine AWp.exit ?_); try simp only [thenP]) | (with_reducible refine zq7 ?_; simp only [blockP, thenP, reduceIte]) | with_reducible refine zq8 ?_)
        refine LL.go ⟨k + 1, hlt⟩ [0] ⟨by rfl, by simp [hn], by simp [or_imp, forall_and, hn] <;> (try (intro _hne; simp [_hne])), by decide⟩ ?_
        simp; omega
      · by_cases g3 : x ≤ strokes
        · have hn := hnew ⟨g1, .inr g3⟩
          repeat (first | (with_reducible first | refine zq1 fun _ => ?_ | refine zq2 fun _ => ?_ | refine zq3 ?_) | ((first | refine zq4 ?_ | refine zq5 fun _ _ => ?_ | refine zq6 ?_); simp [-getElem?_pos, z0, z1, z2, hii, hkN, hl, hli, hx, q1, q2, q3, w1, hb7, hb7i, hy, mm, g1, g2, g3]) | ((first | refine AWp.ret ?_ | refine AWp.skip ?_ | refine AWp.exit ?_); try simp only [thenP]) | (with_reducible refine zq7 ?_; simp only [blockP, thenP, reduceIte]) | with_reducible refine zq8 ?_)
          refine LL.go ⟨k + 1, hlt⟩ [0] ⟨by rfl, by simp [hn], by simp [or_imp, forall_and, hn] <;> (try (intro _hne; simp [_hne])), by decide⟩ ?_
          simp; omega
        · have hn := hsame (by omega)
          repeat (first | (with_reducible first | refine zq1 fun _ => ?_ | refine zq2 fun _ => ?_ | refine zq3 ?_) | ((first | refine zq4 ?_ | refine zq5 fun _ _ => ?_ | refine zq6 ?_); simp [-getElem?_pos, z0, z1, z2, hii, hkN, hl, hli, hx, q1, q2, q3, w1, g1, g2, g3]) | ((first | refine AWp.ret ?_ | refine AWp.skip ?_ | refine AWp.exit ?_); try simp only [thenP]) | (with_reducible refine zq7 ?_; simp only [blockP, thenP, reduceIte]) | with_reducible refine zq8 ?_)
          refine LL.go ⟨k + 1, hlt⟩ [0] ⟨by rfl, by simp [hn], by simp [or_imp, forall_and, hn] <;> (try (intro _hne; simp [_hne])), by decide⟩ ?_
          simp; omega
    · have hn := hsame (by omega)
      repeat (first | (with_reducible first | refine zq1 fun _ => ?_ | refine zq2 fun _ => ?_ | refine zq3 ?_) | ((first | refine zq4 ?_ | refine zq5 fun _ _ => ?_ | refine zq6 ?_); simp [-getElem?_pos, z0, z1, z2, hii, hkN, hl, hli, hx, q1, q2, q3, w1, g1]) | ((first | refine AWp.ret ?_ | refine AWp.skip ?_ | refine AWp.exit ?_); try simp only [thenP]) | (with_reducible refine zq7 ?_; simp only [blockP, thenP, reduceIte]) | with_reducible refine zq8 ?_)
      refine LL.go ⟨k + 1, hlt⟩ [0] ⟨by rfl, by simp [hn], by simp [or_imp, forall_and, hn] <;> (try (intro _hne; simp [_hne])), by decide⟩ ?_
      simp; omega
  · obtain rfl : k = 707 := by omega
    repeat (first | (with_reducible first | refine zq1 fun _ => ?_ | refine zq2 fun _ => ?_ | refine zq3 ?_) | ((first | refine zq4 ?_ | refine zq5 fun _ _ => ?_ | refine zq6 ?_); simp [-getElem?_pos, z0, z1, z2, hl, hli]) | ((first | refine AWp.ret ?_ | refine AWp.skip ?_ | refine AWp.exit ?_); try simp only [thenP]) | (with_reducible refine zq7 ?_; simp only [blockP, thenP, reduceIte]) | with_reducible refine zq8 ?_)
    (first | refine RR.ret ?_ | refine RR.normal ?_); simp [z0]
theorem bestD_ge (needs : List Int) (s : Int) (b : Nat) {d : Int} (hd : 0 ≤ d) : ∀ K, d ≤ bestD needs s K b ↔ ∃ i, i < K ∧ i % 7 = b ∧ (0 ≤ atL needs i ∧ (s < 0 ∨ atL needs i ≤ s)) ∧ d ≤ ((i / 7 : Nat) : Int)
  | 0 => by
    constructor
    · intro h
      have : bestD needs s 0 b = -1 := rfl
      omega
    · rintro ⟨i, hi, -⟩; omega
  | K + 1 => by
    have ih := bestD_ge needs s b hd K
    rw [bestD_succ]
    constructor
    · intro h
      by_cases h1 : K % 7 = b
      · rw [if_pos h1] at h
        by_cases h2 : 0 ≤ atL needs K ∧ (s < 0 ∨ atL needs K ≤ s)
        · rw [if_pos h2] at h
          by_cases h3 : d ≤ bestD needs s K b
          · obtain ⟨i, hi, hr⟩ := ih.1 h3
            exact ⟨i, by omega, hr⟩
          · exact ⟨K, by omega, h1, h2, by omega⟩
        · rw [if_neg h2] at h
          obtain ⟨i, hi, hr⟩ := ih.1 h
          exact ⟨i, by omega, hr⟩
      · rw [if_neg h1] at h
        obtain ⟨i, hi, hr⟩ := ih.1 h
        exact ⟨i, by omega, hr⟩
    · rintro ⟨i, hi, h1, h2, h3⟩
      by_cases e : i = K
      · subst e
        rw [if_pos h1, if_pos h2]
        omega
      · have := ih.2 ⟨i, by omega, h1, h2, h3⟩
        split
        · split <;> omega
        · exact this
theorem bestD_lo (needs : List Int) (s : Int) (b : Nat) : ∀ K, -1 ≤ bestD needs s K b
  | 0 => Int.le_refl _
  | K + 1 => by
    have := bestD_lo needs s b K
    rw [bestD_succ]
    split
    · split <;> omega
    · exact this
def needsL (l : List HS) (g : HE) : List Int := (List.range 707).map (needV l g)
@[simp] theorem needsL_len (l : List HS) (g : HE) : (needsL l g).length = 707 := by simp [needsL]
theorem needsL_at (l : List HS) (g : HE) {i : Nat} (hi : i < 707) : atL (needsL l g) i = needV l g i := by
  rw [atL, List.getD_eq_getElem?_getD, needsL]
  simp [hi]
theorem need_has {l : List HS} (hl : l.all okS = true) {g e : HE} (gg : GoodE g) (ge : GoodE e) {k : Nat} : hasE e (RK l g k) = true ↔ ∃ j, needN l g e = some j ∧ j ≤ k := by
  constructor
  · intro h
    cases hn : needN l g e with
    | none => rw [(need_none hl gg ge).1 hn k] at h; cases h
    | some j =>
      refine ⟨j, rfl, Nat.not_lt.1 fun hlt => ?_⟩
      rw [((need_some hl gg ge).1 hn).2 k hlt] at h
      cases h
  · rintro ⟨j, hn, hj⟩
    exact has_mono hj ((need_some hl gg ge).1 hn).1
theorem row_eq {l : List HS} (hl : l.all okS = true) {g : HE} (gg : GoodE g) {s : Int} {k : Nat} (hs : ∀ x : Int, 0 ≤ x → x ≤ 800 → ((s < 0 ∨ x ≤ s) ↔ x ≤ k)) : tab (bestD (needsL l g) s 707) = rowL (RK l g k) := by
  rw [rowL]
  refine tab_ext fun b hb => ?_
  have ho := RK_ok hl gg k b hb
  have hlo := bestD_lo (needsL l g) s b 707
  have key : ∀ d : Int, 0 ≤ d → (d ≤ bestD (needsL l g) s 707 b ↔ d ≤ RK l g k b - 1) := by
    intro d hd
    rw [bestD_ge _ _ _ hd]
    constructor
    · rintro ⟨i, hi, h1, h2, h3⟩
      rw [needsL_at l g hi, needV] at h2
      cases hn : needN l g (ixE i) with
      | none => rw [hn] at h2; simp at h2
      | some j =>
        rw [hn] at h2
        simp only at h2
        have hj := (rows_take hn).2
        have hk := (hs (j : Int) (by omega) (by omega)).1 h2.2
        have := (need_has hl gg (ixE_good hi)).2 ⟨j, hn, (by omega : j ≤ k)⟩
        simp only [hasE, ixE, decide_eq_true_eq, Int.toNat_natCast, h1] at this
        omega
    · intro h
      obtain ⟨D, rfl⟩ := Int.eq_ofNat_of_zero_le hd
      have hi : 7 * D + b < 707 := by omega
      have hix : ixE (7 * D + b) = ⟨(D : Int), (b : Int)⟩ := by rw [ixE, show (7 * D + b) / 7 = D by omega, show (7 * D + b) % 7 = b by omega]
      obtain ⟨j, hn, hj⟩ := (need_has hl gg (ixE_good hi)).1 (show hasE (ixE (7 * D + b)) (RK l g k) = true by
        rw [hix]
        simp only [hasE, Int.toNat_natCast, decide_eq_true_eq]
        omega)
      have hj8 := (rows_take hn).2
      refine ⟨7 * D + b, hi, by omega, ?_, by omega⟩
      rw [needsL_at l g hi, needV, hn]
      exact ⟨by simp only; omega, (hs (j : Int) (by omega) (by omega)).2 (by omega)⟩
  by_cases h1 : 0 ≤ bestD (needsL l g) s 707 b
  · have := (key _ h1).1 (Int.le_refl _)
    have := (key (RK l g k b - 1) (by omega)).2 (Int.le_refl _)
    omega
  · by_cases h2 : 0 ≤ RK l g k b - 1
    · have := (key _ h2).2 (Int.le_refl _)
      omega
    · omega
theorem chk_dup (l : List HS) (g : HE) : chkErr l [g, g] = chkErr l [g] := by
  unfold chkErr
  simp
theorem refFar_c (l : List HS) (g : HE) (k : Int) : ACall Try.prog 31 [boxD l, edgD g, iD k] (.tup [intL (farO l g k), iD (farE l g k)]) := by
  have ca := refAsked_c l g g
  by_cases h0 : chkErr l [g, g] = 0
  · obtain ⟨hb, hes⟩ := chkOk h0
    have gg := goodE (e := g) (by simp at hes; exact hes)
    rw [h0] at ca
    have h1 : chkErr l [g] = 0 := by rw [← chk_dup]; exact h0
    by_cases hk : 0 ≤ k ∧ k ≤ 800
    · obtain ⟨K, rfl⟩ := Int.eq_ofNat_of_zero_le hk.1
      obtain ⟨f1, f2, -⟩ := far_of h0 (k := K) (by omega)
      have cn := refNeeds_c l hb g gg h0
      have cr := refRow_c (needsL l g) (by simp) (K : Int)
      rw [row_eq hb.all gg (k := K) (by intro x h1 h2; omega), ← f2] at cr
      rw [show (List.range 707).map (needV l g) = needsL l g from rfl] at cn
      rw [f1]
      have k1 : ¬ (K : Int) < 0 := by omega
      have k2 : ¬ (800 : Int) < K := by omega
      have k2n : ¬ 800 < K := by omega
      refine acallK tabOk Try.func31 rfl rfl (show 3 ≤ _ by decide) rfl fun _ => ?_; simp only [Try.ntmps31]
      repeat (first | (with_reducible first | refine zq1 fun _ => ?_ | refine zq2 fun _ => ?_ | refine zq3 ?_) | ((first | refine zq4 ?_ | refine zq5 fun _ _ => ?_ | refine zq6 ?_); simp [-getElem?_pos, z0, z1, z2, z0]) | ((first | refine AWp.ret ?_ | refine AWp.skip ?_ | refine AWp.exit ?_); try simp only [thenP]) | (with_reducible refine zq7 ?_; simp only [blockP, thenP, reduceIte]) | with_reducible refine zq8 ?_)
      (first | refine Exec0.call [] ca ?_ rfl ?_ ?_ | refine Exec.call [] ca ?_ rfl ?_ ?_); (focus simp [-getElem?_pos, z0]); (focus simp [-getElem?_pos, z0, z1, z2, z0]); simp [-getElem?_pos, z0, z1, z2, z0]
      repeat (first | (with_reducible first | refine zq1 fun _ => ?_ | refine zq2 fun _ => ?_ | refine zq3 ?_) | ((first | refine zq4 ?_ | refine zq5 fun _ _ => ?_ | refine zq6 ?_); simp [-getElem?_pos, z0, z1, z2, k1, k2, k2n]) | ((first | refine AWp.ret ?_ | refine AWp.skip ?_ | refine AWp.exit ?_); try simp only [thenP]) | (with_reducible refine zq7 ?_; simp only [blockP, thenP, reduceIte]) | with_reducible refine zq8 ?_)
      (first | refine Exec0.call [] cn ?_ rfl ?_ ?_ | refine Exec.call [] cn ?_ rfl ?_ ?_); (focus simp [-getElem?_pos, z0]); (focus simp [-getElem?_pos, z0, z1, z2, z0]); simp [-getElem?_pos, z0, z1, z2, z0]
      repeat (first | (with_reducible first | refine zq1 fun _ => ?_ | refine zq2 fun _ => ?_ | refine zq3 ?_) | ((first | refine zq4 ?_ | refine zq5 fun _ _ => ?_ | refine zq6 ?_); simp [-getElem?_pos, z0, z1, z2, z0]) | ((first | refine AWp.ret ?_ | refine AWp.skip ?_ | refine AWp.exit ?_); try simp only [thenP]) | (with_reducible refine zq7 ?_; simp only [blockP, thenP, reduceIte]) | with_reducible refine zq8 ?_)
      (first | refine Exec0.call [] cr ?_ rfl ?_ ?_ | refine Exec.call [] cr ?_ rfl ?_ ?_); (focus simp [-getElem?_pos, z0]); (focus simp [-getElem?_pos, z0, z1, z2, z0]); simp [-getElem?_pos, z0, z1, z2, z0]
      repeat (first | (with_reducible first | refine zq1 fun _ => ?_ | refine zq2 fun _ => ?_ | refine zq3 ?_) | ((first | refine zq4 ?_ | refine zq5 fun _ _ => ?_ | refine zq6 ?_); simp [-getElem?_pos, z0, z1, z2, z0]) | ((first | refine AWp.ret ?_ | refine AWp.skip ?_ | refine AWp.exit ?_); try simp only [thenP]) | (with_reducible refine zq7 ?_; simp only [blockP, thenP, reduceIte]) | with_reducible refine zq8 ?_)
      (first | refine RR.ret ?_ | refine RR.normal ?_); simp [z0]
    · have hf : fromK 0 800 [k] = false := by
        simp only [fromK, List.all_cons, List.all_nil, Bool.and_true, inK]
        exact decide_eq_false hk
      have hE : farE l g k = 3 := by rw [farE, if_pos h1, if_pos hf]
      have hO : farO l g k = [] := by rw [farO, if_neg (by omega)]
      rw [hE, hO]
      by_cases k1 : k < 0
      · refine acallK tabOk Try.func31 rfl rfl (show 3 ≤ _ by decide) rfl fun _ => ?_; simp only [Try.ntmps31]
        repeat (first | (with_reducible first | refine zq1 fun _ => ?_ | refine zq2 fun _ => ?_ | refine zq3 ?_) | ((first | refine zq4 ?_ | refine zq5 fun _ _ => ?_ | refine zq6 ?_); simp [-getElem?_pos, z0, z1, z2, z0]) | ((first | refine AWp.ret ?_ | refine AWp.skip ?_ | refine AWp.exit ?_); try simp only [thenP]) | (with_reducible refine zq7 ?_; simp only [blockP, thenP, reduceIte]) | with_reducible refine zq8 ?_)
        (first | refine Exec0.call [] ca ?_ rfl ?_ ?_ | refine Exec.call [] ca ?_ rfl ?_ ?_); (focus simp [-getElem?_pos, z0]); (focus simp [-getElem?_pos, z0, z1, z2, z0]); simp [-getElem?_pos, z0, z1, z2, z0]
        repeat (first | (with_reducible first | refine zq1 fun _ => ?_ | refine zq2 fun _ => ?_ | refine zq3 ?_) | ((first | refine zq4 ?_ | refine zq5 fun _ _ => ?_ | refine zq6 ?_); simp [-getElem?_pos, z0, z1, z2, k1]) | ((first | refine AWp.ret ?_ | refine AWp.skip ?_ | refine AWp.exit ?_); try simp only [thenP]) | (with_reducible refine zq7 ?_; simp only [blockP, thenP, reduceIte]) | with_reducible refine zq8 ?_)
        (first | refine RR.ret ?_ | refine RR.normal ?_); simp [z0]
      · have k2 : (800 : Int) < k := by omega
        refine acallK tabOk Try.func31 rfl rfl (show 3 ≤ _ by decide) rfl fun _ => ?_; simp only [Try.ntmps31]
        repeat (first | (with_reducible first | refine zq1 fun _ => ?_ | refine zq2 fun _ => ?_ | refine zq3 ?_) | ((first | refine zq4 ?_ | refine zq5 fun _ _ => ?_ | refine zq6 ?_); simp [-getElem?_pos, z0, z1, z2, z0]) | ((first | refine AWp.ret ?_ | refine AWp.skip ?_ | refine AWp.exit ?_); try simp only [thenP]) | (with_reducible refine zq7 ?_; simp only [blockP, thenP, reduceIte]) | with_reducible refine zq8 ?_)
        (first | refine Exec0.call [] ca ?_ rfl ?_ ?_ | refine Exec.call [] ca ?_ rfl ?_ ?_); (focus simp [-getElem?_pos, z0]); (focus simp [-getElem?_pos, z0, z1, z2, z0]); simp [-getElem?_pos, z0, z1, z2, z0]
        repeat (first | (with_reducible first | refine zq1 fun _ => ?_ | refine zq2 fun _ => ?_ | refine zq3 ?_) | ((first | refine zq4 ?_ | refine zq5 fun _ _ => ?_ | refine zq6 ?_); simp [-getElem?_pos, z0, z1, z2, k1, k2]) | ((first | refine AWp.ret ?_ | refine AWp.skip ?_ | refine AWp.exit ?_); try simp only [thenP]) | (with_reducible refine zq7 ?_; simp only [blockP, thenP, reduceIte]) | with_reducible refine zq8 ?_)
        (first | refine RR.ret ?_ | refine RR.normal ?_); simp [z0]
  · have h1 : ¬ chkErr l [g] = 0 := by rw [← chk_dup]; exact h0
    have hE : farE l g k = chkErr l [g, g] := by rw [farE, if_neg h1, chk_dup]
    have hO : farO l g k = [] := by rw [farO, hE, if_neg h0]
    rw [hE, hO]
    refine acallK tabOk Try.func31 rfl rfl (show 3 ≤ _ by decide) rfl fun _ => ?_; simp only [Try.ntmps31]
    repeat (first | (with_reducible first | refine zq1 fun _ => ?_ | refine zq2 fun _ => ?_ | refine zq3 ?_) | ((first | refine zq4 ?_ | refine zq5 fun _ _ => ?_ | refine zq6 ?_); simp [-getElem?_pos, z0, z1, z2, z0]) | ((first | refine AWp.ret ?_ | refine AWp.skip ?_ | refine AWp.exit ?_); try simp only [thenP]) | (with_reducible refine zq7 ?_; simp only [blockP, thenP, reduceIte]) | with_reducible refine zq8 ?_)
    (first | refine Exec0.call [] ca ?_ rfl ?_ ?_ | refine Exec.call [] ca ?_ rfl ?_ ?_); (focus simp [-getElem?_pos, h0]); (focus simp [-getElem?_pos, z0, z1, z2, h0]); simp [-getElem?_pos, z0, z1, z2, h0]
    repeat (first | (with_reducible first | refine zq1 fun _ => ?_ | refine zq2 fun _ => ?_ | refine zq3 ?_) | ((first | refine zq4 ?_ | refine zq5 fun _ _ => ?_ | refine zq6 ?_); simp [-getElem?_pos, z0, z1, z2, h0]) | ((first | refine AWp.ret ?_ | refine AWp.skip ?_ | refine AWp.exit ?_); try simp only [thenP]) | (with_reducible refine zq7 ?_; simp only [blockP, thenP, reduceIte]) | with_reducible refine zq8 ?_)
    (first | refine Exec0.call [] ca ?_ rfl ?_ ?_ | refine Exec.call [] ca ?_ rfl ?_ ?_); (focus simp [-getElem?_pos, h0]); (focus simp [-getElem?_pos, z0, z1, z2, h0]); simp [-getElem?_pos, z0, z1, z2, h0]
    repeat (first | (with_reducible first | refine zq1 fun _ => ?_ | refine zq2 fun _ => ?_ | refine zq3 ?_) | ((first | refine zq4 ?_ | refine zq5 fun _ _ => ?_ | refine zq6 ?_); simp [-getElem?_pos, z0, z1, z2, h0]) | ((first | refine AWp.ret ?_ | refine AWp.skip ?_ | refine AWp.exit ?_); try simp only [thenP]) | (with_reducible refine zq7 ?_; simp only [blockP, thenP, reduceIte]) | with_reducible refine zq8 ?_)
    (first | refine RR.ret ?_ | refine RR.normal ?_); simp [z0]
theorem refLast_c (l : List HS) (g : HE) : ACall Try.prog 33 [boxD l, edgD g] (.tup [intL (farO l g 800), iD (farE l g 800)]) := by
  have ca := refAsked_c l g g
  by_cases h0 : chkErr l [g, g] = 0
  · obtain ⟨hb, hes⟩ := chkOk h0
    have gg := goodE (e := g) (by simp at hes; exact hes)
    rw [h0] at ca
    obtain ⟨f1, f2, -⟩ := far_of h0 (k := 800) (by omega)
    have cn := refNeeds_c l hb g gg h0
    have cr := refRow_c (needsL l g) (by simp) (-1)
    rw [row_eq hb.all gg (k := 800) (by intro x h1 h2; omega), ← f2] at cr
    rw [show (List.range 707).map (needV l g) = needsL l g from rfl] at cn
    rw [show farE l g 800 = 0 from f1]
    refine acallK tabOk Try.func33 rfl rfl (show 2 ≤ _ by decide) rfl fun _ => ?_; simp only [Try.ntmps33]
    repeat (first | (with_reducible first | refine zq1 fun _ => ?_ | refine zq2 fun _ => ?_ | refine zq3 ?_) | ((first | refine zq4 ?_ | refine zq5 fun _ _ => ?_ | refine zq6 ?_); simp [-getElem?_pos, z0, z1, z2, z0]) | ((first | refine AWp.ret ?_ | refine AWp.skip ?_ | refine AWp.exit ?_); try simp only [thenP]) | (with_reducible refine zq7 ?_; simp only [blockP, thenP, reduceIte]) | with_reducible refine zq8 ?_)
    (first | refine Exec0.call [] ca ?_ rfl ?_ ?_ | refine Exec.call [] ca ?_ rfl ?_ ?_); (focus simp [-getElem?_pos, z0]); (focus simp [-getElem?_pos, z0, z1, z2, z0]); simp [-getElem?_pos, z0, z1, z2, z0]
    repeat (first | (with_reducible first | refine zq1 fun _ => ?_ | refine zq2 fun _ => ?_ | refine zq3 ?_) | ((first | refine zq4 ?_ | refine zq5 fun _ _ => ?_ | refine zq6 ?_); simp [-getElem?_pos, z0, z1, z2, z0]) | ((first | refine AWp.ret ?_ | refine AWp.skip ?_ | refine AWp.exit ?_); try simp only [thenP]) | (with_reducible refine zq7 ?_; simp only [blockP, thenP, reduceIte]) | with_reducible refine zq8 ?_)
    (first | refine Exec0.call [] cn ?_ rfl ?_ ?_ | refine Exec.call [] cn ?_ rfl ?_ ?_); (focus simp [-getElem?_pos, z0]); (focus simp [-getElem?_pos, z0, z1, z2, z0]); simp [-getElem?_pos, z0, z1, z2, z0]
    repeat (first | (with_reducible first | refine zq1 fun _ => ?_ | refine zq2 fun _ => ?_ | refine zq3 ?_) | ((first | refine zq4 ?_ | refine zq5 fun _ _ => ?_ | refine zq6 ?_); simp [-getElem?_pos, z0, z1, z2, z0]) | ((first | refine AWp.ret ?_ | refine AWp.skip ?_ | refine AWp.exit ?_); try simp only [thenP]) | (with_reducible refine zq7 ?_; simp only [blockP, thenP, reduceIte]) | with_reducible refine zq8 ?_)
    (first | refine Exec0.call [] cr ?_ rfl ?_ ?_ | refine Exec.call [] cr ?_ rfl ?_ ?_); (focus simp [-getElem?_pos, z0]); (focus simp [-getElem?_pos, z0, z1, z2, z0]); simp [-getElem?_pos, z0, z1, z2, z0]
    repeat (first | (with_reducible first | refine zq1 fun _ => ?_ | refine zq2 fun _ => ?_ | refine zq3 ?_) | ((first | refine zq4 ?_ | refine zq5 fun _ _ => ?_ | refine zq6 ?_); simp [-getElem?_pos, z0, z1, z2, z0]) | ((first | refine AWp.ret ?_ | refine AWp.skip ?_ | refine AWp.exit ?_); try simp only [thenP]) | (with_reducible refine zq7 ?_; simp only [blockP, thenP, reduceIte]) | with_reducible refine zq8 ?_)
    (first | refine RR.ret ?_ | refine RR.normal ?_); simp [z0]
  · have h1 : ¬ chkErr l [g] = 0 := by rw [← chk_dup]; exact h0
    have hE : farE l g 800 = chkErr l [g, g] := by rw [farE, if_neg h1, chk_dup]
    have hO : farO l g 800 = [] := by rw [farO, hE, if_neg h0]
    rw [hE, hO]
    refine acallK tabOk Try.func33 rfl rfl (show 2 ≤ _ by decide) rfl fun _ => ?_; simp only [Try.ntmps33]
    repeat (first | (with_reducible first | refine zq1 fun _ => ?_ | refine zq2 fun _ => ?_ | refine zq3 ?_) | ((first | refine zq4 ?_ | refine zq5 fun _ _ => ?_ | refine zq6 ?_); simp [-getElem?_pos, z0, z1, z2, z0]) | ((first | refine AWp.ret ?_ | refine AWp.skip ?_ | refine AWp.exit ?_); try simp only [thenP]) | (with_reducible refine zq7 ?_; simp only [blockP, thenP, reduceIte]) | with_reducible refine zq8 ?_)
    (first | refine Exec0.call [] ca ?_ rfl ?_ ?_ | refine Exec.call [] ca ?_ rfl ?_ ?_); (focus simp [-getElem?_pos, h0]); (focus simp [-getElem?_pos, z0, z1, z2, h0]); simp [-getElem?_pos, z0, z1, z2, h0]
    repeat (first | (with_reducible first | refine zq1 fun _ => ?_ | refine zq2 fun _ => ?_ | refine zq3 ?_) | ((first | refine zq4 ?_ | refine zq5 fun _ _ => ?_ | refine zq6 ?_); simp [-getElem?_pos, z0, z1, z2, h0]) | ((first | refine AWp.ret ?_ | refine AWp.skip ?_ | refine AWp.exit ?_); try simp only [thenP]) | (with_reducible refine zq7 ?_; simp only [blockP, thenP, reduceIte]) | with_reducible refine zq8 ?_)
    (first | refine Exec0.call [] ca ?_ rfl ?_ ?_ | refine Exec.call [] ca ?_ rfl ?_ ?_); (focus simp [-getElem?_pos, h0]); (focus simp [-getElem?_pos, z0, z1, z2, h0]); simp [-getElem?_pos, z0, z1, z2, h0]
    repeat (first | (with_reducible first | refine zq1 fun _ => ?_ | refine zq2 fun _ => ?_ | refine zq3 ?_) | ((first | refine zq4 ?_ | refine zq5 fun _ _ => ?_ | refine zq6 ?_); simp [-getElem?_pos, z0, z1, z2, h0]) | ((first | refine AWp.ret ?_ | refine AWp.skip ?_ | refine AWp.exit ?_); try simp only [thenP]) | (with_reducible refine zq7 ?_; simp only [blockP, thenP, reduceIte]) | with_reducible refine zq8 ?_)
    (first | refine RR.ret ?_ | refine RR.normal ?_); simp [z0]
theorem farO_len (l : List HS) (g : HE) (k : Int) : (farO l g k).length ≤ 1000000 := by
  rw [farO]
  split <;> simp
theorem honeFars_c (l : List HS) (e g : HE) (k : Int) (row : List Int) : ACall Try.prog 6 [boxD l, edgD e, edgD g, iD k, intL row] (bD true) := by
  have cG := great_c l
  have cw := works_call
  by_cases g1 : 10 < l.length
  · rw [decide_eq_true g1] at cG
    refine acallK tabOk Try.func6 rfl rfl (show 5 ≤ _ by decide) rfl fun _ => ?_; simp only [Try.ntmps6]
    repeat (first | (with_reducible first | refine zq1 fun _ => ?_ | refine zq2 fun _ => ?_ | refine zq3 ?_) | ((first | refine zq4 ?_ | refine zq5 fun _ _ => ?_ | refine zq6 ?_); simp [-getElem?_pos, z0, z1, z2, z0]) | ((first | refine AWp.ret ?_ | refine AWp.skip ?_ | refine AWp.exit ?_); try simp only [thenP]) | (with_reducible refine zq7 ?_; simp only [blockP, thenP, reduceIte]) | with_reducible refine zq8 ?_)
    (first | refine Exec0.call [] cG ?_ rfl ?_ ?_ | refine Exec.call [] cG ?_ rfl ?_ ?_); (focus simp [-getElem?_pos, z0]); (focus simp [-getElem?_pos, z0, z1, z2, z0]); simp [-getElem?_pos, z0, z1, z2, z0]
    repeat (first | (with_reducible first | refine zq1 fun _ => ?_ | refine zq2 fun _ => ?_ | refine zq3 ?_) | ((first | refine zq4 ?_ | refine zq5 fun _ _ => ?_ | refine zq6 ?_); simp [-getElem?_pos, z0, z1, z2, z0]) | ((first | refine AWp.ret ?_ | refine AWp.skip ?_ | refine AWp.exit ?_); try simp only [thenP]) | (with_reducible refine zq7 ?_; simp only [blockP, thenP, reduceIte]) | with_reducible refine zq8 ?_)
    (first | refine Exec0.call [] cw ?_ rfl ?_ ?_ | refine Exec.call [] cw ?_ rfl ?_ ?_); (focus simp [-getElem?_pos, z0]); (focus simp [-getElem?_pos, z0, z1, z2, z0]); simp [-getElem?_pos, z0, z1, z2, z0]
    repeat (first | (with_reducible first | refine zq1 fun _ => ?_ | refine zq2 fun _ => ?_ | refine zq3 ?_) | ((first | refine zq4 ?_ | refine zq5 fun _ _ => ?_ | refine zq6 ?_); simp [-getElem?_pos, z0, z1, z2, z0]) | ((first | refine AWp.ret ?_ | refine AWp.skip ?_ | refine AWp.exit ?_); try simp only [thenP]) | (with_reducible refine zq7 ?_; simp only [blockP, thenP, reduceIte]) | with_reducible refine zq8 ?_)
    (first | refine RR.ret ?_ | refine RR.normal ?_); simp [z0]
  rw [decide_eq_false g1] at cG
  by_cases g2 : 10 < row.length
  · have g2i : (10 : Int) < row.length := by omega
    refine acallK tabOk Try.func6 rfl rfl (show 5 ≤ _ by decide) rfl fun _ => ?_; simp only [Try.ntmps6]
    repeat (first | (with_reducible first | refine zq1 fun _ => ?_ | refine zq2 fun _ => ?_ | refine zq3 ?_) | ((first | refine zq4 ?_ | refine zq5 fun _ _ => ?_ | refine zq6 ?_); simp [-getElem?_pos, z0, z1, z2, z0]) | ((first | refine AWp.ret ?_ | refine AWp.skip ?_ | refine AWp.exit ?_); try simp only [thenP]) | (with_reducible refine zq7 ?_; simp only [blockP, thenP, reduceIte]) | with_reducible refine zq8 ?_)
    (first | refine Exec0.call [] cG ?_ rfl ?_ ?_ | refine Exec.call [] cG ?_ rfl ?_ ?_); (focus simp [-getElem?_pos, g2, g2i]); (focus simp [-getElem?_pos, z0, z1, z2, g2, g2i]); simp [-getElem?_pos, z0, z1, z2, g2, g2i]
    repeat (first | (with_reducible first | refine zq1 fun _ => ?_ | refine zq2 fun _ => ?_ | refine zq3 ?_) | ((first | refine zq4 ?_ | refine zq5 fun _ _ => ?_ | refine zq6 ?_); simp [-getElem?_pos, z0, z1, z2, g2, g2i]) | ((first | refine AWp.ret ?_ | refine AWp.skip ?_ | refine AWp.exit ?_); try simp only [thenP]) | (with_reducible refine zq7 ?_; simp only [blockP, thenP, reduceIte]) | with_reducible refine zq8 ?_)
    (first | refine Exec0.call [] cw ?_ rfl ?_ ?_ | refine Exec.call [] cw ?_ rfl ?_ ?_); (focus simp [-getElem?_pos, z0]); (focus simp [-getElem?_pos, z0, z1, z2, z0]); simp [-getElem?_pos, z0, z1, z2, z0]
    repeat (first | (with_reducible first | refine zq1 fun _ => ?_ | refine zq2 fun _ => ?_ | refine zq3 ?_) | ((first | refine zq4 ?_ | refine zq5 fun _ _ => ?_ | refine zq6 ?_); simp [-getElem?_pos, z0, z1, z2, z0]) | ((first | refine AWp.ret ?_ | refine AWp.skip ?_ | refine AWp.exit ?_); try simp only [thenP]) | (with_reducible refine zq7 ?_; simp only [blockP, thenP, reduceIte]) | with_reducible refine zq8 ?_)
    (first | refine RR.ret ?_ | refine RR.normal ?_); simp [z0]
  have g2i : ¬ (10 : Int) < row.length := by omega
  have c1 := far_c l g k
  have c2 := refFar_c l g k
  have c3 := last_c l g
  have c4 := refLast_c l g
  have i1 := ints_c (farO l g k) (farO l g k) (farO_len l g k) (farO_len l g k)
  have i2 := ints_c (farO l g 800) (farO l g 800) (farO_len l g 800) (farO_len l g 800)
  rw [decide_eq_true rfl] at i1 i2
  have c5 := checkNever_c l e g row (by omega)
  have c6 := refCheckNever_c l e g row (by omega)
  rw [← never_eq] at c6
  generalize farO l g k = A at *
  generalize farO l g 800 = B at *
  generalize farE l g k = a at *
  generalize farE l g 800 = b at *
  generalize chkNever l e g row = n at *
  refine acallK tabOk Try.func6 rfl rfl (show 5 ≤ _ by decide) rfl fun _ => ?_; simp only [Try.ntmps6]
  repeat (first | (with_reducible first | refine zq1 fun _ => ?_ | refine zq2 fun _ => ?_ | refine zq3 ?_) | ((first | refine zq4 ?_ | refine zq5 fun _ _ => ?_ | refine zq6 ?_); simp [-getElem?_pos, z0, z1, z2, z0]) | ((first | refine AWp.ret ?_ | refine AWp.skip ?_ | refine AWp.exit ?_); try simp only [thenP]) | (with_reducible refine zq7 ?_; simp only [blockP, thenP, reduceIte]) | with_reducible refine zq8 ?_)
  (first | refine Exec0.call [] cG ?_ rfl ?_ ?_ | refine Exec.call [] cG ?_ rfl ?_ ?_); (focus simp [-getElem?_pos, g2, g2i]); (focus simp [-getElem?_pos, z0, z1, z2, g2, g2i]); simp [-getElem?_pos, z0, z1, z2, g2, g2i]
  repeat (first | (with_reducible first | refine zq1 fun _ => ?_ | refine zq2 fun _ => ?_ | refine zq3 ?_) | ((first | refine zq4 ?_ | refine zq5 fun _ _ => ?_ | refine zq6 ?_); simp [-getElem?_pos, z0, z1, z2, g2, g2i]) | ((first | refine AWp.ret ?_ | refine AWp.skip ?_ | refine AWp.exit ?_); try simp only [thenP]) | (with_reducible refine zq7 ?_; simp only [blockP, thenP, reduceIte]) | with_reducible refine zq8 ?_)
  (first | refine Exec0.call [] c1 ?_ rfl ?_ ?_ | refine Exec.call [] c1 ?_ rfl ?_ ?_); (focus simp [-getElem?_pos, z0]); (focus simp [-getElem?_pos, z0, z1, z2, z0]); simp [-getElem?_pos, z0, z1, z2, z0]
  repeat (first | (with_reducible first | refine zq1 fun _ => ?_ | refine zq2 fun _ => ?_ | refine zq3 ?_) | ((first | refine zq4 ?_ | refine zq5 fun _ _ => ?_ | refine zq6 ?_); simp [-getElem?_pos, z0, z1, z2, z0]) | ((first | refine AWp.ret ?_ | refine AWp.skip ?_ | refine AWp.exit ?_); try simp only [thenP]) | (with_reducible refine zq7 ?_; simp only [blockP, thenP, reduceIte]) | with_reducible refine zq8 ?_)
  (first | refine Exec0.call [] c2 ?_ rfl ?_ ?_ | refine Exec.call [] c2 ?_ rfl ?_ ?_); (focus simp [-getElem?_pos, z0]); (focus simp [-getElem?_pos, z0, z1, z2, z0]); simp [-getElem?_pos, z0, z1, z2, z0]
  repeat (first | (with_reducible first | refine zq1 fun _ => ?_ | refine zq2 fun _ => ?_ | refine zq3 ?_) | ((first | refine zq4 ?_ | refine zq5 fun _ _ => ?_ | refine zq6 ?_); simp [-getElem?_pos, z0, z1, z2, z0]) | ((first | refine AWp.ret ?_ | refine AWp.skip ?_ | refine AWp.exit ?_); try simp only [thenP]) | (with_reducible refine zq7 ?_; simp only [blockP, thenP, reduceIte]) | with_reducible refine zq8 ?_)
  (first | refine Exec0.call [] c3 ?_ rfl ?_ ?_ | refine Exec.call [] c3 ?_ rfl ?_ ?_); (focus simp [-getElem?_pos, z0]); (focus simp [-getElem?_pos, z0, z1, z2, z0]); simp [-getElem?_pos, z0, z1, z2, z0]
  repeat (first | (with_reducible first | refine zq1 fun _ => ?_ | refine zq2 fun _ => ?_ | refine zq3 ?_) | ((first | refine zq4 ?_ | refine zq5 fun _ _ => ?_ | refine zq6 ?_); simp [-getElem?_pos, z0, z1, z2, z0]) | ((first | refine AWp.ret ?_ | refine AWp.skip ?_ | refine AWp.exit ?_); try simp only [thenP]) | (with_reducible refine zq7 ?_; simp only [blockP, thenP, reduceIte]) | with_reducible refine zq8 ?_)
  (first | refine Exec0.call [] c4 ?_ rfl ?_ ?_ | refine Exec.call [] c4 ?_ rfl ?_ ?_); (focus simp [-getElem?_pos, z0]); (focus simp [-getElem?_pos, z0, z1, z2, z0]); simp [-getElem?_pos, z0, z1, z2, z0]
  repeat (first | (with_reducible first | refine zq1 fun _ => ?_ | refine zq2 fun _ => ?_ | refine zq3 ?_) | ((first | refine zq4 ?_ | refine zq5 fun _ _ => ?_ | refine zq6 ?_); simp [-getElem?_pos, z0, z1, z2, z0]) | ((first | refine AWp.ret ?_ | refine AWp.skip ?_ | refine AWp.exit ?_); try simp only [thenP]) | (with_reducible refine zq7 ?_; simp only [blockP, thenP, reduceIte]) | with_reducible refine zq8 ?_)
  (first | refine Exec0.call [] i1 ?_ rfl ?_ ?_ | refine Exec.call [] i1 ?_ rfl ?_ ?_); (focus simp [-getElem?_pos, z0]); (focus simp [-getElem?_pos, z0, z1, z2, z0]); simp [-getElem?_pos, z0, z1, z2, z0]
  repeat (first | (with_reducible first | refine zq1 fun _ => ?_ | refine zq2 fun _ => ?_ | refine zq3 ?_) | ((first | refine zq4 ?_ | refine zq5 fun _ _ => ?_ | refine zq6 ?_); simp [-getElem?_pos, z0, z1, z2, z0]) | ((first | refine AWp.ret ?_ | refine AWp.skip ?_ | refine AWp.exit ?_); try simp only [thenP]) | (with_reducible refine zq7 ?_; simp only [blockP, thenP, reduceIte]) | with_reducible refine zq8 ?_)
  (first | refine Exec0.call [] i2 ?_ rfl ?_ ?_ | refine Exec.call [] i2 ?_ rfl ?_ ?_); (focus simp [-getElem?_pos, z0]); (focus simp [-getElem?_pos, z0, z1, z2, z0]); simp [-getElem?_pos, z0, z1, z2, z0]
  repeat (first | (with_reducible first | refine zq1 fun _ => ?_ | refine zq2 fun _ => ?_ | refine zq3 ?_) | ((first | refine zq4 ?_ | refine zq5 fun _ _ => ?_ | refine zq6 ?_); simp [-getElem?_pos, z0, z1, z2, z0]) | ((first | refine AWp.ret ?_ | refine AWp.skip ?_ | refine AWp.exit ?_); try simp only [thenP]) | (with_reducible refine zq7 ?_; simp only [blockP, thenP, reduceIte]) | with_reducible refine zq8 ?_)
  (first | refine Exec0.call [] c5 ?_ rfl ?_ ?_ | refine Exec.call [] c5 ?_ rfl ?_ ?_); (focus simp [-getElem?_pos, z0]); (focus simp [-getElem?_pos, z0, z1, z2, z0]); simp [-getElem?_pos, z0, z1, z2, z0]
  repeat (first | (with_reducible first | refine zq1 fun _ => ?_ | refine zq2 fun _ => ?_ | refine zq3 ?_) | ((first | refine zq4 ?_ | refine zq5 fun _ _ => ?_ | refine zq6 ?_); simp [-getElem?_pos, z0, z1, z2, z0]) | ((first | refine AWp.ret ?_ | refine AWp.skip ?_ | refine AWp.exit ?_); try simp only [thenP]) | (with_reducible refine zq7 ?_; simp only [blockP, thenP, reduceIte]) | with_reducible refine zq8 ?_)
  (first | refine Exec0.call [] c6 ?_ rfl ?_ ?_ | refine Exec.call [] c6 ?_ rfl ?_ ?_); (focus simp [-getElem?_pos, z0]); (focus simp [-getElem?_pos, z0, z1, z2, z0]); simp [-getElem?_pos, z0, z1, z2, z0]
  repeat (first | (with_reducible first | refine zq1 fun _ => ?_ | refine zq2 fun _ => ?_ | refine zq3 ?_) | ((first | refine zq4 ?_ | refine zq5 fun _ _ => ?_ | refine zq6 ?_); simp [-getElem?_pos, z0, z1, z2, z0]) | ((first | refine AWp.ret ?_ | refine AWp.skip ?_ | refine AWp.exit ?_); try simp only [thenP]) | (with_reducible refine zq7 ?_; simp only [blockP, thenP, reduceIte]) | with_reducible refine zq8 ?_)
  (first | refine Exec0.call [] cw ?_ rfl ?_ ?_ | refine Exec.call [] cw ?_ rfl ?_ ?_); (focus simp [-getElem?_pos, z0]); (focus simp [-getElem?_pos, z0, z1, z2, z0]); simp [-getElem?_pos, z0, z1, z2, z0]
  repeat (first | (with_reducible first | refine zq1 fun _ => ?_ | refine zq2 fun _ => ?_ | refine zq3 ?_) | ((first | refine zq4 ?_ | refine zq5 fun _ _ => ?_ | refine zq6 ?_); simp [-getElem?_pos, z0, z1, z2, z0]) | ((first | refine AWp.ret ?_ | refine AWp.skip ?_ | refine AWp.exit ?_); try simp only [thenP]) | (with_reducible refine zq7 ?_; simp only [blockP, thenP, reduceIte]) | with_reducible refine zq8 ?_)
  (first | refine RR.ret ?_ | refine RR.normal ?_); simp [z0]
end Go.Proofs.Ytgiomfamlbmpcaa.Eng

namespace Go.Proofs.Ytgiomfamlbmpcaa.honeFars
open Go.ChangeShapes Go.WideShapes Go.ChangeAt Go.RowKit Go.Deep
theorem own : ownKnob Try.prog.godebug = none := by kernel_rfl
theorem kids : Kids Try.prog (· < Try.prog.types.size) := kids_rows (by kernel_rfl) (by kernel_rfl)
theorem full : ∀ t e, t < Try.prog.types.size → Try.prog.underlying t = some (.slice e) → 0 < Try.prog.cellsOf e := slices_full_of Try.prog (by kernel_rfl)
theorem rowed : ∀ t ∈ Try.f6.params.toList, t < Try.prog.types.size := of_decide_eq_true (by kernel_rfl)
set_option maxRecDepth 100000 in
set_option maxHeartbeats 1000000 in
theorem lifted (os : Os) (started : os.Started) (H : Type) (enc : TypeId × Value → H) :
    ReturnsInHanded {} Try.checked os 6 .any (Rows.honeFarsSpec.pre6 enc Try.prog Try.f6 Rows.honeFarsRow.domain false) (Rows.honeFarsSpec.post enc Try.prog Try.f6 false true false false) := by
  refine returnsInHanded_of_change (C := Try.checked) own started (by kernel_rfl) Try.func6
    (ChangeSpec.witness6 (enc := enc) (C := Try.checked) false ⟨#[], #[.slice none 0 0, .agg #[.int .i64 0, .int .i64 0], .agg #[.int .i64 0, .int .i64 0], .int .i64 0, .slice none 0 0], []⟩ 8 (by kernel_rfl) (by kernel_rfl) (by kernel_rfl) (by kernel_rfl)) ?_
  intro W base args ds gs before hval0 hW hcnd _
  have hval : ∀ (j : Nat) t v, Try.f6.params[j]? = some t → args[j]? = some v → Value.okWide Try.prog W .any base t v := hval0
  have hW' := hW
  obtain ⟨p, q, hA0, hV, rfl, hfz, hnd⟩ := hW
  have hA : DataW.TrodAll enc Try.prog W 0 (fun _ => true) true Try.f6.params.toList args.toList ds p := hA0
  have hAk := hA
  rw [Try.params6] at hA hval
  obtain ⟨v0, vs0, d0, ds0, a0, b0, e0, f0, rfl, h0, t0⟩ := trodAll_cons hA
  obtain ⟨v1, vs1, d1, ds1, a1, b1, e1, f1, rfl, h1, t1⟩ := trodAll_cons t0
  obtain ⟨v2, vs2, d2, ds2, a2, b2, e2, f2, rfl, h2, t2⟩ := trodAll_cons t1
  obtain ⟨v3, vs3, d3, ds3, a3, b3, e3, f3, rfl, h3, t3⟩ := trodAll_cons t2
  obtain ⟨v4, vs4, d4, ds4, a4, b4, e4, f4, rfl, h4, t4⟩ := trodAll_cons t3
  obtain ⟨en, fn, rfl⟩ := trodAll_nil t4
  subst en
  subst fn
  subst e4
  subst f4
  subst e3
  subst f3
  subst e2
  subst f2
  subst e1
  subst f1
  subst f0
  have ea : args = #[v0, v1, v2, v3, v4] := by rw [← Array.toList_inj]; exact e0
  subst ea
  clear e0
  obtain ⟨rfl, rfl⟩ := trodVars_none hV
  clear hA0 hval0 hA
  simp only [List.append_nil] at hW' hAk
  have o0 := hval 0 _ _ rfl rfl
  have o1 := hval 1 _ _ rfl rfl
  have o2 := hval 2 _ _ rfl rfl
  have o3 := hval 3 _ _ rfl rfl
  have o4 := hval 4 _ _ rfl rfl
  clear hval
  obtain ⟨D0, s0, r0⟩ := Eng.open_sh (n := 9) (.sl Eng.shStone) (by kernel_rfl) o0 h0
  obtain ⟨D1, s1, r1⟩ := Eng.open_sh (n := 9) (Eng.shEdge) (by kernel_rfl) o1 h1
  obtain ⟨D2, s2, r2⟩ := Eng.open_sh (n := 9) (Eng.shEdge) (by kernel_rfl) o2 h2
  obtain ⟨D3, s3, r3⟩ := Eng.open_sh (n := 9) (.int .i64) (by kernel_rfl) o3 h3
  obtain ⟨D4, s4, r4⟩ := Eng.open_sh (n := 9) (.sl (.int .i64)) (by kernel_rfl) o4 h4
  obtain ⟨l, rfl⟩ := Eng.box_in s0
  obtain ⟨e, rfl⟩ := Eng.edge_in s1
  obtain ⟨g, rfl⟩ := Eng.edge_in s2
  obtain ⟨k, rfl, -⟩ := s3
  obtain ⟨r, rfl⟩ := Eng.ints_in s4
  refine Calls.mono (Eng.law_true (Eng.honeFars_c l e g k r) rfl (Eng.reps_cons r0 (Eng.reps_cons r1 (Eng.reps_cons r2 (Eng.reps_cons r3 (Eng.reps_cons r4 Eng.reps_nil)))))) fun e W' ⟨he, hb⟩ => ?_
  subst he
  exact ⟨_, rfl, post_later (pv := []) hW' (List.append_nil _).symm (fun _ _ _ => (trodAll_cons_mk (shut_bool Try.underlying4 _) trodAll_mk0))
    (fun sp hsp => Eng.args_later' kids full rowed hAk hb hsp) (fun _ _ => rfl) (ok_one (by kernel_rfl) rfl (okWide_bool_mk Try.underlying4 _)) hb⟩
theorem over : Rows.honeFarsRow.holds Try.pinned (OpenSpec.ofChange Rows.honeFarsSpec) :=
  OpenClaim.holds_of_wide 6 Try.f6 rfl rfl rfl rfl rfl rfl rfl ⟨rfl, rfl, rfl, rfl, rfl⟩ rfl rfl rfl rfl rfl (by kernel_rfl) Try.func6 (by kernel_rfl)
    (of_decide_eq_true (by kernel_rfl)) (by unfold Func.isWrapper; first | (rw [if_pos (by decide +kernel)]; kernel_rfl) | (rw [if_neg (by decide +kernel)]; exact ⟨rfl, rfl⟩))
    (fun os started H enc _ => lifted os started H enc)
theorem proved : Rows.HoneFarsSaid := over
end Go.Proofs.Ytgiomfamlbmpcaa.honeFars
